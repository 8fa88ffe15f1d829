
/- The law RumorTakes, whatever it is handed. -/
import Derived.Test.YtdcekfbejjjkkaaRU21
namespace Go.Proofs.Ytdcekfbejjjkkaa
open Go.RowKit

set_option maxHeartbeats 1600000 in
theorem takes_bad1 (rs : List Rum) (v : Value) (most times : Int) (w : World) (hv : RSl w v rs) (h0 : chkR rs ≠ 0) :
    Calls Try.prog 4 #[v, .int .i64 most, .int .i64 times] w fun e w' => e = .returned (.bool true) ∧ Below w.heap.size w w' := by
  have HV : Hid (RSl w v rs) := hv
  have hT := fun w hv => take_bad1 rs v most times w hv h0
  have hck := fun w hv => checkRumors_any rs v w hv
  have hne : (chkR rs != 0) = true := by simpa using h0
  have hne2 : (chkR rs == 0) = false := by simpa using h0
  clear hv h0
  generalize chkR rs = q at *
  go_enter Try.func4, Try.ntmps4
  go_wp2_with fail
  refine (hT _ HV.out).mono ?_
  rintro e w1 ⟨rfl, hb1⟩
  have HB1 : Hid (Below w.heap.size w w1) := hb1
  clear hb1 hT
  go_wp2_with fail
  refine (hck _ (HV.out.below HB1.out)).mono ?_
  rintro e w2 ⟨rfl, hb2⟩
  have HB2 : Hid (Below w.heap.size w w2) := HB1.out.trans (hb2.mono HB1.out.size)
  clear hb2 hck HB1
  go_wp2_with fail
  refine (rumorBegun_any _).mono ?_
  rintro e w4 ⟨rfl, hb4⟩
  have HB4 : Hid (Below w.heap.size w w4) := HB2.out.trans (hb4.mono HB2.out.size)
  clear hb4 HB2
  go_wp2_with fail
  refine (same_any [] [] _ _ _ (sl_none _) (sl_none _) (by simp)).mono ?_
  rintro e w5 ⟨r, rfl, hr, hb5⟩
  have hrt : r = true := hr.2 rfl
  subst hrt
  have HB5 : Hid (Below w.heap.size w w5) := HB4.out.trans (hb5.mono HB4.out.size)
  clear hb5 hr HB4
  go_wp2_with fail
  refine (sameR_self [] _ _ _ (rsl_nil _) (rsl_nil _) (by simp)).mono ?_
  rintro e w6 ⟨rfl, hb6⟩
  have HB6 : Hid (Below w.heap.size w w6) := HB5.out.trans (hb6.mono HB5.out.size)
  clear hb6
  go_wp2_with fail
  go_ret
  exact ⟨rfl, HB6.out⟩

set_option maxHeartbeats 3200000 in
theorem takes_bad2 (rs : List Rum) (v : Value) (most times : Int) (w : World) (hv : RSl w v rs) (h0 : chkR rs = 0) (hb : within most 1 20 = false ∨ within times 1 100 = false) :
    Calls Try.prog 4 #[v, .int .i64 most, .int .i64 times] w fun e w' => e = .returned (.bool true) ∧ Below w.heap.size w w' := by
  have HV : Hid (RSl w v rs) := hv
  have hT := fun w hv => take_bad2 rs v most times w hv h0 hb
  have hck := fun w hv => checkRumors_any rs v w hv
  rw [h0] at hck
  have hc : (decide (most < 1) = true) ∨ (decide (most < 1) = false ∧ decide (20 < most) = true) ∨ (decide (most < 1) = false ∧ decide (20 < most) = false ∧ decide (times < 1) = true) ∨ (decide (most < 1) = false ∧ decide (20 < most) = false ∧ decide (times < 1) = false ∧ decide (100 < times) = true) := by
    simp only [within, Bool.and_eq_false_iff, decide_eq_false_iff_not, decide_eq_true_eq] at hb ⊢
    omega
  clear hv h0 hb
  rcases hc with h1 | ⟨h1, h2⟩ | ⟨h1, h2, h3⟩ | ⟨h1, h2, h3, h4⟩
  all_goals
    go_enter Try.func4, Try.ntmps4
    go_wp2_with fail
    refine (hT _ HV.out).mono ?_
    rintro e w1 ⟨rfl, hb1⟩
    have HB1 : Hid (Below w.heap.size w w1) := hb1
    clear hb1 hT
    go_wp2_with fail
    refine (hck _ (HV.out.below HB1.out)).mono ?_
    rintro e w2 ⟨rfl, hb2⟩
    have HB2 : Hid (Below w.heap.size w w2) := HB1.out.trans (hb2.mono HB1.out.size)
    clear hb2 hck HB1
    go_wp2_with fail
    refine (rumorBegun_any _).mono ?_
    rintro e w4 ⟨rfl, hb4⟩
    have HB4 : Hid (Below w.heap.size w w4) := HB2.out.trans (hb4.mono HB2.out.size)
    clear hb4 HB2
    go_wp2_with fail
    refine (same_any [] [] _ _ _ (sl_none _) (sl_none _) (by simp)).mono ?_
    rintro e w5 ⟨r, rfl, hr, hb5⟩
    have hrt : r = true := hr.2 rfl
    subst hrt
    have HB5 : Hid (Below w.heap.size w w5) := HB4.out.trans (hb5.mono HB4.out.size)
    clear hb5 hr HB4
    go_wp2_with fail
    refine (sameR_self [] _ _ _ (rsl_nil _) (rsl_nil _) (by simp)).mono ?_
    rintro e w6 ⟨rfl, hb6⟩
    have HB6 : Hid (Below w.heap.size w w6) := HB5.out.trans (hb6.mono HB5.out.size)
    clear hb6
    go_wp2_with fail
    go_ret
    exact ⟨rfl, HB6.out⟩

theorem rumorTakes_walk (rs : List Rum) (v : Value) (most times : Int) (w : World) (hv : RSl w v rs) :
    Calls Try.prog 4 #[v, .int .i64 most, .int .i64 times] w fun e w' => e = .returned (.bool true) ∧ Below w.heap.size w w' := by
  by_cases h0 : chkR rs = 0
  · rcases hm : within most 1 20 with _ | _
    · exact takes_bad2 rs v most times w hv h0 (.inl hm)
    · rcases ht : within times 1 100 with _ | _
      · exact takes_bad2 rs v most times w hv h0 (.inr ht)
      · exact takes_good rs v most times w hv h0 hm ht
  · exact takes_bad1 rs v most times w hv h0

end Go.Proofs.Ytdcekfbejjjkkaa
