
/- Take: of no rumor, and where it tells an error. -/
import Derived.Test.YtdcekfbejjjkkaaRU16
import Derived.Test.YtdcekfbejjjkkaaRU11
namespace Go.Proofs.Ytdcekfbejjjkkaa
open Go.RowKit Go.Sort Go.Shelf Go.Lib

set_option maxHeartbeats 1600000 in
theorem turns_none (v : Value) (w : World) (hv : RSl w v []) :
    Calls Try.prog 30 #[v] w fun e w' => e = .returned (.slice none 0 0) ∧ Below w.heap.size w w' := by
  obtain ⟨pa, ca, rfl, _, _⟩ := hv
  simp only [List.length_nil]
  have hs := fun (fv : Value) (W : World) => AnyF.slices_SortFunc_none (P := Try.prog) (ρ := Try.sortI_ren) { Try.sortI with } none 0 fv W
  have HS : Hid (∀ (fv : Value) (W : World), Calls Try.prog 38 #[.slice none 0 0, fv] W fun e w' => e = .returned (.tuple #[]) ∧ w' = W) := hs
  clear hs
  have hB0 : Below w.heap.size w (w.alloc (.cells #[.slice pa 0 ca] 22)) := (Below.refl _ _).alloc (Nat.le_refl _) _
  go_enter Try.func30, Try.ntmps30
  go_wp2_with fail
  refine wp_loop_rounds 1 ?_
  rw [rounds_succ]
  go_wp2_with fail
  refine (HS.out _ _).mono ?_
  rintro e w' ⟨rfl, rfl⟩
  go_wp2_with fail
  go_ret
  exact ⟨rfl, hB0⟩

set_option maxHeartbeats 1600000 in
theorem indexFunc_none (p : Option Addr) (c : Nat) (fv : Value) (w : World) :
    Calls Try.prog 42 #[.slice p 0 c, fv] w fun e w' => e = .returned (.int .i64 (-1)) ∧ w' = w := by
  go_enter Try.func42, Try.ntmps42
  go_wp2_with fail
  refine wp_loop_rounds 1 ?_
  rw [rounds_succ]
  go_wp2_with fail
  go_ret
  exact ⟨rfl, rfl⟩

set_option maxHeartbeats 1600000 in
theorem deleteFunc_none (p : Option Addr) (c : Nat) (fv : Value) (w : World) :
    Calls Try.prog 31 #[.slice p 0 c, fv] w fun e w' => e = .returned (.slice p 0 c) ∧ w' = w := by
  go_enter Try.func31, Try.ntmps31
  go_wp2_with fail
  refine (indexFunc_none _ _ _ _).mono ?_
  rintro e w' ⟨rfl, rfl⟩
  go_wp2_with fail
  go_ret
  exact ⟨rfl, rfl⟩

set_option maxHeartbeats 1600000 in
theorem take_none (v : Value) (most times : Int) (w : World) (hv : RSl w v []) (h0 : chkR [] = 0) (hm : within most 1 20 = true) (ht : within times 1 100 = true) :
    Calls Try.prog 14 #[v, .int .i64 most, .int .i64 times] w fun e w' => ∃ v1 v2, e = .returned (.tuple #[v1, v2, .int .i64 0]) ∧ Own w.heap.size w' v1 [] ∧ ROwn w.heap.size w' v2 [] ∧ Below w.heap.size w w' := by
  have HV : Hid (RSl w v []) := hv
  have hm1 : 1 ≤ most ∧ most ≤ 20 := by simp [within] at hm; omega
  obtain ⟨hm1, hm2⟩ := hm1
  have hchk := fun (w : World) (h : RSl w v []) => checkR_any [] v w h
  rw [h0] at hchk
  obtain ⟨pa, ca, rfl, _, _⟩ := hv
  simp only [List.length_nil] at *
  have hB0 : Below w.heap.size w (w.alloc (.cells #[.int .i64 times] 3)) := (Below.refl _ _).alloc (Nat.le_refl _) _
  go_enter Try.func14, Try.ntmps14
  go_wp2_with fail
  refine (hchk _ (HV.out.below hB0)).mono ?_
  rintro e w1 ⟨rfl, hb1⟩
  have c1 : w1.cell? ⟨w.heap.size, 0, none⟩ = some (.int .i64 times) := by
    rw [hb1.cell (p := ⟨w.heap.size, 0, none⟩) (by simp)]; exact cell_top' rfl
  have HB1 : Hid (Below w.heap.size w w1) := hB0.trans (hb1.mono (by simp))
  clear hb1 hB0 hchk
  go_wp2_with (go_at_call 29; refine (within_any _ _ _ _).mono ?_; rintro e w' ⟨rfl, rfl⟩; first | rw [hm] | rw [ht])
  refine (rclone_any [] _ _ (HV.out.below HB1.out) (by simp)).mono ?_
  rintro e w3 ⟨v3, rfl, ho3, hb3⟩
  have HO3 : Hid (ROwn w.heap.size w3 v3 []) := ho3.base HB1.out.size
  have HB3 : Hid (Below w.heap.size w w3) := HB1.out.trans (hb3.mono HB1.out.size)
  clear hb3 ho3 c1
  go_wp2_with fail
  refine (turns_none _ _ (HV.out.below HB3.out)).mono ?_
  rintro e w4 ⟨rfl, hb4⟩
  have HB4 : Hid (Below w.heap.size w w4) := HB3.out.trans (hb4.mono HB3.out.size)
  have HO4 : Hid (ROwn w.heap.size w4 v3 []) := HO3.out.below hb4
  clear hb4 HO3
  obtain ⟨g, c, hv3⟩ : ∃ g c, v3 = .slice g 0 c := by
    rcases HO4.out.2 with ⟨h, _⟩ | ⟨g, c, cur, h, _⟩
    · exact ⟨_, _, h⟩
    · exact ⟨_, _, h⟩
  subst hv3
  have hmin : min most 0 = 0 := by omega
  go_wp2_with fail
  refine wp_loop_rounds 1 ?_
  rw [rounds_succ]
  go_wp2_with fail
  refine (deleteFunc_none _ _ _ _).mono ?_
  rintro e w' ⟨rfl, rfl⟩
  go_wp2_with fail
  go_ret3
  exact ⟨_, _, rfl, own_nil _ _, HO4.out, HB4.out⟩

set_option maxHeartbeats 800000 in
theorem take_bad1 (rs : List Rum) (v : Value) (most times : Int) (w : World) (hv : RSl w v rs) (h0 : chkR rs ≠ 0) :
    Calls Try.prog 14 #[v, .int .i64 most, .int .i64 times] w fun e w' => e = .returned (.tuple #[.slice none 0 0, .slice none 0 0, .int .i64 (chkR rs)]) ∧ Below w.heap.size w w' := by
  have HV : Hid (RSl w v rs) := hv
  have hne : (chkR rs != 0) = true := by simpa using h0
  have hchk := fun (w : World) (h : RSl w v rs) => checkR_any rs v w h
  clear hv h0
  generalize chkR rs = q at *
  have hB0 : Below w.heap.size w (w.alloc (.cells #[.int .i64 times] 3)) := (Below.refl _ _).alloc (Nat.le_refl _) _
  go_enter Try.func14, Try.ntmps14
  go_wp2_with fail
  refine (hchk _ (HV.out.below hB0)).mono ?_
  rintro e w1 ⟨rfl, hb1⟩
  have HB1 : Hid (Below w.heap.size w w1) := hB0.trans (hb1.mono (by simp))
  clear hb1 hB0 hchk
  go_wp2_with fail
  go_ret3
  exact ⟨rfl, HB1.out⟩

set_option maxHeartbeats 800000 in
theorem take_bad2 (rs : List Rum) (v : Value) (most times : Int) (w : World) (hv : RSl w v rs) (h0 : chkR rs = 0) (hb : within most 1 20 = false ∨ within times 1 100 = false) :
    Calls Try.prog 14 #[v, .int .i64 most, .int .i64 times] w fun e w' => e = .returned (.tuple #[.slice none 0 0, .slice none 0 0, .int .i64 3]) ∧ Below w.heap.size w w' := by
  have HV : Hid (RSl w v rs) := hv
  have hchk := fun (w : World) (h : RSl w v rs) => checkR_any rs v w h
  rw [h0] at hchk
  clear hv h0
  have hB0 : Below w.heap.size w (w.alloc (.cells #[.int .i64 times] 3)) := (Below.refl _ _).alloc (Nat.le_refl _) _
  rcases hm : within most 1 20 with _ | _
  · go_enter Try.func14, Try.ntmps14
    go_wp2_with fail
    refine (hchk _ (HV.out.below hB0)).mono ?_
    rintro e w1 ⟨rfl, hb1⟩
    have HB1 : Hid (Below w.heap.size w w1) := hB0.trans (hb1.mono (by simp))
    clear hb1 hB0 hchk
    go_wp2_with (go_at_call 29; refine (within_any _ _ _ _).mono ?_; rintro e w' ⟨rfl, rfl⟩; rw [hm])
    go_ret3
    exact ⟨rfl, HB1.out⟩
  · have ht : within times 1 100 = false := by
      rcases hb with h | h
      · rw [hm] at h; cases h
      · exact h
    clear hb
    go_enter Try.func14, Try.ntmps14
    go_wp2_with fail
    refine (hchk _ (HV.out.below hB0)).mono ?_
    rintro e w1 ⟨rfl, hb1⟩
    have c1 : w1.cell? ⟨w.heap.size, 0, none⟩ = some (.int .i64 times) := by
      rw [hb1.cell (p := ⟨w.heap.size, 0, none⟩) (by simp)]; exact cell_top' rfl
    have HB1 : Hid (Below w.heap.size w w1) := hB0.trans (hb1.mono (by simp))
    clear hb1 hB0 hchk
    go_wp2_with (go_at_call 29; refine (within_any _ _ _ _).mono ?_; rintro e w' ⟨rfl, rfl⟩; first | rw [hm] | rw [ht])
    go_ret3
    exact ⟨rfl, HB1.out⟩

end Go.Proofs.Ytdcekfbejjjkkaa
