
/- The law RumorTakes. -/
import Derived.Test.YtdcekfbejjjkkaaRU20
import Derived.Test.YtdcekfbejjjkkaaMJ
namespace Go.Proofs.Ytdcekfbejjjkkaa
open Go.RowKit

theorem sl_none (w : World) : Sl w (.slice none 0 0) [] := ⟨none, 0, rfl, fun j => by simp [dm], .inl rfl⟩
def Short (l : List Rum) : Prop := ∀ r ∈ l, r.m.name.size ≤ maxLen
theorem short_bumpOne {l : List Rum} (h : Short l) (i : Nat) : Short (bumpOne l i) := fun r hr => by
  rcases List.mem_or_eq_of_mem_set hr with h1 | h1
  · exact h r h1
  · subst h1; exact rns_get h i
theorem short_foldl : ∀ (is : List Nat) (l : List Rum), Short l → Short (is.foldl bumpOne l)
  | [], _, h => h
  | i :: r, _, h => short_foldl r _ (short_bumpOne h i)

/-- What Take says, and the document with it. -/
def Takes (rs : List Rum) (v : Value) (most times : Int) : Prop := ∀ w, RSl w v rs → Calls Try.prog 14 #[v, .int .i64 most, .int .i64 times] w fun e w' =>
  ∃ (v1 v2 : Value) (tl : List Mem) (rl : List Rum), e = .returned (.tuple #[v1, v2, .int .i64 0]) ∧ Sl w' v1 tl ∧ RSl w' v2 rl ∧ tl.length ≤ 20 ∧ rl.length ≤ 20 ∧ Below w.heap.size w w' ∧
    ∀ w, RSl w v rs → Calls Try.prog 15 #[v, .int .i64 most, .int .i64 times] w fun e w' => ∃ v1 v2, e = .returned (.tuple #[v1, v2]) ∧ Sl w' v1 tl ∧ RSl w' v2 rl ∧ Below w.heap.size w w'

theorem takes_all (rs : List Rum) (v : Value) (most times : Int) (h0 : chkR rs = 0) (hm : within most 1 20 = true) (ht : within times 1 100 = true) : Takes rs v most times := by
  intro w hv
  have hm1 : 1 ≤ most ∧ most ≤ 20 := by simp [within] at hm; omega
  obtain ⟨hn20, _, htold, _⟩ := chkR_zero h0
  cases rs with
  | nil =>
    refine (take_none v most times w hv h0 hm ht).mono ?_
    rintro e w' ⟨v1, v2, rfl, o1, o2, hb⟩
    refine ⟨v1, v2, [], [], rfl, o1.sl (ns_get (by simp)), o2.names (by simp), by simp, by simp, hb, fun w hv => (takeRumors_none v most times w hv hm1.1).mono ?_⟩
    rintro e w' ⟨v1, v2, rfl, o1, o2, hb⟩
    exact ⟨v1, v2, rfl, o1.sl (ns_get (by simp)), o2.names (by simp), hb⟩
  | cons r0 rest =>
    have hs : ∀ j, ((r0 :: rest).getD j dr).m.name.size ≤ maxLen := by obtain ⟨_, _, _, h, _⟩ := hv; exact h
    have hsh : Short (r0 :: rest) := rns_mem hs
    generalize hR : r0 :: rest = rs at *
    have hpos : 0 < rs.length := by rw [← hR]; simp
    obtain ⟨m, hm'⟩ : ∃ m, rs.length = m + 1 := ⟨rs.length - 1, by omega⟩
    refine (take_some rs v most times w hv h0 hm ht hpos (turns_some rs v m hm' (by omega))).mono ?_
    rintro e w' ⟨v1, v2, ord, rfl, hord, o1, o2, hb⟩
    have n1 : ∀ m ∈ toldL rs ord (min most.toNat rs.length), m.name.size ≤ maxLen := fun x hx => by
      unfold toldL at hx
      obtain ⟨i, _, rfl⟩ := List.mem_map.1 hx
      exact hs i
    have n2 : ∀ r ∈ (bump rs ord (min most.toNat rs.length)).filter (keepR times), r.m.name.size ≤ maxLen := fun r hr =>
      short_foldl _ _ hsh r (List.mem_filter.1 hr).1
    refine ⟨v1, v2, _, _, rfl, o1.sl (ns_get n1), o2.names n2, ?_, ?_, hb, fun w hv => (takeRumors_some rs v most times w hv hpos hn20 hm1.1 hm1.2 htold ord hord).mono ?_⟩
    · unfold toldL; rw [List.length_map, List.length_take]; omega
    · have h1 := List.length_filter_le (keepR times) (bump rs ord (min most.toNat rs.length))
      rw [bump_len] at h1
      omega
    · rintro e w' ⟨v1, v2, rfl, o1, o2, hb⟩
      exact ⟨v1, v2, rfl, o1.sl (ns_get n1), o2.names n2, hb⟩

set_option maxHeartbeats 1600000 in
theorem takes_good (rs : List Rum) (v : Value) (most times : Int) (w : World) (hv : RSl w v rs) (h0 : chkR rs = 0) (hm : within most 1 20 = true) (ht : within times 1 100 = true) :
    Calls Try.prog 4 #[v, .int .i64 most, .int .i64 times] w fun e w' => e = .returned (.bool true) ∧ Below w.heap.size w w' := by
  have HV : Hid (RSl w v rs) := hv
  have HT : Hid (Takes rs v most times) := takes_all rs v most times h0 hm ht
  have m1 : decide (most < 1) = false := by simp [within] at hm; simp; omega
  have m2 : decide (20 < most) = false := by simp [within] at hm; simp; omega
  have t1 : decide (times < 1) = false := by simp [within] at ht; simp; omega
  have t2 : decide (100 < times) = false := by simp [within] at ht; simp; omega
  have hck := fun w hv => checkRumors_any rs v w hv
  rw [h0] at hck
  clear hv h0 hm ht
  go_enter Try.func4, Try.ntmps4
  go_wp2_with fail
  refine (HT.out _ HV.out).mono ?_
  rintro e w1 ⟨v1, v2, tl, rl, rfl, s1, s2, l1, l2, hb1, hD⟩
  have HD : Hid (∀ w, RSl w v rs → Calls Try.prog 15 #[v, .int .i64 most, .int .i64 times] w fun e w' => ∃ v1 v2, e = .returned (.tuple #[v1, v2]) ∧ Sl w' v1 tl ∧ RSl w' v2 rl ∧ Below w.heap.size w w') := hD
  have S1 : Hid (Sl w1 v1 tl) := s1
  have S2 : Hid (RSl w1 v2 rl) := s2
  have HB1 : Hid (Below w.heap.size w w1) := hb1
  clear hb1 s1 s2 hD
  go_wp2_with fail
  refine (hck _ (HV.out.below HB1.out)).mono ?_
  rintro e w2 ⟨rfl, hb2⟩
  have P1 : Hid (Sl w2 v1 tl) := S1.out.below hb2
  have P2 : Hid (RSl w2 v2 rl) := S2.out.below hb2
  have HB2 : Hid (Below w.heap.size w w2) := HB1.out.trans (hb2.mono HB1.out.size)
  clear hb2 hck S1 S2 HB1
  go_wp2_with fail
  refine (HD.out _ (HV.out.below HB2.out)).mono ?_
  rintro e w3 ⟨x1, x2, rfl, s1, s2, hb3⟩
  have Q1 : Hid (Sl w3 v1 tl) := P1.out.below hb3
  have Q2 : Hid (RSl w3 v2 rl) := P2.out.below hb3
  have X1 : Hid (Sl w3 x1 tl) := s1
  have X2 : Hid (RSl w3 x2 rl) := s2
  have HB3 : Hid (Below w.heap.size w w3) := HB2.out.trans (hb3.mono HB2.out.size)
  clear hb3 s1 s2 P1 P2 HB2
  go_wp2_with fail
  refine (rumorBegun_any _).mono ?_
  rintro e w4 ⟨rfl, hb4⟩
  have R1 : Hid (Sl w4 v1 tl) := Q1.out.below hb4
  have R2 : Hid (RSl w4 v2 rl) := Q2.out.below hb4
  have Y1 : Hid (Sl w4 x1 tl) := X1.out.below hb4
  have Y2 : Hid (RSl w4 x2 rl) := X2.out.below hb4
  have HB4 : Hid (Below w.heap.size w w4) := HB3.out.trans (hb4.mono HB3.out.size)
  clear hb4 Q1 Q2 X1 X2 HB3
  go_wp2_with fail
  refine (same_any tl tl v1 x1 _ R1.out Y1.out (by omega)).mono ?_
  rintro e w5 ⟨r, rfl, hr, hb5⟩
  have hrt : r = true := hr.2 rfl
  subst hrt
  have T2 : Hid (RSl w5 v2 rl) := R2.out.below hb5
  have Z2 : Hid (RSl w5 x2 rl) := Y2.out.below hb5
  have HB5 : Hid (Below w.heap.size w w5) := HB4.out.trans (hb5.mono HB4.out.size)
  clear hb5 hr R1 R2 Y1 Y2 HB4
  go_wp2_with fail
  refine (sameR_self rl v2 x2 _ T2.out Z2.out (by omega)).mono ?_
  rintro e w6 ⟨rfl, hb6⟩
  have HB6 : Hid (Below w.heap.size w w6) := HB5.out.trans (hb6.mono HB5.out.size)
  clear hb6
  go_wp2_with fail
  go_ret
  exact ⟨rfl, HB6.out⟩

end Go.Proofs.Ytdcekfbejjjkkaa
