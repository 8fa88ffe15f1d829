
/- Places: Move, the program's. -/
import Derived.Test.YtmjdeacnapoijaaP6
namespace Go.Proofs.Ytmjdeacnapoijaa
open Go.RowKit

theorem tdiv_4000 {m : Int} (h0 : -42000000000 ≤ m) (h1 : m ≤ 42000000000) : -10500000 ≤ m.tdiv 4000 ∧ m.tdiv 4000 ≤ 10500000 := by
  rcases Int.le_total 0 m with h | h
  · rw [Int.tdiv_eq_ediv_of_nonneg h]; omega
  · have e : m.tdiv 4000 = -((-m) / 4000) := by
      rw [← Int.tdiv_eq_ediv_of_nonneg (by omega), Int.neg_tdiv, Int.neg_neg]
    rw [e]; omega
def eI (late round : Int) : Int := min (max late (-late) * 1000 / round) 1000
theorem eI_bd (late round : Int) (hr : 1 ≤ round) : 0 ≤ eI late round ∧ eI late round ≤ 1000 := by
  have h := Int.ediv_nonneg (a := max late (-late) * 1000) (b := round) (by omega) (by omega)
  unfold eI
  omega
def stI (a b : Pl) (round : Int) : Int := ((round - farI a b) * wI a b).tdiv 4000
def rawP (a b : Pl) (round : Int) : Pl :=
  ⟨(pushP a b (stI a b round)).x, (pushP a b (stI a b round)).y, (pushP a b (stI a b round)).z, (pushP a b (stI a b round)).h, a.s + ((eI (round - farI a b) round - a.s) * wI a b).tdiv 4000⟩
/-- D3. -/
def moveP (a b : Pl) (round : Int) : Pl := inP (rawP a b round)
theorem farI_bd {a b : Pl} (ha : OkP a) (hb : OkP b) : 0 ≤ farI a b ∧ farI a b ≤ 36641016 := by
  have := apartI_bd ha hb
  have := ha.h0
  have := ha.h1
  have := hb.h0
  have := hb.h1
  unfold farI
  omega
set_option maxHeartbeats 400000 in
theorem withinR_any (n a b : Int) (w : World) :
    Calls Try.prog 28 #[.int .i64 n, .int .i64 a, .int .i64 b] w fun e w' => e = .returned (.bool (betw n a b)) ∧ w' = w := by
  go_enter Try.func28, Try.ntmps28
  go_wp2
  all_goals
    go_ret
    exact ⟨retb (by unfold betw; rw [Bool.eq_iff_iff]; simp; try omega), rfl⟩

abbrev w3 (a b : Pl) (w : World) : World := ((w.alloc (.cells #[.int .i64 a.x, .int .i64 a.y, .int .i64 a.z, .int .i64 a.h, .int .i64 a.s] 29)).alloc (.cells #[.int .i64 b.x, .int .i64 b.y, .int .i64 b.z, .int .i64 b.h, .int .i64 b.s] 29)).alloc (.cells #[.int .i64 0, .int .i64 0, .int .i64 0, .int .i64 0, .int .i64 0] 29)

set_option maxHeartbeats 1600000 in
theorem Move_bad (a b : Pl) (round : Int) (w : World) (hne : chkPs [a, b] ≠ 0) :
    Calls Try.prog 17 #[.agg #[.int .i64 a.x, .int .i64 a.y, .int .i64 a.z, .int .i64 a.h, .int .i64 a.s], .agg #[.int .i64 b.x, .int .i64 b.y, .int .i64 b.z, .int .i64 b.h, .int .i64 b.s], .int .i64 round] w fun e w' => e = .returned (.tuple #[.agg #[.int .i64 0, .int .i64 0, .int .i64 0, .int .i64 0, .int .i64 0], .int .i64 3]) ∧ Below w.heap.size w w' := by
  have h3 : chkPs [a, b] = 3 := (chkPs_or _).resolve_left hne
  go_enter Try.func17, Try.ntmps17
  go_wp2_with fail
  refine (checkAllP_any [a, b] _ _ 2 _ _ rfl (prow_two (by simp)) (by omega)).mono ?_
  rintro e w1 ⟨rfl, hb1⟩
  rw [h3]
  obtain ⟨hc, hf⟩ := bcell hb1
  have hz : w.heap.size + 1 + 1 + 1 < w1.heap.size := by have := hb1.size; simp at this; omega
  have HB : Hid (Below w.heap.size w w1) := (((((Below.refl _ _).alloc (Nat.le_refl _) _).alloc (by simp) _).alloc (by simp; omega) _).alloc (by simp; omega) _).trans (hb1.mono (by simp; omega))
  clear hb1
  go_wp2_with fail
  exact bodyPost_ret (v := .tuple #[.agg #[.int .i64 0, .int .i64 0, .int .i64 0, .int .i64 0, .int .i64 0], .int .i64 3]) (by simp [results, Try.results17, go_sem, hc]) rfl ⟨rfl, ((((HB.out.setCell (by simp; omega) _).setCell (by simp; omega) _).setCell (by simp; omega) _).setCell (by simp; omega) _).setCell (by simp; omega) _⟩

set_option maxHeartbeats 1600000 in
theorem Move_range (a b : Pl) (round : Int) (w : World) (h0 : chkPs [a, b] = 0) (hr : betw round 1 5000000 = false) :
    Calls Try.prog 17 #[.agg #[.int .i64 a.x, .int .i64 a.y, .int .i64 a.z, .int .i64 a.h, .int .i64 a.s], .agg #[.int .i64 b.x, .int .i64 b.y, .int .i64 b.z, .int .i64 b.h, .int .i64 b.s], .int .i64 round] w fun e w' => e = .returned (.tuple #[.agg #[.int .i64 0, .int .i64 0, .int .i64 0, .int .i64 0, .int .i64 0], .int .i64 3]) ∧ Below w.heap.size w w' := by
  go_enter Try.func17, Try.ntmps17
  go_wp2_with fail
  refine (checkAllP_any [a, b] _ _ 2 _ _ rfl (prow_two (by simp)) (by omega)).mono ?_
  rintro e w1 ⟨rfl, hb1⟩
  rw [h0]
  obtain ⟨hc, hf⟩ := bcell hb1
  have hz : w.heap.size + 1 + 1 + 1 < w1.heap.size := by have := hb1.size; simp at this; omega
  have HB : Hid (Below w.heap.size w w1) := (((((Below.refl _ _).alloc (Nat.le_refl _) _).alloc (by simp) _).alloc (by simp; omega) _).alloc (by simp; omega) _).trans (hb1.mono (by simp; omega))
  clear hb1
  go_wp2_with (go_at_call 28; refine (withinR_any _ _ _ _).mono ?_; rintro e w' ⟨rfl, rfl⟩; rw [hr])
  exact bodyPost_ret (v := .tuple #[.agg #[.int .i64 0, .int .i64 0, .int .i64 0, .int .i64 0, .int .i64 0], .int .i64 3]) (by simp [results, Try.results17, go_sem, hc]) rfl ⟨rfl, ((((HB.out.setCell (by simp; omega) _).setCell (by simp; omega) _).setCell (by simp; omega) _).setCell (by simp; omega) _).setCell (by simp; omega) _⟩

set_option maxHeartbeats 6400000 in
theorem Move_good (a b : Pl) (round : Int) (w : World) (ha : OkP a) (hb : OkP b) (hr : betw round 1 5000000 = true) :
    Calls Try.prog 17 #[.agg #[.int .i64 a.x, .int .i64 a.y, .int .i64 a.z, .int .i64 a.h, .int .i64 a.s], .agg #[.int .i64 b.x, .int .i64 b.y, .int .i64 b.z, .int .i64 b.h, .int .i64 b.s], .int .i64 round] w fun e w' => e = .returned (.tuple #[.agg #[.int .i64 (moveP a b round).x, .int .i64 (moveP a b round).y, .int .i64 (moveP a b round).z, .int .i64 (moveP a b round).h, .int .i64 (moveP a b round).s], .int .i64 0]) ∧ Below w.heap.size w w' := by
  have h0 : chkPs [a, b] = 0 := (chkPs_two a b).2 ⟨ha, hb⟩
  have hca : ∀ (g : Nat) (W : World) (t : TypeId), g = W.heap.size → Calls Try.prog 23 #[.slice (some ⟨g, 0, none⟩) 2 2] (W.alloc (.cells #[.int .i64 a.x, .int .i64 a.y, .int .i64 a.z, .int .i64 a.h, .int .i64 a.s, .int .i64 b.x, .int .i64 b.y, .int .i64 b.z, .int .i64 b.h, .int .i64 b.s] t)) fun e w' => e = .returned (.int .i64 0) ∧ Below (W.heap.size + 1) (W.alloc (.cells #[.int .i64 a.x, .int .i64 a.y, .int .i64 a.z, .int .i64 a.h, .int .i64 a.s, .int .i64 b.x, .int .i64 b.y, .int .i64 b.z, .int .i64 b.h, .int .i64 b.s] t)) w' := fun g W t hg =>
    (checkAllP_any [a, b] g 0 2 2 _ rfl (prow_two hg) (by omega)).mono (by rintro e w' ⟨rfl, hb⟩; exact ⟨by rw [h0], by simpa using hb⟩)
  obtain ⟨r0, r1⟩ := betw_true hr
  obtain ⟨f0, f1⟩ := farI_bd ha hb
  obtain ⟨w0, w1⟩ := wI_bd ha hb
  have hfar := fun w => far_any a b w ha hb
  have hwei := fun w => weight_any a b w ha hb
  have hpush := fun w => push_any a b (stI a b round) w ha hb
  have hst : stI a b round = ((round - farI a b) * wI a b).tdiv 4000 := rfl
  have hqs := pushP_s a b (stI a b round)
  have HM : Hid (moveP a b round = inP ⟨(pushP a b (stI a b round)).x, (pushP a b (stI a b round)).y, (pushP a b (stI a b round)).z, (pushP a b (stI a b round)).h, a.s + ((eI (round - farI a b) round - a.s) * wI a b).tdiv 4000⟩) := (show moveP a b round = _ from rfl)
  have s0 := ha.s0
  have s1' := ha.s1
  clear ha hb h0
  generalize farI a b = f at *
  generalize wI a b = W at *
  obtain ⟨m0, m1⟩ := mul_bd (a := round - f) (b := W) (A := 42000000) (B := 1000) (by omega) (by omega) (by omega) (by omega)
  obtain ⟨t0, t1⟩ := tdiv_4000 (m := (round - f) * W) (by omega) (by omega)
  rw [hst] at hpush hqs HM
  clear hst
  have hpush := fun w => hpush w (by omega) (by omega)
  generalize pushP a b (((round - f) * W).tdiv 4000) = q at *
  generalize moveP a b round = M at *
  obtain ⟨e0, e1⟩ := eI_bd (round - f) round r0
  have HEI : Hid (eI (round - f) round = min (max (round - f) (-(round - f)) * 1000 / round) 1000) := (show eI (round - f) round = _ from rfl)
  generalize eI (round - f) round = E at *
  obtain ⟨n0, n1⟩ := mul_bd (a := E - a.s) (b := W) (A := 1000) (B := 1000) (by omega) (by omega) (by omega) (by omega)
  obtain ⟨u0, u1⟩ := tdiv_4000 (m := (E - a.s) * W) (by omega) (by omega)
  obtain ⟨x1, y1, z1, p1, s1⟩ := a
  obtain ⟨x2, y2, z2, p2, s2⟩ := b
  obtain ⟨qx, qy, qz, qh, qs⟩ := q
  simp only at *
  have hqs2 := hqs.symm
  clear hqs
  subst hqs2
  go_enter Try.func17, Try.ntmps17
  go_wp2_with fail
  refine (hca _ _ _ (by simp)).mono ?_
  rintro e w1 ⟨rfl, hb1⟩
  have HB1 : Hid (Below (((w.alloc (.cells #[.int .i64 x1, .int .i64 y1, .int .i64 z1, .int .i64 p1, .int .i64 s1] 29)).alloc (.cells #[.int .i64 x2, .int .i64 y2, .int .i64 z2, .int .i64 p2, .int .i64 s2] 29)).alloc (.cells #[.int .i64 0, .int .i64 0, .int .i64 0, .int .i64 0, .int .i64 0] 29)).heap.size (((w.alloc (.cells #[.int .i64 x1, .int .i64 y1, .int .i64 z1, .int .i64 p1, .int .i64 s1] 29)).alloc (.cells #[.int .i64 x2, .int .i64 y2, .int .i64 z2, .int .i64 p2, .int .i64 s2] 29)).alloc (.cells #[.int .i64 0, .int .i64 0, .int .i64 0, .int .i64 0, .int .i64 0] 29)) w1) := ((Below.refl _ _).alloc (Nat.le_refl _) _).trans (hb1.mono (by simp))
  obtain ⟨hc, hf⟩ := bcell HB1.out
  clear hb1 hca
  go_wp2_with (go_at_call 28; refine (withinR_any _ _ _ _).mono ?_; rintro e w' ⟨rfl, rfl⟩; rw [hr])
  refine (hfar _).mono ?_
  rintro e w2 ⟨rfl, hb2⟩
  have HB2 : Hid (Below (((w.alloc (.cells #[.int .i64 x1, .int .i64 y1, .int .i64 z1, .int .i64 p1, .int .i64 s1] 29)).alloc (.cells #[.int .i64 x2, .int .i64 y2, .int .i64 z2, .int .i64 p2, .int .i64 s2] 29)).alloc (.cells #[.int .i64 0, .int .i64 0, .int .i64 0, .int .i64 0, .int .i64 0] 29)).heap.size (((w.alloc (.cells #[.int .i64 x1, .int .i64 y1, .int .i64 z1, .int .i64 p1, .int .i64 s1] 29)).alloc (.cells #[.int .i64 x2, .int .i64 y2, .int .i64 z2, .int .i64 p2, .int .i64 s2] 29)).alloc (.cells #[.int .i64 0, .int .i64 0, .int .i64 0, .int .i64 0, .int .i64 0] 29)) w2) := HB1.out.trans (hb2.mono HB1.out.size)
  clear hc hf hb2 HB1 hfar
  obtain ⟨hc, hf⟩ := bcell HB2.out
  go_wp2_with fail
  refine (hwei _).mono ?_
  rintro e w3 ⟨rfl, hb3⟩
  have HB3 : Hid (Below (((w.alloc (.cells #[.int .i64 x1, .int .i64 y1, .int .i64 z1, .int .i64 p1, .int .i64 s1] 29)).alloc (.cells #[.int .i64 x2, .int .i64 y2, .int .i64 z2, .int .i64 p2, .int .i64 s2] 29)).alloc (.cells #[.int .i64 0, .int .i64 0, .int .i64 0, .int .i64 0, .int .i64 0] 29)).heap.size (((w.alloc (.cells #[.int .i64 x1, .int .i64 y1, .int .i64 z1, .int .i64 p1, .int .i64 s1] 29)).alloc (.cells #[.int .i64 x2, .int .i64 y2, .int .i64 z2, .int .i64 p2, .int .i64 s2] 29)).alloc (.cells #[.int .i64 0, .int .i64 0, .int .i64 0, .int .i64 0, .int .i64 0] 29)) w3) := HB2.out.trans (hb3.mono HB2.out.size)
  clear hc hf hb3 HB2 hwei
  obtain ⟨hc, hf⟩ := bcell HB3.out
  go_wp2_with fail
  refine (hpush _).mono ?_
  rintro e w4 ⟨rfl, hb4⟩
  have HB4 : Hid (Below (((w.alloc (.cells #[.int .i64 x1, .int .i64 y1, .int .i64 z1, .int .i64 p1, .int .i64 s1] 29)).alloc (.cells #[.int .i64 x2, .int .i64 y2, .int .i64 z2, .int .i64 p2, .int .i64 s2] 29)).alloc (.cells #[.int .i64 0, .int .i64 0, .int .i64 0, .int .i64 0, .int .i64 0] 29)).heap.size (((w.alloc (.cells #[.int .i64 x1, .int .i64 y1, .int .i64 z1, .int .i64 p1, .int .i64 s1] 29)).alloc (.cells #[.int .i64 x2, .int .i64 y2, .int .i64 z2, .int .i64 p2, .int .i64 s2] 29)).alloc (.cells #[.int .i64 0, .int .i64 0, .int .i64 0, .int .i64 0, .int .i64 0] 29)) w4) := HB3.out.trans (hb4.mono HB3.out.size)
  clear hc hf hb4 HB3 hpush
  obtain ⟨hc, hf⟩ := bcell HB4.out
  have hz4 : w.heap.size + 1 + 1 < w4.heap.size := by have := HB4.out.size; simp at this; omega
  have hza : w.heap.size < w4.heap.size := by omega
  have hsure : ∀ ob, (w4.alloc ob).cell? ⟨w.heap.size, 4, none⟩ = some (.int .i64 s1) := fun ob => by
    rw [cell_under hza, hc _ _ (by simp; omega)]
    rw [cell_under (by simp; omega), cell_under (by simp), cell_top rfl]
    rfl
  rw [← HEI.out]
  go_wp2_with fail
  refine (within_any' _ _ _ _ _ _).mono ?_
  rintro e w5 ⟨rfl, hb5⟩
  have HB5 : Hid (Below (((w.alloc (.cells #[.int .i64 x1, .int .i64 y1, .int .i64 z1, .int .i64 p1, .int .i64 s1] 29)).alloc (.cells #[.int .i64 x2, .int .i64 y2, .int .i64 z2, .int .i64 p2, .int .i64 s2] 29)).alloc (.cells #[.int .i64 0, .int .i64 0, .int .i64 0, .int .i64 0, .int .i64 0] 29)).heap.size (((w.alloc (.cells #[.int .i64 x1, .int .i64 y1, .int .i64 z1, .int .i64 p1, .int .i64 s1] 29)).alloc (.cells #[.int .i64 x2, .int .i64 y2, .int .i64 z2, .int .i64 p2, .int .i64 s2] 29)).alloc (.cells #[.int .i64 0, .int .i64 0, .int .i64 0, .int .i64 0, .int .i64 0] 29)) w5) := (HB4.out.alloc HB4.out.size _).trans (hb5.mono (by have := HB4.out.size; simp at this ⊢; omega))
  clear hc hf hb5 HB4 hsure
  obtain ⟨hc, hf⟩ := bcell HB5.out
  have hz5 : w.heap.size + 1 + 1 < w5.heap.size := by have := HB5.out.size; simp at this; omega
  have HB6 : Hid (Below w.heap.size w w5) := ((((Below.refl _ _).alloc (Nat.le_refl _) _).alloc (by simp) _).alloc (by simp; omega) _).trans (HB5.out.mono (by simp; omega))
  go_wp2_with fail
  exact bodyPost_ret (v := .tuple #[.agg #[.int .i64 (clampI qx (-10000000) 10000000), .int .i64 (clampI qy (-10000000) 10000000), .int .i64 (clampI qz (-10000000) 10000000), .int .i64 (clampI qh 0 1000000), .int .i64 (clampI (s1 + ((E - s1) * W).tdiv 4000) 0 1000)], .int .i64 0]) (by simp [results, Try.results17, go_sem, hc]) rfl ⟨by rw [HM.out]; rfl, ((((HB6.out.setCell (by simp; omega) _).setCell (by simp; omega) _).setCell (by simp; omega) _).setCell (by simp; omega) _).setCell (by simp; omega) _⟩

end Go.Proofs.Ytmjdeacnapoijaa
