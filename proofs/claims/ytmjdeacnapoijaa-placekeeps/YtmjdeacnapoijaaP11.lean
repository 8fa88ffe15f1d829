
/- The law PlaceKeeps. -/
import Derived.Test.YtmjdeacnapoijaaP7
namespace Go.Proofs.Ytmjdeacnapoijaa
open Go.RowKit

theorem flatI_comm (a b : Pl) : flatI a b = flatI b a := by
  have h : ∀ x y : Int, (x - y) * (x - y) = (y - x) * (y - x) := fun x y => by
    rw [← Int.neg_mul_neg, show -(x - y) = y - x by omega]
  unfold flatI
  rw [h a.x b.x, h a.y b.y, h a.z b.z]
theorem farI_comm (a b : Pl) : farI a b = farI b a := by
  unfold farI apartI
  rw [flatI_comm a b]
  omega
theorem clampI_same {n lo hi : Int} (h0 : lo ≤ n) (h1 : n ≤ hi) : clampI n lo hi = n := by unfold clampI; omega
theorem clampI_less {n m lo hi : Int} (h0 : lo ≤ n) (h1 : m ≤ n) : clampI m lo hi ≤ n := by unfold clampI; omega
theorem tdiv_nonpos {m : Int} (h : m ≤ 0) : m.tdiv 4000 ≤ 0 := by
  have e : m.tdiv 4000 = -((-m) / 4000) := by
    rw [← Int.tdiv_eq_ediv_of_nonneg (by omega), Int.neg_tdiv, Int.neg_neg]
  rw [e]; omega
theorem stI_zero (a b : Pl) : stI a b (farI a b) = 0 := by unfold stI; rw [Int.sub_self, Int.zero_mul]; rfl
theorem eI_zero (n : Int) : eI 0 n = 0 := by unfold eI; simp; omega
/-- D5: a round that took just as long as told. -/
theorem moveP_told {a b : Pl} (ha : OkP a) (hb : OkP b) :
    (moveP a b (farI a b)).x = a.x ∧ (moveP a b (farI a b)).y = a.y ∧ (moveP a b (farI a b)).z = a.z ∧ (moveP a b (farI a b)).h = a.h ∧ (moveP a b (farI a b)).s ≤ a.s := by
  have hs := stI_zero a b
  have hp : pushP a b 0 = a := by
    obtain ⟨x, y, z, h, s⟩ := a
    unfold pushP
    split <;> simp
  have hw := wI_bd ha hb
  have h2 : ((eI 0 (farI a b) - a.s) * wI a b) ≤ 0 := by
    rw [eI_zero]
    have := Int.mul_nonneg ha.s0 hw.1
    rw [Int.zero_sub, Int.neg_mul]; omega
  have h3 := tdiv_nonpos h2
  unfold moveP rawP
  rw [hs, hp, Int.sub_self]
  exact ⟨clampI_same ha.x0 ha.x1, clampI_same ha.y0 ha.y1, clampI_same ha.z0 ha.z1, clampI_same ha.h0 ha.h1, clampI_less ha.s0 (show a.s + _ ≤ a.s by omega)⟩

theorem Move_either (a b : Pl) (round : Int) (ha : OkP a) (hb : OkP b) : ∃ (V : Pl) (E : Int), (∀ w, Calls Try.prog 17 #[.agg #[.int .i64 a.x, .int .i64 a.y, .int .i64 a.z, .int .i64 a.h, .int .i64 a.s], .agg #[.int .i64 b.x, .int .i64 b.y, .int .i64 b.z, .int .i64 b.h, .int .i64 b.s], .int .i64 round] w fun e w' => e = .returned (.tuple #[.agg #[.int .i64 V.x, .int .i64 V.y, .int .i64 V.z, .int .i64 V.h, .int .i64 V.s], .int .i64 E]) ∧ Below w.heap.size w w') ∧ ((E = 0 ∧ chkP V = 0) ∨ E = 3) := by
  rcases hr : betw round 1 5000000 with _ | _
  · exact ⟨⟨0, 0, 0, 0, 0⟩, 3, fun w => Move_range a b round w ((chkPs_two a b).2 ⟨ha, hb⟩) hr, .inr rfl⟩
  · exact ⟨moveP a b round, 0, fun w => Move_good a b round w ha hb hr, .inl ⟨rfl, (okP_iff _).2 (inP_ok _)⟩⟩
/-- What Move answers of a round that took just as long as told. -/
theorem Move_told (a b : Pl) (ha : OkP a) (hb : OkP b) : ∃ (V : Pl) (E : Int), (∀ w, Calls Try.prog 17 #[.agg #[.int .i64 a.x, .int .i64 a.y, .int .i64 a.z, .int .i64 a.h, .int .i64 a.s], .agg #[.int .i64 b.x, .int .i64 b.y, .int .i64 b.z, .int .i64 b.h, .int .i64 b.s], .int .i64 (farI a b)] w fun e w' => e = .returned (.tuple #[.agg #[.int .i64 V.x, .int .i64 V.y, .int .i64 V.z, .int .i64 V.h, .int .i64 V.s], .int .i64 E]) ∧ Below w.heap.size w w') ∧ ((E = 0 ∧ V.x = a.x ∧ V.y = a.y ∧ V.z = a.z ∧ V.h = a.h ∧ V.s ≤ a.s) ∨ (E = 3 ∧ (farI a b < 1 ∨ 5000000 < farI a b))) := by
  rcases hr : betw (farI a b) 1 5000000 with _ | _
  · exact ⟨⟨0, 0, 0, 0, 0⟩, 3, fun w => Move_range a b _ w ((chkPs_two a b).2 ⟨ha, hb⟩) hr, .inr ⟨rfl, by have := betw_false hr; omega⟩⟩
  · exact ⟨moveP a b (farI a b), 0, fun w => Move_good a b _ w ha hb hr, .inl ⟨rfl, moveP_told ha hb⟩⟩

set_option maxHeartbeats 3200000 in
theorem placeKeeps_bad (a b : Pl) (round : Int) (w : World) (hne : chkPs [a, b] ≠ 0) :
    Calls Try.prog 7 #[.agg #[.int .i64 a.x, .int .i64 a.y, .int .i64 a.z, .int .i64 a.h, .int .i64 a.s], .agg #[.int .i64 b.x, .int .i64 b.y, .int .i64 b.z, .int .i64 b.h, .int .i64 b.s], .int .i64 round] w fun e w' => e = .returned (.bool true) ∧ Below w.heap.size w w' := by
  have hne2 : chkPs [b, a] ≠ 0 := fun h => hne ((chkPs_two a b).2 ⟨((chkPs_two b a).1 h).2, ((chkPs_two b a).1 h).1⟩)
  have hB0 : Below w.heap.size w ((w.alloc (.cells #[.int .i64 a.x, .int .i64 a.y, .int .i64 a.z, .int .i64 a.h, .int .i64 a.s] 29)).alloc (.cells #[.int .i64 b.x, .int .i64 b.y, .int .i64 b.z, .int .i64 b.h, .int .i64 b.s] 29)) := ((Below.refl _ _).alloc (Nat.le_refl _) _).alloc (by simp) _
  have hz0 : w.heap.size + 1 < ((w.alloc (.cells #[.int .i64 a.x, .int .i64 a.y, .int .i64 a.z, .int .i64 a.h, .int .i64 a.s] 29)).alloc (.cells #[.int .i64 b.x, .int .i64 b.y, .int .i64 b.z, .int .i64 b.h, .int .i64 b.s] 29)).heap.size := by simp
  go_enter Try.func7, Try.ntmps7
  go_wp2_with fail
  refine (placeBegun_any _).mono ?_
  rintro e w1 ⟨rfl, hb1⟩
  have hd1 : ∀ o, w1.cell? ⟨w.heap.size, o, none⟩ = #[Value.int .i64 a.x, .int .i64 a.y, .int .i64 a.z, .int .i64 a.h, .int .i64 a.s][o]? := fun o => by
    rw [hb1.cell (p := ⟨w.heap.size, o, none⟩) (by simp only; omega), cell_under (by simp), cell_top rfl]
  have hd2 : ∀ o, w1.cell? ⟨w.heap.size + 1, o, none⟩ = #[Value.int .i64 b.x, .int .i64 b.y, .int .i64 b.z, .int .i64 b.h, .int .i64 b.s][o]? := fun o => by
    rw [hb1.cell (p := ⟨w.heap.size + 1, o, none⟩) (by simp only; omega), cell_top (by simp)]
  have HB1 : Hid (Below w.heap.size w w1) := hB0.trans (hb1.mono (by omega))
  have hz1 : w.heap.size + 1 < w1.heap.size := by have := hb1.size; omega
  clear hb1 hB0 hz0
  go_wp2_with fail
  refine (Far_bad a b _ hne).mono ?_
  rintro e w2 ⟨rfl, hb2⟩
  have he1 : ∀ o, w2.cell? ⟨w.heap.size, o, none⟩ = #[Value.int .i64 a.x, .int .i64 a.y, .int .i64 a.z, .int .i64 a.h, .int .i64 a.s][o]? := fun o => by
    rw [hb2.cell (p := ⟨w.heap.size, o, none⟩) (by simp only; omega)]; exact hd1 o
  have he2 : ∀ o, w2.cell? ⟨w.heap.size + 1, o, none⟩ = #[Value.int .i64 b.x, .int .i64 b.y, .int .i64 b.z, .int .i64 b.h, .int .i64 b.s][o]? := fun o => by
    rw [hb2.cell (p := ⟨w.heap.size + 1, o, none⟩) (by simp only; omega)]; exact hd2 o
  have HB2 : Hid (Below w.heap.size w w2) := HB1.out.trans (hb2.mono HB1.out.size)
  clear hb2 HB1 hd1 hd2
  go_wp2_with fail
  refine (Far_bad b a _ hne2).mono ?_
  rintro e w3 ⟨rfl, hb3⟩
  have HB3 : Hid (Below w.heap.size w w3) := HB2.out.trans (hb3.mono HB2.out.size)
  clear hb3 HB2 he1 he2
  go_wp2_with fail
  go_ret
  exact ⟨rfl, HB3.out⟩

set_option maxHeartbeats 3200000 in
theorem placeKeeps_good (a b : Pl) (round : Int) (w : World) (ha : OkP a) (hb : OkP b) :
    Calls Try.prog 7 #[.agg #[.int .i64 a.x, .int .i64 a.y, .int .i64 a.z, .int .i64 a.h, .int .i64 a.s], .agg #[.int .i64 b.x, .int .i64 b.y, .int .i64 b.z, .int .i64 b.h, .int .i64 b.s], .int .i64 round] w fun e w' => e = .returned (.bool true) ∧ Below w.heap.size w w' := by
  obtain ⟨V1, E1, hM1, hr1⟩ := Move_either a b round ha hb
  obtain ⟨V2, E2, hM2, hr2⟩ := Move_told a b ha hb
  have hF1 := fun w => Far_good a b w ha hb
  have hF2 := fun w => Far_good b a w hb ha
  rw [← farI_comm a b] at hF2
  obtain ⟨f0, f1⟩ := farI_bd ha hb
  clear ha hb
  generalize farI a b = f at *
  have hB0 : Below w.heap.size w ((w.alloc (.cells #[.int .i64 a.x, .int .i64 a.y, .int .i64 a.z, .int .i64 a.h, .int .i64 a.s] 29)).alloc (.cells #[.int .i64 b.x, .int .i64 b.y, .int .i64 b.z, .int .i64 b.h, .int .i64 b.s] 29)) := ((Below.refl _ _).alloc (Nat.le_refl _) _).alloc (by simp) _
  have hz0 : w.heap.size + 1 < ((w.alloc (.cells #[.int .i64 a.x, .int .i64 a.y, .int .i64 a.z, .int .i64 a.h, .int .i64 a.s] 29)).alloc (.cells #[.int .i64 b.x, .int .i64 b.y, .int .i64 b.z, .int .i64 b.h, .int .i64 b.s] 29)).heap.size := by simp
  go_enter Try.func7, Try.ntmps7
  go_wp2_with fail
  refine (placeBegun_any _).mono ?_
  rintro e w1 ⟨rfl, hb1⟩
  have hd1 : ∀ o, w1.cell? ⟨w.heap.size, o, none⟩ = #[Value.int .i64 a.x, .int .i64 a.y, .int .i64 a.z, .int .i64 a.h, .int .i64 a.s][o]? := fun o => by
    rw [hb1.cell (p := ⟨w.heap.size, o, none⟩) (by simp only; omega), cell_under (by simp), cell_top rfl]
  have hd2 : ∀ o, w1.cell? ⟨w.heap.size + 1, o, none⟩ = #[Value.int .i64 b.x, .int .i64 b.y, .int .i64 b.z, .int .i64 b.h, .int .i64 b.s][o]? := fun o => by
    rw [hb1.cell (p := ⟨w.heap.size + 1, o, none⟩) (by simp only; omega), cell_top (by simp)]
  have HB1 : Hid (Below w.heap.size w w1) := hB0.trans (hb1.mono (by omega))
  have hz1 : w.heap.size + 1 < w1.heap.size := by have := hb1.size; omega
  clear hb1 hB0 hz0
  go_wp2_with fail
  refine (hF1 _).mono ?_
  rintro e w2 ⟨rfl, hb2⟩
  have he1 : ∀ o, w2.cell? ⟨w.heap.size, o, none⟩ = #[Value.int .i64 a.x, .int .i64 a.y, .int .i64 a.z, .int .i64 a.h, .int .i64 a.s][o]? := fun o => by
    rw [hb2.cell (p := ⟨w.heap.size, o, none⟩) (by simp only; omega)]; exact hd1 o
  have he2 : ∀ o, w2.cell? ⟨w.heap.size + 1, o, none⟩ = #[Value.int .i64 b.x, .int .i64 b.y, .int .i64 b.z, .int .i64 b.h, .int .i64 b.s][o]? := fun o => by
    rw [hb2.cell (p := ⟨w.heap.size + 1, o, none⟩) (by simp only; omega)]; exact hd2 o
  have HB2 : Hid (Below w.heap.size w w2) := HB1.out.trans (hb2.mono HB1.out.size)
  have hz2 : w.heap.size + 1 < w2.heap.size := by have := hb2.size; omega
  clear hb2 HB1 hd1 hd2 hF1 hz1
  go_wp2_with fail
  refine (hF2 _).mono ?_
  rintro e w3 ⟨rfl, hb3⟩
  have hd1 : ∀ o, w3.cell? ⟨w.heap.size, o, none⟩ = #[Value.int .i64 a.x, .int .i64 a.y, .int .i64 a.z, .int .i64 a.h, .int .i64 a.s][o]? := fun o => by
    rw [hb3.cell (p := ⟨w.heap.size, o, none⟩) (by simp only; omega)]; exact he1 o
  have hd2 : ∀ o, w3.cell? ⟨w.heap.size + 1, o, none⟩ = #[Value.int .i64 b.x, .int .i64 b.y, .int .i64 b.z, .int .i64 b.h, .int .i64 b.s][o]? := fun o => by
    rw [hb3.cell (p := ⟨w.heap.size + 1, o, none⟩) (by simp only; omega)]; exact he2 o
  have HB3 : Hid (Below w.heap.size w w3) := HB2.out.trans (hb3.mono HB2.out.size)
  have hz3 : w.heap.size + 1 < w3.heap.size := by have := hb3.size; omega
  clear hb3 HB2 he1 he2 hF2 hz2
  go_wp2_with fail
  refine (hM1 _).mono ?_
  rintro e w4 ⟨rfl, hb4⟩
  have HB4 : Hid (Below w.heap.size w w4) := HB3.out.trans (hb4.mono HB3.out.size)
  have hz4 : w.heap.size + 1 < w4.heap.size := by have := hb4.size; omega
  have he1 : ∀ ob o, (w4.alloc ob).cell? ⟨w.heap.size, o, none⟩ = #[Value.int .i64 a.x, .int .i64 a.y, .int .i64 a.z, .int .i64 a.h, .int .i64 a.s][o]? := fun ob o => by
    rw [cell_under (by omega), hb4.cell (p := ⟨w.heap.size, o, none⟩) (by simp only; omega)]; exact hd1 o
  have he2 : ∀ ob o, (w4.alloc ob).cell? ⟨w.heap.size + 1, o, none⟩ = #[Value.int .i64 b.x, .int .i64 b.y, .int .i64 b.z, .int .i64 b.h, .int .i64 b.s][o]? := fun ob o => by
    rw [cell_under (by omega), hb4.cell (p := ⟨w.heap.size + 1, o, none⟩) (by simp only; omega)]; exact hd2 o
  clear hb4 HB3 hd1 hd2 hM1 hz3
  rcases hr1 with ⟨rfl, hk⟩ | rfl
  · go_wp2_with fail
    refine (checkP_any V1 _).mono ?_
    rintro e w5 ⟨rfl, hb5⟩
    rw [hk]
    have hg1 : ∀ o, w5.cell? ⟨w.heap.size, o, none⟩ = #[Value.int .i64 a.x, .int .i64 a.y, .int .i64 a.z, .int .i64 a.h, .int .i64 a.s][o]? := fun o => by
      rw [hb5.cell (p := ⟨w.heap.size, o, none⟩) (by simp; omega)]; exact he1 _ o
    have hg2 : ∀ o, w5.cell? ⟨w.heap.size + 1, o, none⟩ = #[Value.int .i64 b.x, .int .i64 b.y, .int .i64 b.z, .int .i64 b.h, .int .i64 b.s][o]? := fun o => by
      rw [hb5.cell (p := ⟨w.heap.size + 1, o, none⟩) (by simp; omega)]; exact he2 _ o
    have HB5 : Hid (Below w.heap.size w w5) := (HB4.out.alloc HB4.out.size _).trans (hb5.mono (by have := HB4.out.size; simp; omega))
    have hz5 : w.heap.size + 1 < w5.heap.size := by have := hb5.size; simp at this; omega
    clear hb5 HB4 he1 he2 hk hz4
    go_wp2_with fail
    refine (hM2 _).mono ?_
    rintro e w6 ⟨rfl, hb6⟩
    have HB6 : Hid (Below w.heap.size w w6) := HB5.out.trans (hb6.mono HB5.out.size)
    have hi1 : ∀ ob o, (w6.alloc ob).cell? ⟨w.heap.size, o, none⟩ = #[Value.int .i64 a.x, .int .i64 a.y, .int .i64 a.z, .int .i64 a.h, .int .i64 a.s][o]? := fun ob o => by
      have := hb6.size
      rw [cell_under (by omega), hb6.cell (p := ⟨w.heap.size, o, none⟩) (by simp only; omega)]; exact hg1 o
    clear hb6 HB5 hg1 hg2 hM2 hz5
    rcases hr2 with ⟨rfl, q0, q1, q2, q3, q4⟩ | ⟨rfl, q⟩
    · rw [q0, q1, q2, q3]
      go_wp2_with fail
      go_ret
      exact ⟨rfl, HB6.out.alloc HB6.out.size _⟩
    · rcases q with q | q
      all_goals
        go_wp2_with fail
        go_ret
        exact ⟨rfl, HB6.out.alloc HB6.out.size _⟩
  · go_wp2_with fail
    refine (hM2 _).mono ?_
    rintro e w6 ⟨rfl, hb6⟩
    have HB6 : Hid (Below w.heap.size w w6) := (HB4.out.alloc HB4.out.size _).trans (hb6.mono (by have := HB4.out.size; simp; omega))
    have hi1 : ∀ ob o, (w6.alloc ob).cell? ⟨w.heap.size, o, none⟩ = #[Value.int .i64 a.x, .int .i64 a.y, .int .i64 a.z, .int .i64 a.h, .int .i64 a.s][o]? := fun ob o => by
      have := hb6.size
      simp at this
      rw [cell_under (by omega), hb6.cell (p := ⟨w.heap.size, o, none⟩) (by simp; omega)]; exact he1 _ o
    clear hb6 HB4 he1 he2 hM2 hz4
    rcases hr2 with ⟨rfl, q0, q1, q2, q3, q4⟩ | ⟨rfl, q⟩
    · rw [q0, q1, q2, q3]
      go_wp2_with fail
      go_ret
      exact ⟨rfl, HB6.out.alloc HB6.out.size _⟩
    · rcases q with q | q
      all_goals
        go_wp2_with fail
        go_ret
        exact ⟨rfl, HB6.out.alloc HB6.out.size _⟩

theorem placeKeeps_walk (a b : Pl) (round : Int) (w : World) :
    Calls Try.prog 7 #[.agg #[.int .i64 a.x, .int .i64 a.y, .int .i64 a.z, .int .i64 a.h, .int .i64 a.s], .agg #[.int .i64 b.x, .int .i64 b.y, .int .i64 b.z, .int .i64 b.h, .int .i64 b.s], .int .i64 round] w fun e w' => e = .returned (.bool true) ∧ Below w.heap.size w w' := by
  by_cases h : chkPs [a, b] = 0
  · obtain ⟨ha, hb⟩ := (chkPs_two a b).1 h
    exact placeKeeps_good a b round w ha hb
  · exact placeKeeps_bad a b round w h

end Go.Proofs.Ytmjdeacnapoijaa
