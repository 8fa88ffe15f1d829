
/- The law PlaceMoves. -/
import Derived.Test.YtmjdeacnapoijaaP9
namespace Go.Proofs.Ytmjdeacnapoijaa
open Go.RowKit

theorem moveOf_any (a b : Pl) (round : Int) (w : World) (ha : OkP a) (hb : OkP b) (r0 : 1 ≤ round) (r1 : round ≤ 5000000) :
    Calls Try.prog 18 #[.agg #[.int .i64 a.x, .int .i64 a.y, .int .i64 a.z, .int .i64 a.h, .int .i64 a.s], .agg #[.int .i64 b.x, .int .i64 b.y, .int .i64 b.z, .int .i64 b.h, .int .i64 b.s], .int .i64 round] w fun e w' => e = .returned (.agg #[.int .i64 (moveP a b round).x, .int .i64 (moveP a b round).y, .int .i64 (moveP a b round).z, .int .i64 (moveP a b round).h, .int .i64 (moveP a b round).s]) ∧ Below w.heap.size w w' := by
  by_cases hz : apartI a b = 0
  · exact moveOf_zero a b round w ha hb r0 r1 hz
  · exact moveOf_far a b round _ w ha hb r0 r1 rfl (by have := (apartI_bd ha hb).1; omega)

theorem eqlPl (a b : Pl) (w : World) : Sem.run Try.prog (binOp .eql 29 (.agg #[.int .i64 a.x, .int .i64 a.y, .int .i64 a.z, .int .i64 a.h, .int .i64 a.s]) (.agg #[.int .i64 b.x, .int .i64 b.y, .int .i64 b.z, .int .i64 b.h, .int .i64 b.s])) w = .ok (.bool (sameP a b)) w := by
  rw [run_eql_struct, eqInPl]
  rfl
def zp : Pl := ⟨0, 0, 0, 0, 0⟩
theorem sameP_self (a : Pl) : sameP a a = true := (sameP_iff a a).2 rfl

set_option maxHeartbeats 3200000 in
theorem placeMoves_bad (a b : Pl) (round : Int) (w : World) (hok : chkPs [a, b] ≠ 0 ∨ (chkPs [a, b] = 0 ∧ betw round 1 5000000 = false)) :
    Calls Try.prog 6 #[.agg #[.int .i64 a.x, .int .i64 a.y, .int .i64 a.z, .int .i64 a.h, .int .i64 a.s], .agg #[.int .i64 b.x, .int .i64 b.y, .int .i64 b.z, .int .i64 b.h, .int .i64 b.s], .int .i64 round] w fun e w' => e = .returned (.bool true) ∧ Below w.heap.size w w' := by
  have hM : ∀ w, Calls Try.prog 17 #[.agg #[.int .i64 a.x, .int .i64 a.y, .int .i64 a.z, .int .i64 a.h, .int .i64 a.s], .agg #[.int .i64 b.x, .int .i64 b.y, .int .i64 b.z, .int .i64 b.h, .int .i64 b.s], .int .i64 round] w fun e w' => e = .returned (.tuple #[.agg #[.int .i64 0, .int .i64 0, .int .i64 0, .int .i64 0, .int .i64 0], .int .i64 3]) ∧ Below w.heap.size w w' := fun w => by
    rcases hok with h | ⟨h, g⟩
    · exact Move_bad a b round w h
    · exact Move_range a b round w h g
  have heql := eqlPl zp zp
  rw [sameP_self] at heql
  simp only [zp] at heql
  have hgP : Try.prog.eqGuardType Try.prog.depth 29 = false := by kernel_rfl
  have hB0 : Below w.heap.size w ((w.alloc (.cells #[.int .i64 a.x, .int .i64 a.y, .int .i64 a.z, .int .i64 a.h, .int .i64 a.s] 29)).alloc (.cells #[.int .i64 b.x, .int .i64 b.y, .int .i64 b.z, .int .i64 b.h, .int .i64 b.s] 29)) := ((Below.refl _ _).alloc (Nat.le_refl _) _).alloc (by simp) _
  have hz0 : w.heap.size + 1 < ((w.alloc (.cells #[.int .i64 a.x, .int .i64 a.y, .int .i64 a.z, .int .i64 a.h, .int .i64 a.s] 29)).alloc (.cells #[.int .i64 b.x, .int .i64 b.y, .int .i64 b.z, .int .i64 b.h, .int .i64 b.s] 29)).heap.size := by simp
  go_enter Try.func6, Try.ntmps6
  go_wp2_with fail
  refine (hM _).mono ?_
  rintro e w1 ⟨rfl, hb1⟩
  have hd1 : ∀ ob o, (w1.alloc ob).cell? ⟨w.heap.size, o, none⟩ = #[Value.int .i64 a.x, .int .i64 a.y, .int .i64 a.z, .int .i64 a.h, .int .i64 a.s][o]? := fun ob o => by
    have := hb1.size
    rw [cell_under (by omega), hb1.cell (p := ⟨w.heap.size, o, none⟩) (by simp only; omega), cell_under (by simp), cell_top rfl]
  have hd2 : ∀ ob o, (w1.alloc ob).cell? ⟨w.heap.size + 1, o, none⟩ = #[Value.int .i64 b.x, .int .i64 b.y, .int .i64 b.z, .int .i64 b.h, .int .i64 b.s][o]? := fun ob o => by
    have := hb1.size
    rw [cell_under (by omega), hb1.cell (p := ⟨w.heap.size + 1, o, none⟩) (by simp only; omega), cell_top (by simp)]
  have HB1 : Hid (Below w.heap.size w w1) := hB0.trans (hb1.mono (by omega))
  clear hb1 hM hB0 hz0
  go_wp2_with fail
  refine (twoPlaces_any a b _).mono ?_
  rintro e w2 ⟨rfl, hb2⟩
  have hp2 : ∀ o, w2.cell? ⟨w1.heap.size, o, none⟩ = #[Value.int .i64 0, .int .i64 0, .int .i64 0, .int .i64 0, .int .i64 0][o]? := fun o => by
    rw [hb2.cell (p := ⟨w1.heap.size, o, none⟩) (by simp), cell_top rfl]
  have hz2 : w1.heap.size < w2.heap.size := by have := hb2.size; simp at this; omega
  have HB2 : Hid (Below w.heap.size w w2) := (HB1.out.alloc HB1.out.size _).trans (hb2.mono (by have := HB1.out.size; simp; omega))
  clear hb2 hd1 hd2
  generalize hgp : w1.heap.size = gp at *
  have HGP : Hid (w.heap.size ≤ gp) := by rw [← hgp]; exact HB1.out.size
  clear hgp HB1
  rcases hok with hne | ⟨h0, hr⟩
  · have h3 : chkPs [a, b] = 3 := (chkPs_or _).resolve_left hne
    rw [h3]
    clear hne
    go_wp2_with fail
    refine (placeBegun_any _).mono ?_
    rintro e w4 ⟨rfl, hb4⟩
    have hp4 : ∀ o, w4.cell? ⟨gp, o, none⟩ = #[Value.int .i64 0, .int .i64 0, .int .i64 0, .int .i64 0, .int .i64 0][o]? := fun o => by
      rw [hb4.cell (p := ⟨gp, o, none⟩) (by simp; omega), cell_under hz2]; exact hp2 o
    have hq4 : ∀ o, w4.cell? ⟨w2.heap.size, o, none⟩ = #[Value.int .i64 0, .int .i64 0, .int .i64 0, .int .i64 0, .int .i64 0][o]? := fun o => by
      rw [hb4.cell (p := ⟨w2.heap.size, o, none⟩) (by simp), cell_top rfl]
    have HB4 : Hid (Below w.heap.size w w4) := (HB2.out.alloc HB2.out.size _).trans (hb4.mono (by have := HB2.out.size; simp; omega))
    clear hb4 hp2
    go_wp2_with fail
    go_ret
    exact ⟨rfl, HB4.out⟩
  · rw [h0]
    have hr2 := betw_false hr
    have hr3 : round < 1 ∨ 5000000 < round := by omega
    rcases hr3 with hr3 | hr3
    all_goals
      clear hr hr2
      go_wp2_with fail
      refine (placeBegun_any _).mono ?_
      rintro e w4 ⟨rfl, hb4⟩
      have hp4 : ∀ o, w4.cell? ⟨gp, o, none⟩ = #[Value.int .i64 0, .int .i64 0, .int .i64 0, .int .i64 0, .int .i64 0][o]? := fun o => by
        rw [hb4.cell (p := ⟨gp, o, none⟩) (by simp; omega), cell_under hz2]; exact hp2 o
      have hq4 : ∀ o, w4.cell? ⟨w2.heap.size, o, none⟩ = #[Value.int .i64 0, .int .i64 0, .int .i64 0, .int .i64 0, .int .i64 0][o]? := fun o => by
        rw [hb4.cell (p := ⟨w2.heap.size, o, none⟩) (by simp), cell_top rfl]
      have HB4 : Hid (Below w.heap.size w w4) := (HB2.out.alloc HB2.out.size _).trans (hb4.mono (by have := HB2.out.size; simp; omega))
      clear hb4 hp2
      go_wp2_with fail
      go_ret
      exact ⟨rfl, HB4.out⟩

abbrev put5 (W : World) (g : Nat) (v0 v1 v2 v3 v4 : Value) : World := ((((W.setCell ⟨g, 0, none⟩ v0).setCell ⟨g, 1, none⟩ v1).setCell ⟨g, 2, none⟩ v2).setCell ⟨g, 3, none⟩ v3).setCell ⟨g, 4, none⟩ v4
theorem put5_far {W : World} {g p o : Nat} {v0 v1 v2 v3 v4 : Value} (h : p ≠ g) : (put5 W g v0 v1 v2 v3 v4).cell? ⟨p, o, none⟩ = W.cell? ⟨p, o, none⟩ := by
  have oth : ∀ (U : World) (k : Nat) (v : Value), (U.setCell ⟨g, k, none⟩ v).cell? ⟨p, o, none⟩ = U.cell? ⟨p, o, none⟩ := fun U k v =>
    World.cell?_setCell_far U _ _ v (fun e => h e.symm)
  rw [oth, oth, oth, oth, oth]
theorem put_has {W : World} {g k : Nat} {v : Value} (h : ∀ o, o < 5 → (W.cell? ⟨g, o, none⟩).isSome = true) : ∀ o, o < 5 → ((W.setCell ⟨g, k, none⟩ v).cell? ⟨g, o, none⟩).isSome = true := fun o ho => by
  obtain ⟨u, hu⟩ := Option.isSome_iff_exists.1 (h o ho)
  obtain ⟨u', hu'⟩ := cell?_setCell_some (p := ⟨g, k, none⟩) (x := v) hu
  rw [hu']; rfl
theorem put5_in {W : World} {g : Nat} {v0 v1 v2 v3 v4 : Value} (h : ∀ o, o < 5 → (W.cell? ⟨g, o, none⟩).isSome = true) :
    (put5 W g v0 v1 v2 v3 v4).cell? ⟨g, 0, none⟩ = some v0 ∧ (put5 W g v0 v1 v2 v3 v4).cell? ⟨g, 1, none⟩ = some v1 ∧ (put5 W g v0 v1 v2 v3 v4).cell? ⟨g, 2, none⟩ = some v2 ∧ (put5 W g v0 v1 v2 v3 v4).cell? ⟨g, 3, none⟩ = some v3 ∧ (put5 W g v0 v1 v2 v3 v4).cell? ⟨g, 4, none⟩ = some v4 := by
  have oth : ∀ (U : World) (i k : Nat) (v : Value), i ≠ k → (U.setCell ⟨g, i, none⟩ v).cell? ⟨g, k, none⟩ = U.cell? ⟨g, k, none⟩ := fun U i k v hi => by
    apply World.cell?_setCell_other
    intro e
    simp only [Addr.mk.injEq] at e
    exact hi e.2.1
  have h1 := put_has (k := 0) (v := v0) h
  have h2 := put_has (k := 1) (v := v1) h1
  have h3 := put_has (k := 2) (v := v2) h2
  have h4 := put_has (k := 3) (v := v3) h3
  refine ⟨?_, ?_, ?_, ?_, ?_⟩
  · rw [oth _ _ _ _ (by decide), oth _ _ _ _ (by decide), oth _ _ _ _ (by decide), oth _ _ _ _ (by decide), World.cell?_setCell_same' _ _ _ (h 0 (by decide))]
  · rw [oth _ _ _ _ (by decide), oth _ _ _ _ (by decide), oth _ _ _ _ (by decide), World.cell?_setCell_same' _ _ _ (h1 1 (by decide))]
  · rw [oth _ _ _ _ (by decide), oth _ _ _ _ (by decide), World.cell?_setCell_same' _ _ _ (h2 2 (by decide))]
  · rw [oth _ _ _ _ (by decide), World.cell?_setCell_same' _ _ _ (h3 3 (by decide))]
  · rw [World.cell?_setCell_same' _ _ _ (h4 4 (by decide))]

set_option maxHeartbeats 3200000 in
theorem placeMoves_good (a b : Pl) (round : Int) (w : World) (ha : OkP a) (hb : OkP b) (hr : betw round 1 5000000 = true) :
    Calls Try.prog 6 #[.agg #[.int .i64 a.x, .int .i64 a.y, .int .i64 a.z, .int .i64 a.h, .int .i64 a.s], .agg #[.int .i64 b.x, .int .i64 b.y, .int .i64 b.z, .int .i64 b.h, .int .i64 b.s], .int .i64 round] w fun e w' => e = .returned (.bool true) ∧ Below w.heap.size w w' := by
  have hM := fun w => Move_good a b round w ha hb hr
  obtain ⟨r0, r1⟩ := betw_true hr
  have hO := fun w => moveOf_any a b round w ha hb r0 r1
  have h0 : chkPs [a, b] = 0 := (chkPs_two a b).2 ⟨ha, hb⟩
  have hT := fun w => twoPlaces_any a b w
  rw [h0] at hT
  clear ha hb h0 hr
  have heql := eqlPl (moveP a b round) (moveP a b round)
  rw [sameP_self] at heql
  generalize moveP a b round = V at *
  have hgP : Try.prog.eqGuardType Try.prog.depth 29 = false := by kernel_rfl
  have hB0 : Below w.heap.size w ((w.alloc (.cells #[.int .i64 a.x, .int .i64 a.y, .int .i64 a.z, .int .i64 a.h, .int .i64 a.s] 29)).alloc (.cells #[.int .i64 b.x, .int .i64 b.y, .int .i64 b.z, .int .i64 b.h, .int .i64 b.s] 29)) := ((Below.refl _ _).alloc (Nat.le_refl _) _).alloc (by simp) _
  have hz0 : w.heap.size + 1 < ((w.alloc (.cells #[.int .i64 a.x, .int .i64 a.y, .int .i64 a.z, .int .i64 a.h, .int .i64 a.s] 29)).alloc (.cells #[.int .i64 b.x, .int .i64 b.y, .int .i64 b.z, .int .i64 b.h, .int .i64 b.s] 29)).heap.size := by simp
  go_enter Try.func6, Try.ntmps6
  go_wp2_with fail
  refine (hM _).mono ?_
  rintro e w1 ⟨rfl, hb1⟩
  have hd1 : ∀ ob o, (w1.alloc ob).cell? ⟨w.heap.size, o, none⟩ = #[Value.int .i64 a.x, .int .i64 a.y, .int .i64 a.z, .int .i64 a.h, .int .i64 a.s][o]? := fun ob o => by
    have := hb1.size
    rw [cell_under (by omega), hb1.cell (p := ⟨w.heap.size, o, none⟩) (by simp only; omega), cell_under (by simp), cell_top rfl]
  have hd2 : ∀ ob o, (w1.alloc ob).cell? ⟨w.heap.size + 1, o, none⟩ = #[Value.int .i64 b.x, .int .i64 b.y, .int .i64 b.z, .int .i64 b.h, .int .i64 b.s][o]? := fun ob o => by
    have := hb1.size
    rw [cell_under (by omega), hb1.cell (p := ⟨w.heap.size + 1, o, none⟩) (by simp only; omega), cell_top (by simp)]
  have HB1 : Hid (Below w.heap.size w w1) := hB0.trans (hb1.mono (by omega))
  have hz1 : w.heap.size + 1 < w1.heap.size := by have := hb1.size; omega
  clear hb1 hM hB0 hz0
  go_wp2_with fail
  refine (hT _).mono ?_
  rintro e w2 ⟨rfl, hb2⟩
  have hp2 : ∀ o, w2.cell? ⟨w1.heap.size, o, none⟩ = #[Value.int .i64 V.x, .int .i64 V.y, .int .i64 V.z, .int .i64 V.h, .int .i64 V.s][o]? := fun o => by
    rw [hb2.cell (p := ⟨w1.heap.size, o, none⟩) (by simp), cell_top rfl]
  have hz2 : w1.heap.size < w2.heap.size := by have := hb2.size; simp at this; omega
  have he1 : ∀ ob o, (w2.alloc ob).cell? ⟨w.heap.size, o, none⟩ = #[Value.int .i64 a.x, .int .i64 a.y, .int .i64 a.z, .int .i64 a.h, .int .i64 a.s][o]? := fun ob o => by
    rw [cell_under (by omega), hb2.cell (p := ⟨w.heap.size, o, none⟩) (by simp; omega)]; exact hd1 _ o
  have he2 : ∀ ob o, (w2.alloc ob).cell? ⟨w.heap.size + 1, o, none⟩ = #[Value.int .i64 b.x, .int .i64 b.y, .int .i64 b.z, .int .i64 b.h, .int .i64 b.s][o]? := fun ob o => by
    rw [cell_under (by omega), hb2.cell (p := ⟨w.heap.size + 1, o, none⟩) (by simp; omega)]; exact hd2 _ o
  have HB2 : Hid (Below w.heap.size w w2) := (HB1.out.alloc HB1.out.size _).trans (hb2.mono (by have := HB1.out.size; simp; omega))
  clear hb2 hd1 hd2
  generalize hgp : w1.heap.size = gp at *
  have hgw : w.heap.size + 1 < gp := hz1
  clear hgp HB1 hT
  go_wp2_with fail
  refine (hO _).mono ?_
  rintro e w3 ⟨rfl, hb3⟩
  obtain ⟨hc, hf⟩ := bcell hb3
  have hz3 : w2.heap.size < w3.heap.size := by have := hb3.size; simp at this; omega
  have hp3 : ∀ o, w3.cell? ⟨gp, o, none⟩ = #[Value.int .i64 V.x, .int .i64 V.y, .int .i64 V.z, .int .i64 V.h, .int .i64 V.s][o]? := fun o => by
    rw [hb3.cell (p := ⟨gp, o, none⟩) (by simp; omega), cell_under hz2]; exact hp2 o
  have HB3 : Hid (Below w.heap.size w w3) := (HB2.out.alloc HB2.out.size _).trans (hb3.mono (by have := HB2.out.size; simp; omega))
  have HS2 : Hid (w.heap.size ≤ w2.heap.size) := HB2.out.size
  have hne : gp ≠ w2.heap.size := by omega
  clear hb3 hp2 he1 he2 HB2 hO
  have HI : Hid (∀ o, o < 5 → (w3.cell? ⟨w2.heap.size, o, none⟩).isSome = true) := fun o ho => by
    rw [hc _ _ (by simp), cell_top rfl]
    match o, ho with
    | 0, _ => rfl
    | 1, _ => rfl
    | 2, _ => rfl
    | 3, _ => rfl
    | 4, _ => rfl
  go_wp2_with fail
  refine (placeBegun_any _).mono ?_
  rintro e w4 ⟨rfl, hb4⟩
  have hb5 : Below (put5 w3 w2.heap.size (.int .i64 V.x) (.int .i64 V.y) (.int .i64 V.z) (.int .i64 V.h) (.int .i64 V.s)).heap.size (put5 w3 w2.heap.size (.int .i64 V.x) (.int .i64 V.y) (.int .i64 V.z) (.int .i64 V.h) (.int .i64 V.s)) w4 := hb4
  have hs5 : (put5 w3 w2.heap.size (.int .i64 V.x) (.int .i64 V.y) (.int .i64 V.z) (.int .i64 V.h) (.int .i64 V.s)).heap.size = w3.heap.size := by simp
  have hp4 : ∀ o, w4.cell? ⟨gp, o, none⟩ = #[Value.int .i64 V.x, .int .i64 V.y, .int .i64 V.z, .int .i64 V.h, .int .i64 V.s][o]? := fun o => by
    rw [hb5.cell (p := ⟨gp, o, none⟩) (by rw [hs5]; simp only; omega), put5_far hne]; exact hp3 o
  obtain ⟨j0, j1, j2, j3, j4⟩ := put5_in (v0 := .int .i64 V.x) (v1 := .int .i64 V.y) (v2 := .int .i64 V.z) (v3 := .int .i64 V.h) (v4 := .int .i64 V.s) HI.out
  have q0 : w4.cell? ⟨w2.heap.size, 0, none⟩ = some (.int .i64 V.x) := by rw [hb5.cell (p := ⟨w2.heap.size, 0, none⟩) (by rw [hs5]; exact hz3)]; exact j0
  have q1 : w4.cell? ⟨w2.heap.size, 1, none⟩ = some (.int .i64 V.y) := by rw [hb5.cell (p := ⟨w2.heap.size, 1, none⟩) (by rw [hs5]; exact hz3)]; exact j1
  have q2 : w4.cell? ⟨w2.heap.size, 2, none⟩ = some (.int .i64 V.z) := by rw [hb5.cell (p := ⟨w2.heap.size, 2, none⟩) (by rw [hs5]; exact hz3)]; exact j2
  have q3 : w4.cell? ⟨w2.heap.size, 3, none⟩ = some (.int .i64 V.h) := by rw [hb5.cell (p := ⟨w2.heap.size, 3, none⟩) (by rw [hs5]; exact hz3)]; exact j3
  have q4 : w4.cell? ⟨w2.heap.size, 4, none⟩ = some (.int .i64 V.s) := by rw [hb5.cell (p := ⟨w2.heap.size, 4, none⟩) (by rw [hs5]; exact hz3)]; exact j4
  have HB4 : Hid (Below w.heap.size w w4) := (((((HB3.out.setCell HS2.out _).setCell HS2.out _).setCell HS2.out _).setCell HS2.out _).setCell HS2.out _).trans (hb4.mono (by have := HB3.out.size; simp; omega))
  clear hb4 hb5 hs5 hp3 HI j0 j1 j2 j3 j4 hc hf HB3
  go_wp2_with fail
  go_ret
  exact ⟨rfl, HB4.out⟩

theorem placeMoves_walk (a b : Pl) (round : Int) (w : World) :
    Calls Try.prog 6 #[.agg #[.int .i64 a.x, .int .i64 a.y, .int .i64 a.z, .int .i64 a.h, .int .i64 a.s], .agg #[.int .i64 b.x, .int .i64 b.y, .int .i64 b.z, .int .i64 b.h, .int .i64 b.s], .int .i64 round] w fun e w' => e = .returned (.bool true) ∧ Below w.heap.size w w' := by
  by_cases h : chkPs [a, b] = 0
  · obtain ⟨ha, hb⟩ := (chkPs_two a b).1 h
    rcases hr : betw round 1 5000000 with _ | _
    · exact placeMoves_bad a b round w (.inr ⟨h, hr⟩)
    · exact placeMoves_good a b round w ha hb hr
  · exact placeMoves_bad a b round w (.inl h)

end Go.Proofs.Ytmjdeacnapoijaa
