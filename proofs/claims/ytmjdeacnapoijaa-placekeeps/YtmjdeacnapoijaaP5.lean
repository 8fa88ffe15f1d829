
/- Places: the document's Check and Far; the law PlaceFar. -/
import Derived.Test.YtmjdeacnapoijaaP4
namespace Go.Proofs.Ytmjdeacnapoijaa
open Go.RowKit

def betw (n a b : Int) : Bool := decide (a ≤ n) && decide (n ≤ b)
theorem retb {a b : Bool} (h : a = b) : Ending.returned (.bool a) = .returned (.bool b) := by rw [h]
set_option maxHeartbeats 400000 in
theorem between_any' (n a b : Int) (w : World) :
    Calls Try.prog 27 #[.int .i64 n, .int .i64 a, .int .i64 b] w fun e w' => e = .returned (.bool (betw n a b)) ∧ w' = w := by
  go_enter Try.func27, Try.ntmps27
  go_wp2
  all_goals
    go_ret
    exact ⟨retb (by unfold betw; rw [Bool.eq_iff_iff]; simp; try omega), rfl⟩
theorem betw_true {n a b : Int} (h : betw n a b = true) : a ≤ n ∧ n ≤ b := by simpa [betw] using h
theorem betw_false {n a b : Int} (h : betw n a b = false) : ¬ (a ≤ n ∧ n ≤ b) := by
  intro g; simp [betw, g.1, g.2] at h
theorem chkP_three {p : Pl} (h : ¬ OkP p) : chkP p = 3 := (chkP_or p).resolve_left (fun e => h ((okP_iff p).1 e))

set_option maxHeartbeats 1600000 in
theorem checkPlace_any (p : Pl) (w : World) :
    Calls Try.prog 16 #[.agg #[.int .i64 p.x, .int .i64 p.y, .int .i64 p.z, .int .i64 p.h, .int .i64 p.s]] w fun e w' => e = .returned (.int .i64 (chkP p)) ∧ w' = w.alloc (.cells #[.int .i64 p.x, .int .i64 p.y, .int .i64 p.z, .int .i64 p.h, .int .i64 p.s] 29) := by
  have HK := okP_iff p
  have H3 : Hid (¬ OkP p → chkP p = 3) := chkP_three
  have HX : Hid (chkP p = 0 ↔ OkP p) := HK
  clear HK
  rcases h1 : betw p.x (-10000000) 10000000 with _ | _
  · have HE : Hid (chkP p = 3) := H3.out (fun o => betw_false h1 ⟨o.x0, o.x1⟩)
    clear HX H3
    go_enter Try.func16, Try.ntmps16
    go_wp2_with (go_at_call 27; refine (between_any' _ _ _ _).mono ?_; rintro e w' ⟨rfl, rfl⟩; rw [h1])
    go_ret
    exact ⟨retn HE.out.symm, rfl⟩
  rcases h2 : betw p.y (-10000000) 10000000 with _ | _
  · have HE : Hid (chkP p = 3) := H3.out (fun o => betw_false h2 ⟨o.y0, o.y1⟩)
    clear HX H3
    go_enter Try.func16, Try.ntmps16
    go_wp2_with (go_at_call 27; refine (between_any' _ _ _ _).mono ?_; rintro e w' ⟨rfl, rfl⟩; first | rw [h1] | rw [h2])
    go_ret
    exact ⟨retn HE.out.symm, rfl⟩
  rcases h3 : betw p.z (-10000000) 10000000 with _ | _
  · have HE : Hid (chkP p = 3) := H3.out (fun o => betw_false h3 ⟨o.z0, o.z1⟩)
    clear HX H3
    go_enter Try.func16, Try.ntmps16
    go_wp2_with (go_at_call 27; refine (between_any' _ _ _ _).mono ?_; rintro e w' ⟨rfl, rfl⟩; first | rw [h1] | rw [h2] | rw [h3])
    go_ret
    exact ⟨retn HE.out.symm, rfl⟩
  rcases h4 : betw p.h 0 1000000 with _ | _
  · have HE : Hid (chkP p = 3) := H3.out (fun o => betw_false h4 ⟨o.h0, o.h1⟩)
    clear HX H3
    go_enter Try.func16, Try.ntmps16
    go_wp2_with (go_at_call 27; refine (between_any' _ _ _ _).mono ?_; rintro e w' ⟨rfl, rfl⟩; first | rw [h1] | rw [h2] | rw [h3] | rw [h4])
    go_ret
    exact ⟨retn HE.out.symm, rfl⟩
  rcases h5 : betw p.s 0 1000 with _ | _
  · have HE : Hid (chkP p = 3) := H3.out (fun o => betw_false h5 ⟨o.s0, o.s1⟩)
    clear HX H3
    go_enter Try.func16, Try.ntmps16
    go_wp2_with (go_at_call 27; refine (between_any' _ _ _ _).mono ?_; rintro e w' ⟨rfl, rfl⟩; first | rw [h1] | rw [h2] | rw [h3] | rw [h4] | rw [h5])
    go_ret
    exact ⟨retn HE.out.symm, rfl⟩
  · have HE : Hid (chkP p = 0) := HX.out.2 ⟨(betw_true h1).1, (betw_true h1).2, (betw_true h2).1, (betw_true h2).2, (betw_true h3).1, (betw_true h3).2, (betw_true h4).1, (betw_true h4).2, (betw_true h5).1, (betw_true h5).2⟩
    clear HX H3
    go_enter Try.func16, Try.ntmps16
    go_wp2_with (go_at_call 27; refine (between_any' _ _ _ _).mono ?_; rintro e w' ⟨rfl, rfl⟩; first | rw [h1] | rw [h2] | rw [h3] | rw [h4] | rw [h5])
    go_ret
    exact ⟨retn HE.out.symm, rfl⟩

set_option maxHeartbeats 1600000 in
theorem flatFar_any (a b : Pl) (w : World) (ha : OkP a) (hb : OkP b) :
    Calls Try.prog 25 #[.agg #[.int .i64 a.x, .int .i64 a.y, .int .i64 a.z, .int .i64 a.h, .int .i64 a.s], .agg #[.int .i64 b.x, .int .i64 b.y, .int .i64 b.z, .int .i64 b.h, .int .i64 b.s]] w fun e w' => e = .returned (.int .i64 (apartI a b)) ∧ Below w.heap.size w w' := by
  have h1 := sq_20 (x := a.x - b.x) (by have := ha.x0; have := hb.x1; omega) (by have := ha.x1; have := hb.x0; omega)
  have h2 := sq_20 (x := a.y - b.y) (by have := ha.y0; have := hb.y1; omega) (by have := ha.y1; have := hb.y0; omega)
  have h3 := sq_20 (x := a.z - b.z) (by have := ha.z0; have := hb.z1; omega) (by have := ha.z1; have := hb.z0; omega)
  have g1 := sq_nonneg (a.x - b.x)
  have g2 := sq_nonneg (a.y - b.y)
  have g3 := sq_nonneg (a.z - b.z)
  have HE : Hid (apartI a b = rt ((a.x - b.x) * (a.x - b.x) + (a.y - b.y) * (a.y - b.y) + (a.z - b.z) * (a.z - b.z))) := (show apartI a b = _ from rfl)
  obtain ⟨ax0, ax1, ay0, ay1, az0, az1, _, _, _, _⟩ := ha
  obtain ⟨bx0, bx1, by0, by1, bz0, bz1, _, _, _, _⟩ := hb
  generalize apartI a b = r at *
  obtain ⟨x1, y1, z1, p1, s1⟩ := a
  obtain ⟨x2, y2, z2, p2, s2⟩ := b
  simp only at *
  go_enter Try.func25, Try.ntmps25
  go_wp2_with (go_at_call 11; refine (rootOf_any _ _ (by omega) (by omega)).mono ?_; rintro e w' ⟨rfl, rfl⟩)
  go_ret
  exact ⟨retn HE.out.symm, ((Below.refl _ _).alloc (Nat.le_refl _) _).alloc (by simp) _⟩


set_option maxHeartbeats 1600000 in
theorem farOf_any (a b : Pl) (w : World) (ha : OkP a) (hb : OkP b) :
    Calls Try.prog 14 #[.agg #[.int .i64 a.x, .int .i64 a.y, .int .i64 a.z, .int .i64 a.h, .int .i64 a.s], .agg #[.int .i64 b.x, .int .i64 b.y, .int .i64 b.z, .int .i64 b.h, .int .i64 b.s]] w fun e w' => e = .returned (.int .i64 (farI a b)) ∧ Below w.heap.size w w' := by
  obtain ⟨r0, r1⟩ := apartI_bd ha hb
  have HE : Hid (farI a b = apartI a b + a.h + b.h) := (show farI a b = _ from rfl)
  have hap := fun w => flatFar_any a b w ha hb
  have h0 := ha.h0
  have h1 := ha.h1
  have g0 := hb.h0
  have g1 := hb.h1
  clear ha hb
  generalize apartI a b = r at *
  generalize farI a b = f at *
  obtain ⟨x1, y1, z1, p1, s1⟩ := a
  obtain ⟨x2, y2, z2, p2, s2⟩ := b
  simp only at *
  generalize hW : (w.alloc (.cells #[.int .i64 x1, .int .i64 y1, .int .i64 z1, .int .i64 p1, .int .i64 s1] 29)).alloc (.cells #[.int .i64 x2, .int .i64 y2, .int .i64 z2, .int .i64 p2, .int .i64 s2] 29) = W at *
  have HW : Hid (Below w.heap.size w W) := by rw [← hW]; exact ((Below.refl _ _).alloc (Nat.le_refl _) _).alloc (by simp) _
  have E0 : ∀ d os, (Go.Sort.grow (redrawn W d) os).cell? ⟨w.heap.size, 0, none⟩ = some (.int .i64 x1) := cell_regrown (by rw [← hW]; simp)
  have E1 : ∀ d os, (Go.Sort.grow (redrawn W d) os).cell? ⟨w.heap.size, 1, none⟩ = some (.int .i64 y1) := cell_regrown (by rw [← hW]; simp)
  have E2 : ∀ d os, (Go.Sort.grow (redrawn W d) os).cell? ⟨w.heap.size, 2, none⟩ = some (.int .i64 z1) := cell_regrown (by rw [← hW]; simp)
  have E3 : ∀ d os, (Go.Sort.grow (redrawn W d) os).cell? ⟨w.heap.size, 3, none⟩ = some (.int .i64 p1) := cell_regrown (by rw [← hW]; simp)
  have E4 : ∀ d os, (Go.Sort.grow (redrawn W d) os).cell? ⟨w.heap.size, 4, none⟩ = some (.int .i64 s1) := cell_regrown (by rw [← hW]; simp)
  have F0 : ∀ d os, (Go.Sort.grow (redrawn W d) os).cell? ⟨w.heap.size + 1, 0, none⟩ = some (.int .i64 x2) := cell_regrown (by rw [← hW]; simp)
  have F1 : ∀ d os, (Go.Sort.grow (redrawn W d) os).cell? ⟨w.heap.size + 1, 1, none⟩ = some (.int .i64 y2) := cell_regrown (by rw [← hW]; simp)
  have F2 : ∀ d os, (Go.Sort.grow (redrawn W d) os).cell? ⟨w.heap.size + 1, 2, none⟩ = some (.int .i64 z2) := cell_regrown (by rw [← hW]; simp)
  have F3 : ∀ d os, (Go.Sort.grow (redrawn W d) os).cell? ⟨w.heap.size + 1, 3, none⟩ = some (.int .i64 p2) := cell_regrown (by rw [← hW]; simp)
  have F4 : ∀ d os, (Go.Sort.grow (redrawn W d) os).cell? ⟨w.heap.size + 1, 4, none⟩ = some (.int .i64 s2) := cell_regrown (by rw [← hW]; simp)
  have cN : ∀ d os, Calls Try.prog 25 #[.agg #[.int .i64 x1, .int .i64 y1, .int .i64 z1, .int .i64 p1, .int .i64 s1], .agg #[.int .i64 x2, .int .i64 y2, .int .i64 z2, .int .i64 p2, .int .i64 s2]] (Go.Sort.grow (redrawn W d) os) fun e w'' => e = .returned (.int .i64 r) ∧ ∃ p : Regrown, w'' = Go.Sort.grow (redrawn W p.d) p.os := fun d os =>
    Calls.regrown_of ((hap _).mono (by rintro e w' ⟨rfl, hb⟩; exact ⟨rfl, hb⟩))
  clear hap
  go_enter Try.func14, Try.ntmps14
  go_wp2_with fail
  refine wp_region_quiet_below (by kernel_rfl) (by kernel_rfl) ?_
  repeat (quiet_step (exact cN _ _))
  refine wpQuiet_nil ?_
  intro _ hw'
  obtain ⟨⟨dq, osq⟩, hw''⟩ := hw'
  subst hw''
  have HBQ : Hid (Below W.heap.size W (Go.Sort.grow (redrawn W dq) osq)) := below_regrown W dq osq
  clear cN E0 E1 E2 E3 E4 F0 F1 F2 F3 F4
  go_wp2_with fail
  go_ret
  exact ⟨retn (by rw [wrapk_id (m := r + p1) (by omega) (by omega), wrapk_id (by omega) (by omega)]; exact HE.out.symm), HW.out.trans (HBQ.out.mono HW.out.size)⟩


set_option maxHeartbeats 800000 in
theorem twoPlaces_any (a b : Pl) (w : World) :
    Calls Try.prog 13 #[.agg #[.int .i64 a.x, .int .i64 a.y, .int .i64 a.z, .int .i64 a.h, .int .i64 a.s], .agg #[.int .i64 b.x, .int .i64 b.y, .int .i64 b.z, .int .i64 b.h, .int .i64 b.s]] w fun e w' => e = .returned (.int .i64 (chkPs [a, b])) ∧ Below w.heap.size w w' := by
  by_cases ha : chkP a = 0
  · have HE : Hid (chkPs [a, b] = chkP b) := (show chkPs [a, b] = chkP b by unfold chkPs chkPs chkPs; rcases chkP_or b with h | h <;> simp [ha, h])
    go_enter Try.func13, Try.ntmps13
    go_wp2_with fail
    refine (checkPlace_any a _).mono ?_
    rintro e w1 ⟨rfl, rfl⟩
    rw [ha]
    go_wp2_with fail
    refine (checkPlace_any b _).mono ?_
    rintro e w2 ⟨rfl, rfl⟩
    go_wp2_with fail
    go_ret
    exact ⟨retn HE.out.symm, ((((Below.refl _ _).alloc (Nat.le_refl _) _).alloc (by simp) _).alloc (by simp; omega) _).alloc (by simp; omega) _⟩
  · have h3 : chkP a = 3 := (chkP_or a).resolve_left ha
    have HE : Hid (chkPs [a, b] = 3) := (show chkPs [a, b] = 3 by unfold chkPs; simp [ha])
    go_enter Try.func13, Try.ntmps13
    go_wp2_with fail
    refine (checkPlace_any a _).mono ?_
    rintro e w1 ⟨rfl, rfl⟩
    rw [h3]
    go_wp2_with fail
    go_ret
    exact ⟨retn HE.out.symm, (((Below.refl _ _).alloc (Nat.le_refl _) _).alloc (by simp) _).alloc (by simp; omega) _⟩

set_option maxHeartbeats 3200000 in
theorem placeFar_walk (a b : Pl) (w : World) :
    Calls Try.prog 5 #[.agg #[.int .i64 a.x, .int .i64 a.y, .int .i64 a.z, .int .i64 a.h, .int .i64 a.s], .agg #[.int .i64 b.x, .int .i64 b.y, .int .i64 b.z, .int .i64 b.h, .int .i64 b.s]] w fun e w' => e = .returned (.bool true) ∧ Below w.heap.size w w' := by
  have hB0 : Below w.heap.size w ((w.alloc (.cells #[.int .i64 a.x, .int .i64 a.y, .int .i64 a.z, .int .i64 a.h, .int .i64 a.s] 29)).alloc (.cells #[.int .i64 b.x, .int .i64 b.y, .int .i64 b.z, .int .i64 b.h, .int .i64 b.s] 29)) := ((Below.refl _ _).alloc (Nat.le_refl _) _).alloc (by simp) _
  have hc1 : ∀ o, ((w.alloc (.cells #[.int .i64 a.x, .int .i64 a.y, .int .i64 a.z, .int .i64 a.h, .int .i64 a.s] 29)).alloc (.cells #[.int .i64 b.x, .int .i64 b.y, .int .i64 b.z, .int .i64 b.h, .int .i64 b.s] 29)).cell? ⟨w.heap.size, o, none⟩ = #[Value.int .i64 a.x, .int .i64 a.y, .int .i64 a.z, .int .i64 a.h, .int .i64 a.s][o]? := fun o => by
    rw [cell_under (by simp), cell_top rfl]
  have hc2 : ∀ o, ((w.alloc (.cells #[.int .i64 a.x, .int .i64 a.y, .int .i64 a.z, .int .i64 a.h, .int .i64 a.s] 29)).alloc (.cells #[.int .i64 b.x, .int .i64 b.y, .int .i64 b.z, .int .i64 b.h, .int .i64 b.s] 29)).cell? ⟨w.heap.size + 1, o, none⟩ = #[Value.int .i64 b.x, .int .i64 b.y, .int .i64 b.z, .int .i64 b.h, .int .i64 b.s][o]? := fun o => by
    rw [cell_top (by simp)]
  have hz : w.heap.size + 1 < ((w.alloc (.cells #[.int .i64 a.x, .int .i64 a.y, .int .i64 a.z, .int .i64 a.h, .int .i64 a.s] 29)).alloc (.cells #[.int .i64 b.x, .int .i64 b.y, .int .i64 b.z, .int .i64 b.h, .int .i64 b.s] 29)).heap.size := by simp
  generalize hW : (w.alloc (.cells #[.int .i64 a.x, .int .i64 a.y, .int .i64 a.z, .int .i64 a.h, .int .i64 a.s] 29)).alloc (.cells #[.int .i64 b.x, .int .i64 b.y, .int .i64 b.z, .int .i64 b.h, .int .i64 b.s] 29) = W at *
  by_cases hok : chkPs [a, b] = 0
  · obtain ⟨ha, hb⟩ := (chkPs_two a b).1 hok
    have hfar := fun w => Far_good a b w ha hb
    have hfarOf := fun w => farOf_any a b w ha hb
    have htwo := fun w => twoPlaces_any a b w
    rw [hok] at htwo
    clear ha hb hok
    generalize farI a b = f at *
    go_enter Try.func5, Try.ntmps5
    go_wp2_with fail
    refine (hfar _).mono ?_
    rintro e w1 ⟨rfl, hb1⟩
    have hd1 : ∀ o, w1.cell? ⟨w.heap.size, o, none⟩ = #[Value.int .i64 a.x, .int .i64 a.y, .int .i64 a.z, .int .i64 a.h, .int .i64 a.s][o]? := fun o => by
      rw [hb1.cell (p := ⟨w.heap.size, o, none⟩) (by simp only; omega)]; exact hc1 o
    have hd2 : ∀ o, w1.cell? ⟨w.heap.size + 1, o, none⟩ = #[Value.int .i64 b.x, .int .i64 b.y, .int .i64 b.z, .int .i64 b.h, .int .i64 b.s][o]? := fun o => by
      rw [hb1.cell (p := ⟨w.heap.size + 1, o, none⟩) (by simp only; omega)]; exact hc2 o
    have HB1 : Hid (Below w.heap.size w w1) := hB0.trans (hb1.mono (by omega))
    have hz1 : w.heap.size + 1 < w1.heap.size := by have := hb1.size; omega
    clear hb1 hB0 hc1 hc2 hW
    go_wp2_with fail
    refine (htwo _).mono ?_
    rintro e w2 ⟨rfl, hb2⟩
    have he1 : ∀ o, w2.cell? ⟨w.heap.size, o, none⟩ = #[Value.int .i64 a.x, .int .i64 a.y, .int .i64 a.z, .int .i64 a.h, .int .i64 a.s][o]? := fun o => by
      rw [hb2.cell (p := ⟨w.heap.size, o, none⟩) (by simp only; omega)]; exact hd1 o
    have he2 : ∀ o, w2.cell? ⟨w.heap.size + 1, o, none⟩ = #[Value.int .i64 b.x, .int .i64 b.y, .int .i64 b.z, .int .i64 b.h, .int .i64 b.s][o]? := fun o => by
      rw [hb2.cell (p := ⟨w.heap.size + 1, o, none⟩) (by simp only; omega)]; exact hd2 o
    have HB2 : Hid (Below w.heap.size w w2) := HB1.out.trans (hb2.mono HB1.out.size)
    have hz2 : w.heap.size + 1 < w2.heap.size := by have := hb2.size; omega
    clear hb2 HB1 hd1 hd2 hz1
    go_wp2_with fail
    refine (hfarOf _).mono ?_
    rintro e w3 ⟨rfl, hb3⟩
    have hg1 : ∀ o, w3.cell? ⟨w.heap.size, o, none⟩ = #[Value.int .i64 a.x, .int .i64 a.y, .int .i64 a.z, .int .i64 a.h, .int .i64 a.s][o]? := fun o => by
      rw [hb3.cell (p := ⟨w.heap.size, o, none⟩) (by simp only; omega)]; exact he1 o
    have HB3 : Hid (Below w.heap.size w w3) := HB2.out.trans (hb3.mono HB2.out.size)
    clear hb3 HB2 he1 he2 hz2
    go_wp2_with fail
    have E0 : ∀ d os, (Go.Sort.grow (redrawn w3 d) os).cell? ⟨w.heap.size, 0, none⟩ = some (.int .i64 a.x) := cell_regrown (hg1 0)
    have E1 : ∀ d os, (Go.Sort.grow (redrawn w3 d) os).cell? ⟨w.heap.size, 1, none⟩ = some (.int .i64 a.y) := cell_regrown (hg1 1)
    have E2 : ∀ d os, (Go.Sort.grow (redrawn w3 d) os).cell? ⟨w.heap.size, 2, none⟩ = some (.int .i64 a.z) := cell_regrown (hg1 2)
    have E3 : ∀ d os, (Go.Sort.grow (redrawn w3 d) os).cell? ⟨w.heap.size, 3, none⟩ = some (.int .i64 a.h) := cell_regrown (hg1 3)
    have E4 : ∀ d os, (Go.Sort.grow (redrawn w3 d) os).cell? ⟨w.heap.size, 4, none⟩ = some (.int .i64 a.s) := cell_regrown (hg1 4)
    clear hg1
    have c1 : ∀ d os, Calls Try.prog 10 #[] (Go.Sort.grow (redrawn w3 d) os) fun e w'' => e = .returned (.bool true) ∧ ∃ p : Regrown, w'' = Go.Sort.grow (redrawn w3 p.d) p.os := fun d os =>
      Calls.regrown_of ((placeBegun_any _).mono (by rintro e w' ⟨rfl, hb⟩; exact ⟨rfl, hb⟩))
    have c2 : ∀ d os, Calls Try.prog 15 #[.agg #[.int .i64 a.x, .int .i64 a.y, .int .i64 a.z, .int .i64 a.h, .int .i64 a.s]] (Go.Sort.grow (redrawn w3 d) os) fun e w'' => e = .returned (.int .i64 (chkP a)) ∧ ∃ p : Regrown, w'' = Go.Sort.grow (redrawn w3 p.d) p.os := fun d os =>
      Calls.regrown_of ((checkP_any a _).mono (by rintro e w' ⟨rfl, hb⟩; exact ⟨rfl, hb⟩))
    have c3 : ∀ d os, Calls Try.prog 16 #[.agg #[.int .i64 a.x, .int .i64 a.y, .int .i64 a.z, .int .i64 a.h, .int .i64 a.s]] (Go.Sort.grow (redrawn w3 d) os) fun e w'' => e = .returned (.int .i64 (chkP a)) ∧ ∃ p : Regrown, w'' = Go.Sort.grow (redrawn w3 p.d) p.os := fun d os =>
      Calls.regrown_of ((checkPlace_any a _).mono (by rintro e w' ⟨rfl, rfl⟩; exact ⟨rfl, (Below.refl _ _).alloc (Nat.le_refl _) _⟩))
    generalize chkP a = ca at *
    refine wp_region_quiet_below (by kernel_rfl) (by kernel_rfl) ?_
    repeat (quiet_step (first | exact c1 _ _ | exact c2 _ _ | exact c3 _ _))
    refine wpQuiet_nil ?_
    intro _ hw'
    obtain ⟨⟨dq, osq⟩, hw''⟩ := hw'
    subst hw''
    have HBQ : Hid (Below w3.heap.size w3 (Go.Sort.grow (redrawn w3 dq) osq)) := below_regrown w3 dq osq
    clear c1 c2 c3 E0 E1 E2 E3 E4
    go_wp2_with fail
    go_ret
    exact ⟨rfl, HB3.out.trans (HBQ.out.mono HB3.out.size)⟩
  · have h3 : chkPs [a, b] = 3 := (chkPs_or _).resolve_left hok
    have hfar := fun w => Far_bad a b w hok
    have htwo := fun w => twoPlaces_any a b w
    rw [h3] at htwo
    clear hok h3
    go_enter Try.func5, Try.ntmps5
    go_wp2_with fail
    refine (hfar _).mono ?_
    rintro e w1 ⟨rfl, hb1⟩
    have hd1 : ∀ o, w1.cell? ⟨w.heap.size, o, none⟩ = #[Value.int .i64 a.x, .int .i64 a.y, .int .i64 a.z, .int .i64 a.h, .int .i64 a.s][o]? := fun o => by
      rw [hb1.cell (p := ⟨w.heap.size, o, none⟩) (by simp only; omega)]; exact hc1 o
    have hd2 : ∀ o, w1.cell? ⟨w.heap.size + 1, o, none⟩ = #[Value.int .i64 b.x, .int .i64 b.y, .int .i64 b.z, .int .i64 b.h, .int .i64 b.s][o]? := fun o => by
      rw [hb1.cell (p := ⟨w.heap.size + 1, o, none⟩) (by simp only; omega)]; exact hc2 o
    have HB1 : Hid (Below w.heap.size w w1) := hB0.trans (hb1.mono (by omega))
    have hz1 : w.heap.size + 1 < w1.heap.size := by have := hb1.size; omega
    clear hb1 hB0 hc1 hc2 hW
    go_wp2_with fail
    refine (htwo _).mono ?_
    rintro e w3 ⟨rfl, hb2⟩
    have hg1 : ∀ o, w3.cell? ⟨w.heap.size, o, none⟩ = #[Value.int .i64 a.x, .int .i64 a.y, .int .i64 a.z, .int .i64 a.h, .int .i64 a.s][o]? := fun o => by
      rw [hb2.cell (p := ⟨w.heap.size, o, none⟩) (by simp only; omega)]; exact hd1 o
    have HB3 : Hid (Below w.heap.size w w3) := HB1.out.trans (hb2.mono HB1.out.size)
    clear hb2 HB1 hd1 hd2 hz1
    go_wp2_with fail
    have E0 : ∀ d os, (Go.Sort.grow (redrawn w3 d) os).cell? ⟨w.heap.size, 0, none⟩ = some (.int .i64 a.x) := cell_regrown (hg1 0)
    have E1 : ∀ d os, (Go.Sort.grow (redrawn w3 d) os).cell? ⟨w.heap.size, 1, none⟩ = some (.int .i64 a.y) := cell_regrown (hg1 1)
    have E2 : ∀ d os, (Go.Sort.grow (redrawn w3 d) os).cell? ⟨w.heap.size, 2, none⟩ = some (.int .i64 a.z) := cell_regrown (hg1 2)
    have E3 : ∀ d os, (Go.Sort.grow (redrawn w3 d) os).cell? ⟨w.heap.size, 3, none⟩ = some (.int .i64 a.h) := cell_regrown (hg1 3)
    have E4 : ∀ d os, (Go.Sort.grow (redrawn w3 d) os).cell? ⟨w.heap.size, 4, none⟩ = some (.int .i64 a.s) := cell_regrown (hg1 4)
    clear hg1
    have c1 : ∀ d os, Calls Try.prog 10 #[] (Go.Sort.grow (redrawn w3 d) os) fun e w'' => e = .returned (.bool true) ∧ ∃ p : Regrown, w'' = Go.Sort.grow (redrawn w3 p.d) p.os := fun d os =>
      Calls.regrown_of ((placeBegun_any _).mono (by rintro e w' ⟨rfl, hb⟩; exact ⟨rfl, hb⟩))
    have c2 : ∀ d os, Calls Try.prog 15 #[.agg #[.int .i64 a.x, .int .i64 a.y, .int .i64 a.z, .int .i64 a.h, .int .i64 a.s]] (Go.Sort.grow (redrawn w3 d) os) fun e w'' => e = .returned (.int .i64 (chkP a)) ∧ ∃ p : Regrown, w'' = Go.Sort.grow (redrawn w3 p.d) p.os := fun d os =>
      Calls.regrown_of ((checkP_any a _).mono (by rintro e w' ⟨rfl, hb⟩; exact ⟨rfl, hb⟩))
    have c3 : ∀ d os, Calls Try.prog 16 #[.agg #[.int .i64 a.x, .int .i64 a.y, .int .i64 a.z, .int .i64 a.h, .int .i64 a.s]] (Go.Sort.grow (redrawn w3 d) os) fun e w'' => e = .returned (.int .i64 (chkP a)) ∧ ∃ p : Regrown, w'' = Go.Sort.grow (redrawn w3 p.d) p.os := fun d os =>
      Calls.regrown_of ((checkPlace_any a _).mono (by rintro e w' ⟨rfl, rfl⟩; exact ⟨rfl, (Below.refl _ _).alloc (Nat.le_refl _) _⟩))
    generalize chkP a = ca at *
    refine wp_region_quiet_below (by kernel_rfl) (by kernel_rfl) ?_
    repeat (quiet_step (first | exact c1 _ _ | exact c2 _ _ | exact c3 _ _))
    refine wpQuiet_nil ?_
    intro _ hw'
    obtain ⟨⟨dq, osq⟩, hw''⟩ := hw'
    subst hw''
    have HBQ : Hid (Below w3.heap.size w3 (Go.Sort.grow (redrawn w3 dq) osq)) := below_regrown w3 dq osq
    clear c1 c2 c3 E0 E1 E2 E3 E4
    go_wp2_with fail
    go_ret
    exact ⟨rfl, HB3.out.trans (HBQ.out.mono HB3.out.size)⟩

end Go.Proofs.Ytmjdeacnapoijaa
