
/- Places: the document's Move, of places that are apart. -/
import Derived.Test.YtmjdeacnapoijaaP8
namespace Go.Proofs.Ytmjdeacnapoijaa
open Go.RowKit

theorem keep_top4 {W : World} {cs : Array Value} {t : TypeId} {g k : Nat} {v : Value} (hg : g = W.heap.size) (hv : cs[k]? = some v) : (W.alloc (.cells cs t)).drew.drew.drew.drew.cell? ⟨g, k, none⟩ = some v := by
  subst hg
  show (W.alloc (.cells cs t)).cell? _ = _
  rw [cell_top rfl]; exact hv

set_option maxHeartbeats 3200000 in
theorem moveOf_far (a b : Pl) (round D : Int) (w : World) (ha : OkP a) (hb : OkP b) (r0 : 1 ≤ round) (r1 : round ≤ 5000000) (hz : apartI a b = D) (hp : 0 < D) :
    Calls Try.prog 18 #[.agg #[.int .i64 a.x, .int .i64 a.y, .int .i64 a.z, .int .i64 a.h, .int .i64 a.s], .agg #[.int .i64 b.x, .int .i64 b.y, .int .i64 b.z, .int .i64 b.h, .int .i64 b.s], .int .i64 round] w fun e w' => e = .returned (.agg #[.int .i64 (moveP a b round).x, .int .i64 (moveP a b round).y, .int .i64 (moveP a b round).z, .int .i64 (moveP a b round).h, .int .i64 (moveP a b round).s]) ∧ Below w.heap.size w w' := by
  obtain ⟨f0, f1⟩ := farI_bd ha hb
  obtain ⟨w0, w1⟩ := wI_bd ha hb
  have hfar := fun w => farOf_any a b w ha hb
  have hflat := fun w => flatFar_any a b w ha hb
  rw [hz] at hflat
  have HM : Hid (moveP a b round = inP ⟨a.x + (stI a b round * (a.x - b.x)).tdiv D, a.y + (stI a b round * (a.y - b.y)).tdiv D, a.z + (stI a b round * (a.z - b.z)).tdiv D, a.h + (stI a b round).tdiv 10, a.s + ((eI (round - farI a b) round - a.s) * wI a b).tdiv 4000⟩) := (show moveP a b round = _ by unfold moveP rawP pushP; rw [if_neg (by omega), hz])
  have hst : stI a b round = ((round - farI a b) * wI a b).tdiv 4000 := rfl
  obtain ⟨ax0, ax1, ay0, ay1, az0, az1, ah0, ah1, as0, as1⟩ := ha
  have bs0 := hb.s0
  have bs1 := hb.s1
  have hW : wI a b = if a.s + b.s = 0 then 500 else a.s * 1000 / (a.s + b.s) := rfl
  obtain ⟨bx0, bx1, by0, by1, bz0, bz1, _, _, _, _⟩ := hb
  clear hz
  generalize farI a b = f at *
  generalize wI a b = W at *
  obtain ⟨m0, m1⟩ := mul_bd (a := round - f) (b := W) (A := 42000000) (B := 1000) (by omega) (by omega) (by omega) (by omega)
  obtain ⟨t0, t1⟩ := tdiv_4000 (m := (round - f) * W) (by omega) (by omega)
  obtain ⟨v0, v1⟩ := tdiv_bd (m := ((round - f) * W).tdiv 4000) (k := 10) (A := 10500000) (by omega) t0 t1
  obtain ⟨mx0, mx1⟩ := mul_bd (a := ((round - f) * W).tdiv 4000) (b := a.x - b.x) (A := 10500000) (B := 20000000) t0 t1 (by omega) (by omega)
  obtain ⟨my0, my1⟩ := mul_bd (a := ((round - f) * W).tdiv 4000) (b := a.y - b.y) (A := 10500000) (B := 20000000) t0 t1 (by omega) (by omega)
  obtain ⟨mz0, mz1⟩ := mul_bd (a := ((round - f) * W).tdiv 4000) (b := a.z - b.z) (A := 10500000) (B := 20000000) t0 t1 (by omega) (by omega)
  obtain ⟨qx0, qx1⟩ := tdiv_bd hp mx0 mx1
  obtain ⟨qy0, qy1⟩ := tdiv_bd hp my0 my1
  obtain ⟨qz0, qz1⟩ := tdiv_bd hp mz0 mz1
  rw [hst] at HM
  clear hst
  generalize moveP a b round = M at *
  obtain ⟨e0, e1⟩ := eI_bd (round - f) round r0
  obtain ⟨n0, n1⟩ := mul_bd (a := eI (round - f) round - a.s) (b := W) (A := 1000) (B := 1000) (by omega) (by omega) (by omega) (by omega)
  obtain ⟨u0, u1⟩ := tdiv_4000 (m := (eI (round - f) round - a.s) * W) (by omega) (by omega)
  obtain ⟨x1, y1, z1, p1, s1⟩ := a
  obtain ⟨x2, y2, z2, p2, s2⟩ := b
  simp only at *
  have HEP : Hid (0 ≤ round - f → clampI ((round - f) * 1000 / round) 0 1000 = eI (round - f) round) := fun h => eI_pos r0 h
  have HEN : Hid (round - f < 0 → clampI (-(round - f) * 1000 / round) 0 1000 = eI (round - f) round) := fun h => eI_neg r0 h
  have HWW : Hid (W = if s1 + s2 = 0 then 500 else s1 * 1000 / (s1 + s2)) := hW
  clear hW
  generalize eI (round - f) round = E at *
  by_cases hs : s1 + s2 = 0
  · by_cases hl : round - f < 0
    all_goals
      have hWd := HWW.out
      rw [if_pos hs] at hWd
      subst hWd
      clear HWW
      go_enter Try.func18, Try.ntmps18
      go_wp2_with fail
      refine (hfar _).mono ?_
      rintro e w1 ⟨rfl, hb1⟩
      have HB1 : Hid (Below (((w.alloc (.cells #[.int .i64 x1, .int .i64 y1, .int .i64 z1, .int .i64 p1, .int .i64 s1] 29)).alloc (.cells #[.int .i64 x2, .int .i64 y2, .int .i64 z2, .int .i64 p2, .int .i64 s2] 29)).alloc (.cells #[.int .i64 0, .int .i64 0, .int .i64 0, .int .i64 0, .int .i64 0] 29)).heap.size (((w.alloc (.cells #[.int .i64 x1, .int .i64 y1, .int .i64 z1, .int .i64 p1, .int .i64 s1] 29)).alloc (.cells #[.int .i64 x2, .int .i64 y2, .int .i64 z2, .int .i64 p2, .int .i64 s2] 29)).alloc (.cells #[.int .i64 0, .int .i64 0, .int .i64 0, .int .i64 0, .int .i64 0] 29)) w1) := hb1
      obtain ⟨hc, hf⟩ := bcell HB1.out
      clear hb1 hfar
      go_wp2_with fail
      refine (hflat _).mono ?_
      rintro e w2 ⟨rfl, hb2⟩
      have HB2 : Hid (Below (((w.alloc (.cells #[.int .i64 x1, .int .i64 y1, .int .i64 z1, .int .i64 p1, .int .i64 s1] 29)).alloc (.cells #[.int .i64 x2, .int .i64 y2, .int .i64 z2, .int .i64 p2, .int .i64 s2] 29)).alloc (.cells #[.int .i64 0, .int .i64 0, .int .i64 0, .int .i64 0, .int .i64 0] 29)).heap.size (((w.alloc (.cells #[.int .i64 x1, .int .i64 y1, .int .i64 z1, .int .i64 p1, .int .i64 s1] 29)).alloc (.cells #[.int .i64 x2, .int .i64 y2, .int .i64 z2, .int .i64 p2, .int .i64 s2] 29)).alloc (.cells #[.int .i64 0, .int .i64 0, .int .i64 0, .int .i64 0, .int .i64 0] 29)) w2) := HB1.out.trans (hb2.mono HB1.out.size)
      clear hc hf hb2 HB1 hflat
      obtain ⟨hc, hf⟩ := bcell HB2.out
      have hz2 : w.heap.size + 1 + 1 < w2.heap.size := by have := HB2.out.size; simp at this; omega
      have hza : w.heap.size < w2.heap.size := by omega
      have hsure : ∀ ob, (w2.alloc ob).cell? ⟨w.heap.size, 4, none⟩ = some (.int .i64 s1) := fun ob => by
        rw [cell_under hza, hc _ _ (by simp; omega)]
        rw [cell_under (by simp; omega), cell_under (by simp), cell_top rfl]
        rfl
      have ha0 : ∀ ob, (w2.alloc ob).cell? ⟨w.heap.size, 0, none⟩ = some (.int .i64 x1) := fun ob => by
        rw [cell_under hza, hc _ _ (by simp; omega)]
        rw [cell_under (by simp; omega), cell_under (by simp), cell_top rfl]
        rfl
      have ha1 : ∀ ob, (w2.alloc ob).cell? ⟨w.heap.size, 1, none⟩ = some (.int .i64 y1) := fun ob => by
        rw [cell_under hza, hc _ _ (by simp; omega)]
        rw [cell_under (by simp; omega), cell_under (by simp), cell_top rfl]
        rfl
      have ha2 : ∀ ob, (w2.alloc ob).cell? ⟨w.heap.size, 2, none⟩ = some (.int .i64 z1) := fun ob => by
        rw [cell_under hza, hc _ _ (by simp; omega)]
        rw [cell_under (by simp; omega), cell_under (by simp), cell_top rfl]
        rfl
      have hzb : w.heap.size + 1 < w2.heap.size := by omega
      have hb0 : ∀ ob, (w2.alloc ob).cell? ⟨w.heap.size + 1, 0, none⟩ = some (.int .i64 x2) := fun ob => by
        rw [cell_under hzb, hc _ _ (by simp)]
        rw [cell_under (by simp), cell_top (by simp)]
        rfl
      have hb1 : ∀ ob, (w2.alloc ob).cell? ⟨w.heap.size + 1, 1, none⟩ = some (.int .i64 y2) := fun ob => by
        rw [cell_under hzb, hc _ _ (by simp)]
        rw [cell_under (by simp), cell_top (by simp)]
        rfl
      have hb2 : ∀ ob, (w2.alloc ob).cell? ⟨w.heap.size + 1, 2, none⟩ = some (.int .i64 z2) := fun ob => by
        rw [cell_under hzb, hc _ _ (by simp)]
        rw [cell_under (by simp), cell_top (by simp)]
        rfl
      go_wp2_with fail
      go_region
      go_wp2_with fail
      go_region
      go_wp2_with fail
      go_region
      go_wp2_with fail
      refine (bound_any _ _ _ _ (by omega)).mono ?_
      rintro e w' ⟨rfl, rfl⟩
      first | rw [HEP.out (by omega)] | rw [HEN.out hl]
      go_wp2_with fail
      go_region_held3 (fun w' => w'.cell? ⟨w2.heap.size, 0, none⟩ = some (.int .i64 (x1 + (((round - f) * 500).tdiv 4000 * (x1 - x2)).tdiv D)) ∧ w'.cell? ⟨w2.heap.size, 1, none⟩ = some (.int .i64 (y1 + (((round - f) * 500).tdiv 4000 * (y1 - y2)).tdiv D)) ∧ w'.cell? ⟨w2.heap.size, 2, none⟩ = some (.int .i64 (z1 + (((round - f) * 500).tdiv 4000 * (z1 - z2)).tdiv D)) ∧ w'.cell? ⟨w2.heap.size, 3, none⟩ = some (.int .i64 (p1 + (((round - f) * 500).tdiv 4000).tdiv 10)) ∧ w'.cell? ⟨w2.heap.size, 4, none⟩ = some (.int .i64 (s1 + ((E - s1) * 500).tdiv 4000))) (first | (with_reducible refine ⟨keep_top4 ?_ ?_, keep_top4 ?_ ?_, keep_top4 ?_ ?_, keep_top4 ?_ ?_, keep_top4 ?_ ?_⟩ <;> first | rfl | simp) | go_keep) (first | (go_at_call 31; refine (bound_any _ _ _ _ (by omega)).mono ?_; rintro e w' ⟨rfl, rfl⟩))
      go_wp2_with fail
      exact bodyPost_ret (v := .agg #[.int .i64 (clampI (x1 + (((round - f) * 500).tdiv 4000 * (x1 - x2)).tdiv D) (-10000000) 10000000), .int .i64 (clampI (y1 + (((round - f) * 500).tdiv 4000 * (y1 - y2)).tdiv D) (-10000000) 10000000), .int .i64 (clampI (z1 + (((round - f) * 500).tdiv 4000 * (z1 - z2)).tdiv D) (-10000000) 10000000), .int .i64 (clampI (p1 + (((round - f) * 500).tdiv 4000).tdiv 10) 0 1000000), .int .i64 (clampI (s1 + ((E - s1) * 500).tdiv 4000) 0 1000)]) (by simp [results, Try.results18, go_sem, hc, hz2]) rfl ⟨by rw [HM.out]; rfl, ((((((((((Below.refl _ _).alloc (Nat.le_refl _) _).alloc (by simp) _).alloc (by simp; omega) _).trans (HB2.out.mono (by simp; omega))).setCell (by simp; omega) _).setCell (by simp; omega) _).setCell (by simp; omega) _).setCell (by simp; omega) _).setCell (by simp; omega) _).alloc (by simp; omega) _ |>.drew |>.drew |>.drew |>.drew⟩
  · by_cases hl : round - f < 0
    all_goals
      have hWd := HWW.out
      rw [if_neg hs] at hWd
      subst hWd
      clear HWW
      go_enter Try.func18, Try.ntmps18
      go_wp2_with fail
      refine (hfar _).mono ?_
      rintro e w1 ⟨rfl, hb1⟩
      have HB1 : Hid (Below (((w.alloc (.cells #[.int .i64 x1, .int .i64 y1, .int .i64 z1, .int .i64 p1, .int .i64 s1] 29)).alloc (.cells #[.int .i64 x2, .int .i64 y2, .int .i64 z2, .int .i64 p2, .int .i64 s2] 29)).alloc (.cells #[.int .i64 0, .int .i64 0, .int .i64 0, .int .i64 0, .int .i64 0] 29)).heap.size (((w.alloc (.cells #[.int .i64 x1, .int .i64 y1, .int .i64 z1, .int .i64 p1, .int .i64 s1] 29)).alloc (.cells #[.int .i64 x2, .int .i64 y2, .int .i64 z2, .int .i64 p2, .int .i64 s2] 29)).alloc (.cells #[.int .i64 0, .int .i64 0, .int .i64 0, .int .i64 0, .int .i64 0] 29)) w1) := hb1
      obtain ⟨hc, hf⟩ := bcell HB1.out
      clear hb1 hfar
      go_wp2_with fail
      refine (hflat _).mono ?_
      rintro e w2 ⟨rfl, hb2⟩
      have HB2 : Hid (Below (((w.alloc (.cells #[.int .i64 x1, .int .i64 y1, .int .i64 z1, .int .i64 p1, .int .i64 s1] 29)).alloc (.cells #[.int .i64 x2, .int .i64 y2, .int .i64 z2, .int .i64 p2, .int .i64 s2] 29)).alloc (.cells #[.int .i64 0, .int .i64 0, .int .i64 0, .int .i64 0, .int .i64 0] 29)).heap.size (((w.alloc (.cells #[.int .i64 x1, .int .i64 y1, .int .i64 z1, .int .i64 p1, .int .i64 s1] 29)).alloc (.cells #[.int .i64 x2, .int .i64 y2, .int .i64 z2, .int .i64 p2, .int .i64 s2] 29)).alloc (.cells #[.int .i64 0, .int .i64 0, .int .i64 0, .int .i64 0, .int .i64 0] 29)) w2) := HB1.out.trans (hb2.mono HB1.out.size)
      clear hc hf hb2 HB1 hflat
      obtain ⟨hc, hf⟩ := bcell HB2.out
      have hz2 : w.heap.size + 1 + 1 < w2.heap.size := by have := HB2.out.size; simp at this; omega
      have hza : w.heap.size < w2.heap.size := by omega
      have hsure : ∀ ob, (w2.alloc ob).cell? ⟨w.heap.size, 4, none⟩ = some (.int .i64 s1) := fun ob => by
        rw [cell_under hza, hc _ _ (by simp; omega)]
        rw [cell_under (by simp; omega), cell_under (by simp), cell_top rfl]
        rfl
      have ha0 : ∀ ob, (w2.alloc ob).cell? ⟨w.heap.size, 0, none⟩ = some (.int .i64 x1) := fun ob => by
        rw [cell_under hza, hc _ _ (by simp; omega)]
        rw [cell_under (by simp; omega), cell_under (by simp), cell_top rfl]
        rfl
      have ha1 : ∀ ob, (w2.alloc ob).cell? ⟨w.heap.size, 1, none⟩ = some (.int .i64 y1) := fun ob => by
        rw [cell_under hza, hc _ _ (by simp; omega)]
        rw [cell_under (by simp; omega), cell_under (by simp), cell_top rfl]
        rfl
      have ha2 : ∀ ob, (w2.alloc ob).cell? ⟨w.heap.size, 2, none⟩ = some (.int .i64 z1) := fun ob => by
        rw [cell_under hza, hc _ _ (by simp; omega)]
        rw [cell_under (by simp; omega), cell_under (by simp), cell_top rfl]
        rfl
      have hzb : w.heap.size + 1 < w2.heap.size := by omega
      have hb0 : ∀ ob, (w2.alloc ob).cell? ⟨w.heap.size + 1, 0, none⟩ = some (.int .i64 x2) := fun ob => by
        rw [cell_under hzb, hc _ _ (by simp)]
        rw [cell_under (by simp), cell_top (by simp)]
        rfl
      have hb1 : ∀ ob, (w2.alloc ob).cell? ⟨w.heap.size + 1, 1, none⟩ = some (.int .i64 y2) := fun ob => by
        rw [cell_under hzb, hc _ _ (by simp)]
        rw [cell_under (by simp), cell_top (by simp)]
        rfl
      have hb2 : ∀ ob, (w2.alloc ob).cell? ⟨w.heap.size + 1, 2, none⟩ = some (.int .i64 z2) := fun ob => by
        rw [cell_under hzb, hc _ _ (by simp)]
        rw [cell_under (by simp), cell_top (by simp)]
        rfl
      go_wp2_with fail
      go_region
      go_wp2_with fail
      go_region
      go_wp2_with fail
      go_region
      go_wp2_with fail
      refine (bound_any _ _ _ _ (by omega)).mono ?_
      rintro e w' ⟨rfl, rfl⟩
      first | rw [HEP.out (by omega)] | rw [HEN.out hl]
      go_wp2_with fail
      go_region_held3 (fun w' => w'.cell? ⟨w2.heap.size, 0, none⟩ = some (.int .i64 (x1 + (((round - f) * (s1 * 1000 / (s1 + s2))).tdiv 4000 * (x1 - x2)).tdiv D)) ∧ w'.cell? ⟨w2.heap.size, 1, none⟩ = some (.int .i64 (y1 + (((round - f) * (s1 * 1000 / (s1 + s2))).tdiv 4000 * (y1 - y2)).tdiv D)) ∧ w'.cell? ⟨w2.heap.size, 2, none⟩ = some (.int .i64 (z1 + (((round - f) * (s1 * 1000 / (s1 + s2))).tdiv 4000 * (z1 - z2)).tdiv D)) ∧ w'.cell? ⟨w2.heap.size, 3, none⟩ = some (.int .i64 (p1 + (((round - f) * (s1 * 1000 / (s1 + s2))).tdiv 4000).tdiv 10)) ∧ w'.cell? ⟨w2.heap.size, 4, none⟩ = some (.int .i64 (s1 + ((E - s1) * (s1 * 1000 / (s1 + s2))).tdiv 4000))) (first | (with_reducible refine ⟨keep_top4 ?_ ?_, keep_top4 ?_ ?_, keep_top4 ?_ ?_, keep_top4 ?_ ?_, keep_top4 ?_ ?_⟩ <;> first | rfl | simp) | go_keep) (first | (go_at_call 31; refine (bound_any _ _ _ _ (by omega)).mono ?_; rintro e w' ⟨rfl, rfl⟩))
      go_wp2_with fail
      exact bodyPost_ret (v := .agg #[.int .i64 (clampI (x1 + (((round - f) * (s1 * 1000 / (s1 + s2))).tdiv 4000 * (x1 - x2)).tdiv D) (-10000000) 10000000), .int .i64 (clampI (y1 + (((round - f) * (s1 * 1000 / (s1 + s2))).tdiv 4000 * (y1 - y2)).tdiv D) (-10000000) 10000000), .int .i64 (clampI (z1 + (((round - f) * (s1 * 1000 / (s1 + s2))).tdiv 4000 * (z1 - z2)).tdiv D) (-10000000) 10000000), .int .i64 (clampI (p1 + (((round - f) * (s1 * 1000 / (s1 + s2))).tdiv 4000).tdiv 10) 0 1000000), .int .i64 (clampI (s1 + ((E - s1) * (s1 * 1000 / (s1 + s2))).tdiv 4000) 0 1000)]) (by simp [results, Try.results18, go_sem, hc, hz2]) rfl ⟨by rw [HM.out]; rfl, ((((((((((Below.refl _ _).alloc (Nat.le_refl _) _).alloc (by simp) _).alloc (by simp; omega) _).trans (HB2.out.mono (by simp; omega))).setCell (by simp; omega) _).setCell (by simp; omega) _).setCell (by simp; omega) _).setCell (by simp; omega) _).setCell (by simp; omega) _).alloc (by simp; omega) _ |>.drew |>.drew |>.drew |>.drew⟩

end Go.Proofs.Ytmjdeacnapoijaa
