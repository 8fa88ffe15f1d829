
/- Places: Move. -/
import Derived.Test.YtmjdeacnapoijaaP5
namespace Go.Proofs.Ytmjdeacnapoijaa
open Go.RowKit

def wI (a b : Pl) : Int := if a.s + b.s = 0 then 500 else a.s * 1000 / (a.s + b.s)
def pushP (a b : Pl) (st : Int) : Pl :=
  if apartI a b = 0 then ⟨a.x + st, a.y, a.z, a.h + st.tdiv 10, a.s⟩
  else ⟨a.x + (st * (a.x - b.x)).tdiv (apartI a b), a.y + (st * (a.y - b.y)).tdiv (apartI a b), a.z + (st * (a.z - b.z)).tdiv (apartI a b), a.h + st.tdiv 10, a.s⟩

theorem mul_bd {a b A B : Int} (a0 : -A ≤ a) (a1 : a ≤ A) (b0 : -B ≤ b) (b1 : b ≤ B) : -(A * B) ≤ a * b ∧ a * b ≤ A * B := by
  have h1 : a.natAbs ≤ A.natAbs := by omega
  have h2 : b.natAbs ≤ B.natAbs := by omega
  have h3 := Nat.mul_le_mul h1 h2
  rw [← Int.natAbs_mul, ← Int.natAbs_mul] at h3
  have h4 : 0 ≤ A * B := Int.mul_nonneg (by omega) (by omega)
  omega
theorem tdiv_bd {m k A : Int} (hk : 0 < k) (h0 : -A ≤ m) (h1 : m ≤ A) : -A ≤ m.tdiv k ∧ m.tdiv k ≤ A := by
  rcases Int.le_total 0 m with h | h
  · rw [Int.tdiv_eq_ediv_of_nonneg h]
    have := Int.ediv_nonneg h (Int.le_of_lt hk)
    have := Int.ediv_le_self k h
    omega
  · have e : m.tdiv k = -((-m) / k) := by
      rw [← Int.tdiv_eq_ediv_of_nonneg (by omega), Int.neg_tdiv, Int.neg_neg]
    rw [e]
    have := Int.ediv_nonneg (a := -m) (by omega) (Int.le_of_lt hk)
    have := Int.ediv_le_self k (a := -m) (by omega)
    omega

theorem bcell {W w1 : World} (hb : Below W.heap.size W w1) : (∀ b o, b < W.heap.size → w1.cell? ⟨b, o, none⟩ = W.cell? ⟨b, o, none⟩) ∧ (∀ b o, b < W.heap.size → w1.frozen? ⟨b, o, none⟩ = W.frozen? ⟨b, o, none⟩) :=
  ⟨fun b o h => hb.cell (p := ⟨b, o, none⟩) h, fun b o h => hb.frozen (p := ⟨b, o, none⟩) h⟩

set_option maxHeartbeats 1600000 in
theorem push_zero (a b : Pl) (st : Int) (w : World) (ha : OkP a) (hb : OkP b) (h0 : -20000000 ≤ st) (h1 : st ≤ 20000000) (hz : apartI a b = 0) :
    Calls Try.prog 30 #[.agg #[.int .i64 a.x, .int .i64 a.y, .int .i64 a.z, .int .i64 a.h, .int .i64 a.s], .agg #[.int .i64 b.x, .int .i64 b.y, .int .i64 b.z, .int .i64 b.h, .int .i64 b.s], .int .i64 st] w fun e w' => e = .returned (.agg #[.int .i64 (a.x + st), .int .i64 a.y, .int .i64 a.z, .int .i64 (a.h + st.tdiv 10), .int .i64 a.s]) ∧ Below w.heap.size w w' := by
  have hap := fun w => apart_any a b w ha hb
  rw [hz] at hap
  obtain ⟨ax0, ax1, ay0, ay1, az0, az1, _, _, _, _⟩ := ha
  obtain ⟨bx0, bx1, by0, by1, bz0, bz1, _, _, _, _⟩ := hb
  clear hz
  obtain ⟨x1, y1, z1, p1, s1⟩ := a
  obtain ⟨x2, y2, z2, p2, s2⟩ := b
  simp only at *
  have d0 := (tdiv_bd (m := st) (k := 10) (A := 20000000) (by omega) h0 h1).1
  have d1 := (tdiv_bd (m := st) (k := 10) (A := 20000000) (by omega) h0 h1).2
  go_enter Try.func30, Try.ntmps30
  go_wp2_with fail
  refine (hap _).mono ?_
  rintro e w1 ⟨rfl, hb1⟩
  obtain ⟨hc, hf⟩ := bcell hb1
  have hz : w.heap.size + 1 + 1 + 1 < w1.heap.size := by have := hb1.size; simp at this; omega
  have HB1 : Hid (Below w.heap.size w w1) := (((((Below.refl _ _).alloc (Nat.le_refl _) _).alloc (by simp) _).alloc (by simp; omega) _).alloc (by simp; omega) _).trans (hb1.mono (by simp; omega))
  clear hb1 hap
  go_wp2_with fail
  exact bodyPost_ret (v := .agg #[.int .i64 (x1 + st), .int .i64 y1, .int .i64 z1, .int .i64 (p1 + st.tdiv 10), .int .i64 s1]) (by simp [results, Try.results30, go_sem, hc]) rfl ⟨rfl, (((((HB1.out.setCell (by simp; omega) _).setCell (by simp; omega) _).setCell (by simp; omega) _).setCell (by simp; omega) _).setCell (by simp; omega) _).setCell (by simp; omega) _⟩

set_option maxHeartbeats 3200000 in
theorem push_far (a b : Pl) (st D : Int) (w : World) (ha : OkP a) (hb : OkP b) (h0 : -20000000 ≤ st) (h1 : st ≤ 20000000) (hD : apartI a b = D) (hp : 0 < D) :
    Calls Try.prog 30 #[.agg #[.int .i64 a.x, .int .i64 a.y, .int .i64 a.z, .int .i64 a.h, .int .i64 a.s], .agg #[.int .i64 b.x, .int .i64 b.y, .int .i64 b.z, .int .i64 b.h, .int .i64 b.s], .int .i64 st] w fun e w' => e = .returned (.agg #[.int .i64 (a.x + (st * (a.x - b.x)).tdiv D), .int .i64 (a.y + (st * (a.y - b.y)).tdiv D), .int .i64 (a.z + (st * (a.z - b.z)).tdiv D), .int .i64 (a.h + st.tdiv 10), .int .i64 a.s]) ∧ Below w.heap.size w w' := by
  have hap := fun w => apart_any a b w ha hb
  rw [hD] at hap
  obtain ⟨ax0, ax1, ay0, ay1, az0, az1, _, _, _, _⟩ := ha
  obtain ⟨bx0, bx1, by0, by1, bz0, bz1, _, _, _, _⟩ := hb
  clear hD
  obtain ⟨x1, y1, z1, p1, s1⟩ := a
  obtain ⟨x2, y2, z2, p2, s2⟩ := b
  simp only at *
  have d0 := (tdiv_bd (m := st) (k := 10) (A := 20000000) (by omega) h0 h1).1
  have d1 := (tdiv_bd (m := st) (k := 10) (A := 20000000) (by omega) h0 h1).2
  obtain ⟨mx0, mx1⟩ := mul_bd (a := st) (b := x1 - x2) (A := 20000000) (B := 20000000) h0 h1 (by omega) (by omega)
  obtain ⟨my0, my1⟩ := mul_bd (a := st) (b := y1 - y2) (A := 20000000) (B := 20000000) h0 h1 (by omega) (by omega)
  obtain ⟨mz0, mz1⟩ := mul_bd (a := st) (b := z1 - z2) (A := 20000000) (B := 20000000) h0 h1 (by omega) (by omega)
  obtain ⟨qx0, qx1⟩ := tdiv_bd hp mx0 mx1
  obtain ⟨qy0, qy1⟩ := tdiv_bd hp my0 my1
  obtain ⟨qz0, qz1⟩ := tdiv_bd hp mz0 mz1
  go_enter Try.func30, Try.ntmps30
  go_wp2_with fail
  refine (hap _).mono ?_
  rintro e w1 ⟨rfl, hb1⟩
  obtain ⟨hc, hf⟩ := bcell hb1
  have hz : w.heap.size + 1 + 1 + 1 < w1.heap.size := by have := hb1.size; simp at this; omega
  have HB1 : Hid (Below w.heap.size w w1) := (((((Below.refl _ _).alloc (Nat.le_refl _) _).alloc (by simp) _).alloc (by simp; omega) _).alloc (by simp; omega) _).trans (hb1.mono (by simp; omega))
  clear hb1 hap
  go_wp2_with fail
  go_region
  go_wp2_with fail
  go_region
  go_wp2_with fail
  go_region
  go_wp2_with fail
  exact bodyPost_ret (v := .agg #[.int .i64 (x1 + (st * (x1 - x2)).tdiv D), .int .i64 (y1 + (st * (y1 - y2)).tdiv D), .int .i64 (z1 + (st * (z1 - z2)).tdiv D), .int .i64 (p1 + st.tdiv 10), .int .i64 s1]) (by simp [results, Try.results30, go_sem, hc]) rfl ⟨rfl, ((((((((((HB1.out.setCell (by simp; omega) _).setCell (by simp; omega) _).setCell (by simp; omega) _).setCell (by simp; omega) _).setCell (by simp; omega) _).setCell (by simp; omega) _).setCell (by simp; omega) _).setCell (by simp; omega) _).drew).drew).drew⟩

theorem push_any (a b : Pl) (st : Int) (w : World) (ha : OkP a) (hb : OkP b) (h0 : -20000000 ≤ st) (h1 : st ≤ 20000000) :
    Calls Try.prog 30 #[.agg #[.int .i64 a.x, .int .i64 a.y, .int .i64 a.z, .int .i64 a.h, .int .i64 a.s], .agg #[.int .i64 b.x, .int .i64 b.y, .int .i64 b.z, .int .i64 b.h, .int .i64 b.s], .int .i64 st] w fun e w' => e = .returned (.agg #[.int .i64 (pushP a b st).x, .int .i64 (pushP a b st).y, .int .i64 (pushP a b st).z, .int .i64 (pushP a b st).h, .int .i64 (pushP a b st).s]) ∧ Below w.heap.size w w' := by
  by_cases hz : apartI a b = 0
  · unfold pushP
    rw [if_pos hz]
    exact push_zero a b st w ha hb h0 h1 hz
  · unfold pushP
    rw [if_neg hz]
    exact push_far a b st _ w ha hb h0 h1 rfl (by have := (apartI_bd ha hb).1; omega)
theorem pushP_s (a b : Pl) (st : Int) : (pushP a b st).s = a.s := by unfold pushP; split <;> rfl

theorem wI_bd {a b : Pl} (ha : OkP a) (hb : OkP b) : 0 ≤ wI a b ∧ wI a b ≤ 1000 := by
  have h1 := ha.s0
  have h2 := hb.s0
  unfold wI
  split
  · omega
  · refine ⟨Int.ediv_nonneg (by omega) (by omega), ?_⟩
    exact Int.ediv_le_of_le_mul (by omega) (by omega)

set_option maxHeartbeats 1600000 in
theorem weight_any (a b : Pl) (w : World) (ha : OkP a) (hb : OkP b) :
    Calls Try.prog 29 #[.agg #[.int .i64 a.x, .int .i64 a.y, .int .i64 a.z, .int .i64 a.h, .int .i64 a.s], .agg #[.int .i64 b.x, .int .i64 b.y, .int .i64 b.z, .int .i64 b.h, .int .i64 b.s]] w fun e w' => e = .returned (.int .i64 (wI a b)) ∧ Below w.heap.size w w' := by
  have h1 := ha.s0
  have h2 := hb.s0
  have h3 := ha.s1
  have h4 := hb.s1
  have hw := wI_bd ha hb
  by_cases hz : a.s + b.s = 0
  · have HE : Hid (wI a b = 500) := (show wI a b = 500 by unfold wI; rw [if_pos hz])
    clear hw
    generalize wI a b = W at *
    clear ha hb
    obtain ⟨x1, y1, z1, p1, s1⟩ := a
    obtain ⟨x2, y2, z2, p2, s2⟩ := b
    simp only at *
    go_enter Try.func29, Try.ntmps29
    go_wp2_with fail
    go_ret
    exact ⟨retn HE.out.symm, ((Below.refl _ _).alloc (Nat.le_refl _) _).alloc (by simp) _⟩
  · have HE : Hid (wI a b = a.s * 1000 / (a.s + b.s)) := (show wI a b = _ by unfold wI; rw [if_neg hz])
    rw [HE.out] at hw
    obtain ⟨w0, w1⟩ := hw
    generalize wI a b = W at *
    clear ha hb
    obtain ⟨x1, y1, z1, p1, s1⟩ := a
    obtain ⟨x2, y2, z2, p2, s2⟩ := b
    simp only at *
    have hpos : 0 < s1 + s2 := by omega
    go_enter Try.func29, Try.ntmps29
    go_wp2_with fail
    go_ret
    exact ⟨retn (by rw [HE.out]), ((Below.refl _ _).alloc (Nat.le_refl _) _).alloc (by simp) _⟩

end Go.Proofs.Ytmjdeacnapoijaa
