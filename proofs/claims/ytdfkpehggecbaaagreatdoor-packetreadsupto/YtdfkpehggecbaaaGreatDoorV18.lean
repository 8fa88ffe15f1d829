/- P3, P4, P5 -/
import Derived.Test.YtdfkpehggecbaaaGreatDoorV11
/- Places: checkAll, Far; what must be in any case. -/
namespace Go.Proofs.YtdfkpehggecbaaaGreatDoor
open Go.RowKit

def dp : Pl := ⟨0, 0, 0, 0, 0⟩
def PRow (w : World) (b off : Nat) (ps : List Pl) : Prop := ∀ k, k < ps.length →
  w.cell? ⟨b, off + k * 5, none⟩ = some (.int .i64 (ps.getD k dp).x) ∧ w.cell? ⟨b, off + k * 5 + 1, none⟩ = some (.int .i64 (ps.getD k dp).y) ∧ w.cell? ⟨b, off + k * 5 + 2, none⟩ = some (.int .i64 (ps.getD k dp).z) ∧ w.cell? ⟨b, off + k * 5 + 3, none⟩ = some (.int .i64 (ps.getD k dp).h) ∧ w.cell? ⟨b, off + k * 5 + 4, none⟩ = some (.int .i64 (ps.getD k dp).s)
theorem PRow.below {w w' : World} {b off : Nat} {ps : List Pl} (h : PRow w b off ps) (hb : Below w.heap.size w w') : PRow w' b off ps := fun k hk => by
  obtain ⟨h0, h1, h2, h3, h4⟩ := h k hk
  have hlt : b < w.heap.size := World.block_lt_of_cell? w ⟨b, off + k * 5, none⟩ h0
  exact ⟨by rw [hb.cell hlt]; exact h0, by rw [hb.cell hlt]; exact h1, by rw [hb.cell hlt]; exact h2, by rw [hb.cell hlt]; exact h3, by rw [hb.cell hlt]; exact h4⟩

def chkPs : List Pl → Int
  | [] => 0
  | p :: r => if chkP p = 0 then chkPs r else 3
theorem chkPs_zero : ∀ (ps : List Pl), chkPs ps = 0 ↔ ∀ j, j < ps.length → chkP (ps.getD j dp) = 0
  | [] => by simp [chkPs]
  | p :: r => by
    unfold chkPs
    by_cases h : chkP p = 0
    · rw [if_pos h, chkPs_zero r]
      constructor
      · intro g j hj
        cases j with
        | zero => simpa using h
        | succ j => simpa using g j (by simpa using hj)
      · intro g j hj
        simpa using g (j + 1) (by simpa using hj)
    · rw [if_neg h]
      exact ⟨fun e => by simp at e, fun g => absurd (by simpa using g 0 (by simp)) h⟩
theorem chkPs_or : ∀ (ps : List Pl), chkPs ps = 0 ∨ chkPs ps = 3
  | [] => .inl rfl
  | p :: r => by
    unfold chkPs
    split
    · exact chkPs_or r
    · exact .inr rfl
theorem chkPs_bad {ps : List Pl} {k : Nat} (hk : k < ps.length) (h : chkP (ps.getD k dp) ≠ 0) : chkPs ps = 3 := by
  rcases chkPs_or ps with e | e
  · exact absurd ((chkPs_zero ps).1 e k hk) h
  · exact e

end Go.Proofs.YtdfkpehggecbaaaGreatDoor

/- Places: how far. -/
namespace Go.Proofs.YtdfkpehggecbaaaGreatDoor
open Go.RowKit

def flatI (a b : Pl) : Int := (a.x - b.x) * (a.x - b.x) + (a.y - b.y) * (a.y - b.y) + (a.z - b.z) * (a.z - b.z)
def apartI (a b : Pl) : Int := rt (flatI a b)
def farI (a b : Pl) : Int := apartI a b + a.h + b.h

theorem wrapk_id {m : Int} (h0 : -9223372036854775808 ≤ m) (h1 : m ≤ 9223372036854775807) : IntKind.i64.wrap m = m := by
  rw [IntKind.wrap_i64]; omega
theorem sq_nonneg (x : Int) : 0 ≤ x * x := by
  rcases Int.le_total 0 x with h | h
  · exact Int.mul_nonneg h h
  · exact Int.mul_nonneg_of_nonpos_of_nonpos h h
theorem sq_bd {x m : Int} (h0 : -m ≤ x) (h1 : x ≤ m) : x * x ≤ m * m := by
  rcases Int.le_total 0 x with h | h
  · exact sq_le h h1
  · have := sq_le (a := -x) (b := m) (by omega) (by omega)
    rwa [Int.neg_mul_neg] at this
theorem sq_20 {x : Int} (h0 : -20000000 ≤ x) (h1 : x ≤ 20000000) : x * x ≤ 400000000000000 := sq_bd (m := 20000000) h0 h1
theorem flatI_bd {a b : Pl} (ha : OkP a) (hb : OkP b) : 0 ≤ flatI a b ∧ flatI a b ≤ 1200000000000000 := by
  have h1 := sq_20 (x := a.x - b.x) (by have := ha.x0; have := hb.x1; omega) (by have := ha.x1; have := hb.x0; omega)
  have h2 := sq_20 (x := a.y - b.y) (by have := ha.y0; have := hb.y1; omega) (by have := ha.y1; have := hb.y0; omega)
  have h3 := sq_20 (x := a.z - b.z) (by have := ha.z0; have := hb.z1; omega) (by have := ha.z1; have := hb.z0; omega)
  have g1 := sq_nonneg (a.x - b.x)
  have g2 := sq_nonneg (a.y - b.y)
  have g3 := sq_nonneg (a.z - b.z)
  unfold flatI
  omega
theorem isRoot_rt {n r : Int} (h : IsRoot n r) : IsRoot n (rt n) := by rw [rt_eq h]; exact h

/-- There is a root. -/
theorem root_ex : ∀ (n : Nat), ∃ r : Nat, IsRoot n r
  | 0 => ⟨0, by decide, by decide, by decide⟩
  | n + 1 => by
    obtain ⟨r, h0, h1, h2⟩ := root_ex n
    by_cases h : (((r + 1 : Nat) : Int)) * ((r + 1 : Nat) : Int) ≤ ((n + 1 : Nat) : Int)
    · refine ⟨r + 1, by omega, h, ?_⟩
      have e1 : ((r : Int) + 1 + 1) * ((r : Int) + 1 + 1) = ((r : Int) + 1) * ((r : Int) + 1) + 2 * r + 3 := by
        simp only [Int.add_mul, Int.mul_add]; omega
      push_cast
      omega
    · refine ⟨r, h0, by push_cast; omega, by push_cast at h ⊢; omega⟩
theorem rt_is {n : Int} (h : 0 ≤ n) : IsRoot n (rt n) := by
  obtain ⟨r, hr⟩ := root_ex n.toNat
  rw [Int.toNat_of_nonneg h] at hr
  exact isRoot_rt hr
theorem rt_le {n : Int} (h0 : 0 ≤ n) (h1 : n ≤ 1200000000000000) : 0 ≤ rt n ∧ rt n ≤ 34641016 := by
  obtain ⟨h, g, _⟩ := rt_is h0
  refine ⟨h, ?_⟩
  apply Classical.byContradiction; intro c
  have := sq_le (a := 34641017) (b := rt n) (by omega) (by omega)
  omega
theorem apartI_bd {a b : Pl} (ha : OkP a) (hb : OkP b) : 0 ≤ apartI a b ∧ apartI a b ≤ 34641016 :=
  rt_le (flatI_bd ha hb).1 (flatI_bd ha hb).2

theorem chkPs_two (a b : Pl) : chkPs [a, b] = 0 ↔ OkP a ∧ OkP b := by
  rw [← okP_iff, ← okP_iff]
  unfold chkPs chkPs chkPs
  by_cases h : chkP a = 0 <;> by_cases g : chkP b = 0 <;> simp [h, g]

theorem cell_top {W : World} {cs : Array Value} {t : TypeId} {g k : Nat} (hg : g = W.heap.size) : (W.alloc (.cells cs t)).cell? ⟨g, k, none⟩ = cs[k]? := by subst hg; simp
theorem cell_under {W : World} {o : Obj} {g k : Nat} (hg : g < W.heap.size) : (W.alloc o).cell? ⟨g, k, none⟩ = W.cell? ⟨g, k, none⟩ :=
  ((Below.refl W.heap.size W).alloc (Nat.le_refl _) o).cell (p := ⟨g, k, none⟩) hg
theorem prow_two {W : World} {a b : Pl} {t : TypeId} {g : Nat} (hg : g = W.heap.size) : PRow (W.alloc (.cells #[.int .i64 a.x, .int .i64 a.y, .int .i64 a.z, .int .i64 a.h, .int .i64 a.s, .int .i64 b.x, .int .i64 b.y, .int .i64 b.z, .int .i64 b.h, .int .i64 b.s] t)) g 0 [a, b] := by
  intro k hk
  match k, hk with
  | 0, _ => exact ⟨cell_top hg, cell_top hg, cell_top hg, cell_top hg, cell_top hg⟩
  | 1, _ => exact ⟨cell_top hg, cell_top hg, cell_top hg, cell_top hg, cell_top hg⟩

def pA : Pl := ⟨3, 0, 0, 1, 0⟩
def pB : Pl := ⟨0, 4, 0, 2, 0⟩
theorem rt_17 : rt 17 = 4 := rt_eq ⟨by decide, by decide, by decide⟩
theorem far_AB : farI pA pB = 8 := by
  have h : apartI pA pB = 5 := rt_eq ⟨by decide, by decide, by decide⟩
  unfold farI
  rw [h]
  rfl
theorem ok_A : OkP pA := by constructor <;> decide
theorem ok_B : OkP pB := by constructor <;> decide

end Go.Proofs.YtdfkpehggecbaaaGreatDoor

/- Places: the document's Check and Far; the law PlaceFar. -/
namespace Go.Proofs.YtdfkpehggecbaaaGreatDoor
open Go.RowKit

def betw (n a b : Int) : Bool := decide (a ≤ n) && decide (n ≤ b)
theorem retb {a b : Bool} (h : a = b) : Ending.returned (.bool a) = .returned (.bool b) := by rw [h]
set_option maxHeartbeats 400000 in
theorem between_any' (n a b : Int) (w : World) :
    Calls Tryz.prog 58 #[.int .i64 n, .int .i64 a, .int .i64 b] w fun e w' => e = .returned (.bool (betw n a b)) ∧ w' = w := by
  go_enter Tryz.func58, Tryz.ntmps58
  go_wp2
  all_goals
    go_ret
    exact ⟨retb (by unfold betw; rw [Bool.eq_iff_iff]; simp; try omega), rfl⟩
theorem betw_true {n a b : Int} (h : betw n a b = true) : a ≤ n ∧ n ≤ b := by simpa [betw] using h
theorem betw_false {n a b : Int} (h : betw n a b = false) : ¬ (a ≤ n ∧ n ≤ b) := by
  intro g; simp [betw, g.1, g.2] at h
theorem chkP_three {p : Pl} (h : ¬ OkP p) : chkP p = 3 := (chkP_or p).resolve_left (fun e => h ((okP_iff p).1 e))

set_option maxHeartbeats 1600000 in
theorem checkPlace_any (p : Pl) (w : World) :
    Calls Tryz.prog 59 #[.agg #[.int .i64 p.x, .int .i64 p.y, .int .i64 p.z, .int .i64 p.h, .int .i64 p.s]] w fun e w' => e = .returned (.int .i64 (chkP p)) ∧ w' = w.alloc (.cells #[.int .i64 p.x, .int .i64 p.y, .int .i64 p.z, .int .i64 p.h, .int .i64 p.s] 64) := by
  have HK := okP_iff p
  have H3 : Hid (¬ OkP p → chkP p = 3) := chkP_three
  have HX : Hid (chkP p = 0 ↔ OkP p) := HK
  clear HK
  rcases h1 : betw p.x (-10000000) 10000000 with _ | _
  · have HE : Hid (chkP p = 3) := H3.out (fun o => betw_false h1 ⟨o.x0, o.x1⟩)
    clear HX H3
    go_enter Tryz.func59, Tryz.ntmps59
    go_wp2_with (go_at_call 58; refine (between_any' _ _ _ _).mono ?_; rintro e w' ⟨rfl, rfl⟩; rw [h1])
    go_ret
    exact ⟨retn HE.out.symm, rfl⟩
  rcases h2 : betw p.y (-10000000) 10000000 with _ | _
  · have HE : Hid (chkP p = 3) := H3.out (fun o => betw_false h2 ⟨o.y0, o.y1⟩)
    clear HX H3
    go_enter Tryz.func59, Tryz.ntmps59
    go_wp2_with (go_at_call 58; refine (between_any' _ _ _ _).mono ?_; rintro e w' ⟨rfl, rfl⟩; first | rw [h1] | rw [h2])
    go_ret
    exact ⟨retn HE.out.symm, rfl⟩
  rcases h3 : betw p.z (-10000000) 10000000 with _ | _
  · have HE : Hid (chkP p = 3) := H3.out (fun o => betw_false h3 ⟨o.z0, o.z1⟩)
    clear HX H3
    go_enter Tryz.func59, Tryz.ntmps59
    go_wp2_with (go_at_call 58; refine (between_any' _ _ _ _).mono ?_; rintro e w' ⟨rfl, rfl⟩; first | rw [h1] | rw [h2] | rw [h3])
    go_ret
    exact ⟨retn HE.out.symm, rfl⟩
  rcases h4 : betw p.h 0 1000000 with _ | _
  · have HE : Hid (chkP p = 3) := H3.out (fun o => betw_false h4 ⟨o.h0, o.h1⟩)
    clear HX H3
    go_enter Tryz.func59, Tryz.ntmps59
    go_wp2_with (go_at_call 58; refine (between_any' _ _ _ _).mono ?_; rintro e w' ⟨rfl, rfl⟩; first | rw [h1] | rw [h2] | rw [h3] | rw [h4])
    go_ret
    exact ⟨retn HE.out.symm, rfl⟩
  rcases h5 : betw p.s 0 1000 with _ | _
  · have HE : Hid (chkP p = 3) := H3.out (fun o => betw_false h5 ⟨o.s0, o.s1⟩)
    clear HX H3
    go_enter Tryz.func59, Tryz.ntmps59
    go_wp2_with (go_at_call 58; refine (between_any' _ _ _ _).mono ?_; rintro e w' ⟨rfl, rfl⟩; first | rw [h1] | rw [h2] | rw [h3] | rw [h4] | rw [h5])
    go_ret
    exact ⟨retn HE.out.symm, rfl⟩
  · have HE : Hid (chkP p = 0) := HX.out.2 ⟨(betw_true h1).1, (betw_true h1).2, (betw_true h2).1, (betw_true h2).2, (betw_true h3).1, (betw_true h3).2, (betw_true h4).1, (betw_true h4).2, (betw_true h5).1, (betw_true h5).2⟩
    clear HX H3
    go_enter Tryz.func59, Tryz.ntmps59
    go_wp2_with (go_at_call 58; refine (between_any' _ _ _ _).mono ?_; rintro e w' ⟨rfl, rfl⟩; first | rw [h1] | rw [h2] | rw [h3] | rw [h4] | rw [h5])
    go_ret
    exact ⟨retn HE.out.symm, rfl⟩

end Go.Proofs.YtdfkpehggecbaaaGreatDoor

