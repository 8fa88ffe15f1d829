/- P2 -/
import Derived.Test.YtdfkpehggecbaaaGreatDoorV10
import Derived.Below
import Derived.BigQuiet
import Derived.Lib.QuietBelow
import Derived.Deep.RegionHeld3
/- Places: within, Check. -/
namespace Go.Proofs.YtdfkpehggecbaaaGreatDoor
open Go.RowKit

structure Pl where
  x : Int
  y : Int
  z : Int
  h : Int
  s : Int

def clampI (n lo hi : Int) : Int := min (max n lo) hi
def inP (p : Pl) : Pl := ⟨clampI p.x (-10000000) 10000000, clampI p.y (-10000000) 10000000, clampI p.z (-10000000) 10000000, clampI p.h 0 1000000, clampI p.s 0 1000⟩
/-- D1. -/
structure OkP (p : Pl) : Prop where
  x0 : -10000000 ≤ p.x
  x1 : p.x ≤ 10000000
  y0 : -10000000 ≤ p.y
  y1 : p.y ≤ 10000000
  z0 : -10000000 ≤ p.z
  z1 : p.z ≤ 10000000
  h0 : 0 ≤ p.h
  h1 : p.h ≤ 1000000
  s0 : 0 ≤ p.s
  s1 : p.s ≤ 1000
def sameP (a b : Pl) : Bool := a.x == b.x && (a.y == b.y && (a.z == b.z && (a.h == b.h && a.s == b.s)))
def chkP (p : Pl) : Int := if sameP p (inP p) = true then 0 else 3
theorem sameP_iff (a b : Pl) : sameP a b = true ↔ a = b := by
  obtain ⟨a1, a2, a3, a4, a5⟩ := a
  obtain ⟨b1, b2, b3, b4, b5⟩ := b
  simp [sameP]
theorem clampI_id {n lo hi : Int} (h : lo ≤ hi) : n = clampI n lo hi ↔ lo ≤ n ∧ n ≤ hi := by unfold clampI; omega
theorem clampI_bd (n lo hi : Int) (h : lo ≤ hi) : lo ≤ clampI n lo hi ∧ clampI n lo hi ≤ hi := by unfold clampI; omega
theorem okP_iff (p : Pl) : chkP p = 0 ↔ OkP p := by
  obtain ⟨x, y, z, h, s⟩ := p
  have e : chkP ⟨x, y, z, h, s⟩ = 0 ↔ sameP ⟨x, y, z, h, s⟩ (inP ⟨x, y, z, h, s⟩) = true := by unfold chkP; split <;> simp [*]
  rw [e, sameP_iff]
  simp only [inP, Pl.mk.injEq]
  rw [clampI_id (by omega), clampI_id (by omega), clampI_id (by omega), clampI_id (by omega), clampI_id (by omega)]
  exact ⟨fun ⟨⟨a, b⟩, ⟨c, d⟩, ⟨e, f⟩, ⟨g, h⟩, ⟨i, j⟩⟩ => ⟨a, b, c, d, e, f, g, h, i, j⟩, fun ⟨a, b, c, d, e, f, g, h, i, j⟩ => ⟨⟨a, b⟩, ⟨c, d⟩, ⟨e, f⟩, ⟨g, h⟩, ⟨i, j⟩⟩⟩
theorem chkP_or (p : Pl) : chkP p = 0 ∨ chkP p = 3 := by unfold chkP; split <;> simp
theorem inP_ok (p : Pl) : OkP (inP p) :=
  ⟨(clampI_bd _ _ _ (by omega)).1, (clampI_bd _ _ _ (by omega)).2, (clampI_bd _ _ _ (by omega)).1, (clampI_bd _ _ _ (by omega)).2, (clampI_bd _ _ _ (by omega)).1, (clampI_bd _ _ _ (by omega)).2, (clampI_bd _ _ _ (by omega)).1, (clampI_bd _ _ _ (by omega)).2, (clampI_bd _ _ _ (by omega)).1, (clampI_bd _ _ _ (by omega)).2⟩

set_option maxHeartbeats 400000 in
theorem clamp_any (n lo hi : Int) (w : World) :
    Calls Tryz.prog 102 #[.int .i64 n, .int .i64 lo, .int .i64 hi] w fun e w' => e = .returned (.int .i64 (clampI n lo hi)) ∧ w' = w := by
  go_enter Tryz.func102, Tryz.ntmps102
  go_wp2
  all_goals
    go_ret
    exact ⟨retn (by unfold clampI; omega), rfl⟩

set_option maxHeartbeats 1600000 in
theorem within_any' (x y z h s : Int) (w : World) :
    Calls Tryz.prog 95 #[.agg #[.int .i64 x, .int .i64 y, .int .i64 z, .int .i64 h, .int .i64 s]] w fun e w' => e = .returned (.agg #[.int .i64 (clampI x (-10000000) 10000000), .int .i64 (clampI y (-10000000) 10000000), .int .i64 (clampI z (-10000000) 10000000), .int .i64 (clampI h 0 1000000), .int .i64 (clampI s 0 1000)]) ∧ Below w.heap.size w w' := by
  go_enter Tryz.func95, Tryz.ntmps95
  go_wp2_with fail
  go_region_held3 (fun w' => w'.cell? ⟨w.heap.size, 0, none⟩ = some (.int .i64 x) ∧ w'.cell? ⟨w.heap.size, 1, none⟩ = some (.int .i64 y) ∧ w'.cell? ⟨w.heap.size, 2, none⟩ = some (.int .i64 z) ∧ w'.cell? ⟨w.heap.size, 3, none⟩ = some (.int .i64 h) ∧ w'.cell? ⟨w.heap.size, 4, none⟩ = some (.int .i64 s)) (go_keep) (first | (go_at_call 102; refine (clamp_any _ _ _ _).mono ?_; rintro e w' ⟨rfl, rfl⟩))
  go_wp2_with fail
  exact bodyPost_ret (v := .agg #[.int .i64 (clampI x (-10000000) 10000000), .int .i64 (clampI y (-10000000) 10000000), .int .i64 (clampI z (-10000000) 10000000), .int .i64 (clampI h 0 1000000), .int .i64 (clampI s 0 1000)]) (by simp [results, Tryz.results95, go_sem]) rfl ⟨rfl, (((Below.refl _ _).alloc (Nat.le_refl _) _).alloc (by simp) _).drew⟩

abbrev plv (p : Pl) : Array Value := #[.int .i64 p.x, .int .i64 p.y, .int .i64 p.z, .int .i64 p.h, .int .i64 p.s]

set_option maxHeartbeats 800000 in
theorem eqInPl (a b : Pl) (w : World) : (Op.equalIn 10000 64 (.agg #[.int .i64 a.x, .int .i64 a.y, .int .i64 a.z, .int .i64 a.h, .int .i64 a.s]) (.agg #[.int .i64 b.x, .int .i64 b.y, .int .i64 b.z, .int .i64 b.h, .int .i64 b.s])).run Tryz.prog w = .ok (sameP a b) w := by
  obtain ⟨a1, a2, a3, a4, a5⟩ := a
  obtain ⟨b1, b2, b3, b4, b5⟩ := b
  have u3 := run_underlying Tryz.underlying3
  have a3' := Tryz.isAgg3
  have z3 := Tryz.sizeOf3
  have hS : Tryz.prog.underlying 64 = some (.struct (Tryz.prog.fieldsOf 64)) := by kernel_rfl
  have hp : Tryz.prog.stoodInHeld 64 = false := by kernel_rfl
  rw [show (10000 : Nat) = 9999 + 1 from rfl, run_equalIn_agg w 9999 64 _ _ hS hp]
  simp only [Program.fieldsOf, Tryz.underlying64]
  go_simp
  unfold sameP
  by_cases h1 : a1 = b1 <;> by_cases h2 : a2 = b2 <;> by_cases h3 : a3 = b3 <;> by_cases h4 : a4 = b4 <;> by_cases h5 : a5 = b5 <;> simp [h1, h2, h3, h4, h5]
theorem neqPl (a b : Pl) (w : World) : Sem.run Tryz.prog (binOp .neq 64 (.agg #[.int .i64 a.x, .int .i64 a.y, .int .i64 a.z, .int .i64 a.h, .int .i64 a.s]) (.agg #[.int .i64 b.x, .int .i64 b.y, .int .i64 b.z, .int .i64 b.h, .int .i64 b.s])) w = .ok (.bool (!sameP a b)) w := by
  rw [run_neq_struct, eqInPl]
  rfl

set_option maxHeartbeats 1600000 in
theorem checkP_any (p : Pl) (w : World) :
    Calls Tryz.prog 71 #[.agg #[.int .i64 p.x, .int .i64 p.y, .int .i64 p.z, .int .i64 p.h, .int .i64 p.s]] w fun e w' => e = .returned (.int .i64 (chkP p)) ∧ Below w.heap.size w w' := by
  have hneq := neqPl p (inP p)
  have HC : ∀ q, sameP p (inP p) = q → Hid (chkP p = bif q then 0 else 3) := fun q hq => (show chkP p = _ by unfold chkP; cases q <;> simp [hq])
  generalize hsm : sameP p (inP p) = q at hneq
  have HD := HC q hsm
  clear hsm HC
  generalize chkP p = cp at *
  obtain ⟨x, y, z, h, s⟩ := p
  simp only [inP] at hneq
  have hgP : Tryz.prog.eqGuardType Tryz.prog.depth 64 = false := by kernel_rfl
  generalize hW : w.alloc (.cells #[.int .i64 x, .int .i64 y, .int .i64 z, .int .i64 h, .int .i64 s] 64) = W at *
  have HW : Hid (Below w.heap.size w W) := by rw [← hW]; exact (Below.refl _ _).alloc (Nat.le_refl _) _
  have E0 : ∀ d os, (Go.Sort.grow (redrawn W d) os).cell? ⟨w.heap.size, 0, none⟩ = some (.int .i64 x) := cell_regrown (by rw [← hW]; simp)
  have E1 : ∀ d os, (Go.Sort.grow (redrawn W d) os).cell? ⟨w.heap.size, 1, none⟩ = some (.int .i64 y) := cell_regrown (by rw [← hW]; simp)
  have E2 : ∀ d os, (Go.Sort.grow (redrawn W d) os).cell? ⟨w.heap.size, 2, none⟩ = some (.int .i64 z) := cell_regrown (by rw [← hW]; simp)
  have E3 : ∀ d os, (Go.Sort.grow (redrawn W d) os).cell? ⟨w.heap.size, 3, none⟩ = some (.int .i64 h) := cell_regrown (by rw [← hW]; simp)
  have E4 : ∀ d os, (Go.Sort.grow (redrawn W d) os).cell? ⟨w.heap.size, 4, none⟩ = some (.int .i64 s) := cell_regrown (by rw [← hW]; simp)
  have cN : ∀ d os, Calls Tryz.prog 95 #[.agg #[.int .i64 x, .int .i64 y, .int .i64 z, .int .i64 h, .int .i64 s]] (Go.Sort.grow (redrawn W d) os) fun e w'' => e = .returned (.agg #[.int .i64 (clampI x (-10000000) 10000000), .int .i64 (clampI y (-10000000) 10000000), .int .i64 (clampI z (-10000000) 10000000), .int .i64 (clampI h 0 1000000), .int .i64 (clampI s 0 1000)]) ∧ ∃ p : Regrown, w'' = Go.Sort.grow (redrawn W p.d) p.os := fun d os =>
    Calls.regrown_of ((within_any' _ _ _ _ _ _).mono (by rintro e w' ⟨rfl, hb⟩; exact ⟨rfl, hb⟩))
  go_enter Tryz.func71, Tryz.ntmps71
  go_wp2_with fail
  cases q
  all_goals
    simp only [Bool.not_true, Bool.not_false] at hneq
    refine wp_region_quiet_below (by kernel_rfl) (by kernel_rfl) ?_
    repeat (quiet_step (exact cN _ _))
    refine wpQuiet_nil ?_
    intro _ hw'
    obtain ⟨⟨dq, osq⟩, hw''⟩ := hw'
    subst hw''
    have HBQ : Hid (Below W.heap.size W (Go.Sort.grow (redrawn W dq) osq)) := below_regrown W dq osq
    clear cN E0 E1 E2 E3 E4
    go_wp2_with fail
    go_ret
    exact ⟨retn (by rw [HD.out]; simp), HW.out.trans (HBQ.out.mono HW.out.size)⟩

end Go.Proofs.YtdfkpehggecbaaaGreatDoor

