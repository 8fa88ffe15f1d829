/- F1 -/
import Derived.Test.YtdfkpehggecbaaaGreatDoorV1
import Derived.Defers
import Derived.Recover
import Derived.Laws.Pointers
/- How work gives up: Need, Attempt. -/
namespace Go.Proofs.YtdfkpehggecbaaaGreatDoor
open Go.RowKit

set_option maxHeartbeats 400000 in
theorem need_ok (e : Int) (w : World) :
    Calls Tryz.prog 34 #[.bool true, .int .i64 e] w fun x w' => x = .returned (.tuple #[]) ∧ w' = w := by
  go_enter Tryz.func34, Tryz.ntmps34
  go_wp2_with fail
  simp [bodyPost, results, Tryz.results34]

set_option maxHeartbeats 400000 in
theorem need_no (e : Int) (w : World) :
    Calls Tryz.prog 34 #[.bool false, .int .i64 e] w fun x w' => x = .panicked [{ v := .iface 122 (.agg #[.int .i64 e]), recovered := false }] ∧ w' = w := by
  go_enter Tryz.func34, Tryz.ntmps34
  go_wp2_with fail
  exact ⟨rfl, rfl, rfl⟩

set_option maxHeartbeats 800000 in
set_option maxRecDepth 100000 in
theorem catch_fault (g : Nat) (x e : Int) (older : List PanicEntry) (w : World) (hg : g < w.heap.size) (hc : w.cell? ⟨g, 0, none⟩ = some (.int .i64 x)) (hz : w.frozen? ⟨g, 0, none⟩ = false) :
    CallsD Tryz.prog 87 #[.pointer (some ⟨g, 0, none⟩)] (.panicking ({ v := .iface 122 (.agg #[.int .i64 e]), recovered := false } :: older)) w fun r u' w' =>
      r = .returned (.tuple #[]) ∧ u' = .panicking ({ v := .iface 122 (.agg #[.int .i64 e]), recovered := true } :: older) ∧ w'.cell? ⟨g, 0, none⟩ = some (.int .i64 e) ∧ Below g w w' := by
  have e0 : g ≠ w.heap.size := by omega
  have hta : ∀ W : World, Sem.run Tryz.prog (Instr.typeAssert (.iface 122 (.agg #[.int .i64 e])) 20 122 true) W = .ok (.tuple #[.agg #[.int .i64 e], .bool true]) W := fun _ => by kernel_rfl
  have hs1 : (w.setCell ⟨g, 0, none⟩ (.int .i64 1)).cell? ⟨g, 0, none⟩ = some (.int .i64 1) := by simp [go_sem, hc]
  have hs2 : ((w.setCell ⟨g, 0, none⟩ (.int .i64 1)).setCell ⟨g, 0, none⟩ (.int .i64 e)).cell? ⟨g, 0, none⟩ = some (.int .i64 e) := by simp [go_sem, hc]
  have HE : Hid (∀ o, (((w.setCell ⟨g, 0, none⟩ (.int .i64 1)).setCell ⟨g, 0, none⟩ (.int .i64 e)).alloc o).cell? ⟨g, 0, none⟩ = some (.int .i64 e)) := fun o => by
    rw [World.cell?_alloc_past (w := (w.setCell ⟨g, 0, none⟩ (.int .i64 1)).setCell ⟨g, 0, none⟩ (.int .i64 e)) o g 0 (by simpa using hg)]
    exact hs2
  have HB : Hid (∀ o, Below g w (((w.setCell ⟨g, 0, none⟩ (.int .i64 1)).setCell ⟨g, 0, none⟩ (.int .i64 e)).alloc o)) := fun o =>
    (((Below.refl g w).setCell (p := ⟨g, 0, none⟩) (Nat.le_refl _) _).setCell (p := ⟨g, 0, none⟩) (Nat.le_refl _) _).alloc (by simp; omega) _
  clear hs1 hs2
  refine callsD_of_wpS Tryz.func87 rfl fun c₀ cs hu => ?_
  apply wpS_seq
  apply wpS_region
  simp [wpOpsS, go_sem, recoverD, hu, Tryz.ntmps87, Exit.thenS, Array.replicate]
  refine wpS_of_wp ?_
  go_wp2_with fail
  have h1 := HE.out (.cells #[.int .i64 e] 122)
  have h2 := HB.out (.cells #[.int .i64 e] 122)
  cases c₀
  simp [bodyPostS, results, Tryz.results87]
  exact ⟨h1, h2⟩

theorem catch_idle (p : Addr) (w : World) :
    CallsD Tryz.prog 87 #[.pointer (some p)] .returning w fun e u' w' => e = .returned (.tuple #[]) ∧ u' = .returning ∧ w' = w := by
  refine callsD_of_wpS Tryz.func87 rfl fun c₀ cs hu => ?_
  apply wpS_seq
  apply wpS_region
  simp [wpOpsS, go_sem, recoverD, hu, Tryz.ntmps87, Exit.thenS, Array.replicate]
  refine wpS_of_wp ?_
  go_wp2_with fail
  cases c₀
  simp_all [bodyPostS, results, Tryz.results87]

set_option maxHeartbeats 800000 in
set_option maxRecDepth 100000 in
/-- The work is done: all is well. -/
theorem attempt_ok (f : Nat) (caps : Array Value) (w : World) (R : World → Prop) (ef : ∀ args W, (callFunc f args).run Tryz.prog W = .ok (.enter f args) W)
    (hw : Calls Tryz.prog f caps (w.alloc (.cells #[.int .i64 0] 28)) fun r w' => r = .returned (.tuple #[]) ∧ R w' ∧ w'.cell? ⟨w.heap.size, 0, none⟩ = some (.int .i64 0) ∧ w'.frozen? ⟨w.heap.size, 0, none⟩ = false ∧ w.heap.size < w'.heap.size) :
    Calls Tryz.prog 35 #[.func (.func f) #[] caps] w fun r w' => r = .returned (.int .i64 0) ∧ ∃ w1, R w1 ∧ w.heap.size < w1.heap.size ∧ w' = w1.setCell ⟨w.heap.size, 0, none⟩ (.int .i64 0) := by
  have hmf : ∀ (fn : Fn) (first cap : Array Value) (w : World), (Instr.makeFunc fn first cap).run Tryz.prog w = .ok (.func fn first cap) w := fun _ _ _ _ => rfl
  have HW : Hid (Calls Tryz.prog f caps (w.alloc (.cells #[.int .i64 0] 28)) fun r w' => r = .returned (.tuple #[]) ∧ Hid (R w') ∧ w'.cell? ⟨w.heap.size, 0, none⟩ = some (.int .i64 0) ∧ w'.frozen? ⟨w.heap.size, 0, none⟩ = false ∧ w.heap.size < w'.heap.size) := hw
  clear hw
  go_enter_defers Tryz.func35, Tryz.ntmps35
  go_wp2_with fail
  refine HW.out.mono ?_
  rintro e w1 ⟨rfl, HR, h1, h2, h3⟩
  go_wp2_with fail
  refine leaves_cons (f := 87) (args := #[.pointer (some ⟨w.heap.size, 0, none⟩)]) (by simp) (by simp [go_sem]) ?_
  refine (catch_idle ⟨w.heap.size, 0, none⟩ _).mono ?_
  rintro e u' w'' ⟨rfl, rfl, rfl⟩
  simp [Leaves, settle, results, Tryz.results35, go_sem, h1]
  exact ⟨w1, HR.out, h3, rfl⟩

set_option maxHeartbeats 800000 in
set_option maxRecDepth 100000 in
/-- The work gives up: why. -/
theorem attempt_no (f : Nat) (caps : Array Value) (e : Int) (w : World) (R : World → Prop) (ef : ∀ args W, (callFunc f args).run Tryz.prog W = .ok (.enter f args) W)
    (hw : Calls Tryz.prog f caps (w.alloc (.cells #[.int .i64 0] 28)) fun r w' => r = .panicked [{ v := .iface 122 (.agg #[.int .i64 e]), recovered := false }] ∧ R w' ∧ w'.cell? ⟨w.heap.size, 0, none⟩ = some (.int .i64 0) ∧ w'.frozen? ⟨w.heap.size, 0, none⟩ = false ∧ w.heap.size < w'.heap.size) :
    Calls Tryz.prog 35 #[.func (.func f) #[] caps] w fun r w' => r = .returned (.int .i64 e) ∧ ∃ w1, R w1 ∧ w.heap.size < w1.heap.size ∧ Below w.heap.size w1 w' := by
  have hmf : ∀ (fn : Fn) (first cap : Array Value) (w : World), (Instr.makeFunc fn first cap).run Tryz.prog w = .ok (.func fn first cap) w := fun _ _ _ _ => rfl
  have HW : Hid (Calls Tryz.prog f caps (w.alloc (.cells #[.int .i64 0] 28)) fun r w' => r = .panicked [{ v := .iface 122 (.agg #[.int .i64 e]), recovered := false }] ∧ Hid (R w') ∧ w'.cell? ⟨w.heap.size, 0, none⟩ = some (.int .i64 0) ∧ w'.frozen? ⟨w.heap.size, 0, none⟩ = false ∧ w.heap.size < w'.heap.size) := hw
  clear hw
  go_enter_defers Tryz.func35, Tryz.ntmps35
  go_wp2_with fail
  refine HW.out.mono ?_
  rintro r w1 ⟨rfl, HR, h1, h2, h3⟩
  refine leaves_cons (f := 87) (args := #[.pointer (some ⟨w.heap.size, 0, none⟩)]) (by simp) (by simp [go_sem]) ?_
  refine (catch_fault w.heap.size 0 e [] w1 h3 h1 h2).mono ?_
  rintro r u' w'' ⟨rfl, rfl, h4, h5⟩
  simp [Leaves, settle, results, Tryz.results35, go_sem, h4]
  exact ⟨w1, HR.out, h3, h5⟩

end Go.Proofs.YtdfkpehggecbaaaGreatDoor

