/- The reader: take, peek. -/
import Derived.Test.YtogmkdhljifbpaaDoorF1
import Derived.Deep.RegionHeld3
import Derived.StillTactics
namespace Go.Proofs.YtogmkdhljifbpaaDoor
open Go.RowKit

set_option maxHeartbeats 1600000 in
set_option maxRecDepth 100000 in
theorem take_ok (g a n : Nat) (t : ByteArray) (w : World) (c0 : w.cell? ⟨g, 0, none⟩ = some (.string t)) (c1 : w.cell? ⟨g, 1, none⟩ = some (.int .i64 a)) (hz : w.frozen? ⟨g, 1, none⟩ = false) (hs : t.size ≤ 1000) (han : a + n ≤ t.size) :
    Calls Tryd.prog 69 #[.pointer (some ⟨g, 0, none⟩), .int .i64 n] w fun e w' => e = .returned (.string (t.extract a (a + n))) ∧ ∃ m, w' = (w.setCell ⟨g, 1, none⟩ (.int .i64 ((a : Int) + (n : Int)))).drew.drewN m := by
  have h1 : IntKind.i64.wrap ((t.size : Int) - (a : Int)) = (t.size : Int) - (a : Int) := by rw [IntKind.wrap_i64]; omega
  have h2 : decide ((n : Int) ≤ (t.size : Int) - (a : Int)) = true := by simp; omega
  have h3 : IntKind.i64.wrap ((a : Int) + (n : Int)) = ((a + n : Nat) : Int) := by rw [IntKind.wrap_i64]; omega
  have h4 : IntKind.i64.wrap (((a + n : Nat) : Int) - (n : Int)) = (a : Int) := by rw [IntKind.wrap_i64]; omega
  go_enter Tryd.func69, Tryd.ntmps69
  go_wp2_with fail
  go_region_held3 (fun w' => w'.cell? ⟨g, 0, none⟩ = some (.string t) ∧ w'.cell? ⟨g, 1, none⟩ = some (.int .i64 a)) (go_keep) (first | (go_at_call 49; refine (need_ok _ _).mono ?_; rintro e w5 ⟨rfl, rfl⟩) | fail)
  go_wp2_with fail
  have hi0 : (0 : Int) ≤ (a : Int) := by omega
  have hi1 : (a : Int) ≤ ((a + n : Nat) : Int) := by omega
  have hi2 : ((a + n : Nat) : Int) ≤ (t.size : Int) := by omega
  have hi3 : ((a : Int)).toNat = a := by omega
  have hi4 : (((a + n : Nat) : Int)).toNat = a + n := by omega
  go_quiet (fail)
  go_wp2_with fail
  go_ret
  exact ⟨rfl, _, rfl⟩

end Go.Proofs.YtogmkdhljifbpaaDoor
