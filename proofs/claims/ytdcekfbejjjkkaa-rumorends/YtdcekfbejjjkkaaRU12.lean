
/- Take in general: whose turn it is. -/
import Derived.Test.YtdcekfbejjjkkaaRU11
import Derived.Deep.RegionHeld3
namespace Go.Proofs.Ytdcekfbejjjkkaa
open Go.RowKit

def cmpZ (a b : Int) : Int := if a < b then -1 else if b < a then 1 else 0
set_option maxHeartbeats 800000 in
theorem compareZ_any (a b : Int) (w : World) :
    Calls Try.prog 41 #[.int .i64 a, .int .i64 b] w fun e w' => e = .returned (.int .i64 (cmpZ a b)) ∧ w' = w := by
  go_enter Try.func41, Try.ntmps41
  go_wp2
  all_goals
    go_ret
    exact ⟨ret_int (by unfold cmpZ; (repeat' split) <;> omega), rfl⟩

def orZ (a b : Int) : Int := if a = 0 then b else a
set_option maxHeartbeats 800000 in
theorem or_any (a b : Int) (g : Nat) (c : Nat) (w : World) (h0 : w.cell? ⟨g, 0, none⟩ = some (.int .i64 a)) (h1 : w.cell? ⟨g, 1, none⟩ = some (.int .i64 b)) :
    Calls Try.prog 40 #[.slice (some ⟨g, 0, none⟩) 2 c] w fun e w' => e = .returned (.int .i64 (orZ a b)) ∧ w' = w := by
  by_cases ha : a = 0
  · subst ha
    by_cases hb : b = 0
    · subst hb
      go_enter Try.func40, Try.ntmps40
      go_wp2_with fail
      refine wp_loop_rounds 3 ?_
      rw [rounds_succ]
      go_wp2_with fail
      rw [rounds_succ]
      go_wp2_with fail
      rw [rounds_succ]
      go_wp2_with fail
      go_ret
      exact ⟨rfl, rfl⟩
    · have hb' : (b != 0) = true := by simpa using hb
      go_enter Try.func40, Try.ntmps40
      go_wp2_with fail
      refine wp_loop_rounds 3 ?_
      rw [rounds_succ]
      go_wp2_with fail
      rw [rounds_succ]
      go_wp2_with fail
      go_ret
      exact ⟨rfl, rfl⟩
  · have ha' : (a != 0) = true := by simpa using ha
    go_enter Try.func40, Try.ntmps40
    go_wp2_with fail
    refine wp_loop_rounds 3 ?_
    rw [rounds_succ]
    go_wp2_with fail
    go_ret
    exact ⟨ret_int (by unfold orZ; rw [if_neg ha]), rfl⟩

def cfR (rs : List Rum) (i k : Nat) : Int := orZ (cmpZ (rs.getD i dr).told (rs.getD k dr).told) (cmpZ k i)
set_option maxHeartbeats 1600000 in
theorem turnF_any (ti tk : Int) (lb b off n ca i k : Nat) (w : World) (hl : w.cell? ⟨lb, 0, none⟩ = some (.slice (some ⟨b, off, none⟩) n ca)) (hi : i < n) (hk : k < n) (hti : w.cell? ⟨b, off + i * 6 + 5, none⟩ = some (.int .i64 ti)) (htk : w.cell? ⟨b, off + k * 6 + 5, none⟩ = some (.int .i64 tk)) :
    Calls Try.prog 39 #[.int .i64 i, .int .i64 k, .pointer (some ⟨lb, 0, none⟩)] w fun e w' => e = .returned (.int .i64 (orZ (cmpZ ti tk) (cmpZ k i))) ∧ w' = (w.alloc (.cells #[.int .i64 (cmpZ ti tk), .int .i64 (cmpZ k i)] 3)).drew := by
  have hi0 : (0 : Int) ≤ (i : Int) := Int.natCast_nonneg _
  have hi1 : (i : Int) < (n : Int) := by omega
  have hk0 : (0 : Int) ≤ (k : Int) := Int.natCast_nonneg _
  have hk1 : (k : Int) < (n : Int) := by omega
  have h1 := World.new_ne w _ hl
  have h2 := World.new_ne w _ hti
  have h3 := World.new_ne w _ htk
  go_enter Try.func39, Try.ntmps39
  go_wp2_with fail
  go_region_held3 (fun w' => w'.cell? ⟨lb, 0, none⟩ = some (.slice (some ⟨b, off, none⟩) n ca) ∧ w'.cell? ⟨b, off + i * 6 + 5, none⟩ = some (.int .i64 ti) ∧ w'.cell? ⟨b, off + k * 6 + 5, none⟩ = some (.int .i64 tk)) (go_keep) (first | (go_at_call 41; refine (compareZ_any _ _ _).mono ?_; rintro e w' ⟨rfl, rfl⟩) | (go_at_call 40; refine (or_any (cmpZ ti tk) (cmpZ k i) _ _ _ (cell_top' rfl) (cell_top' rfl)).mono ?_; rintro e w' ⟨rfl, rfl⟩))
  go_wp2_with fail
  go_ret
  exact ⟨rfl, rfl⟩

end Go.Proofs.Ytdcekfbejjjkkaa
