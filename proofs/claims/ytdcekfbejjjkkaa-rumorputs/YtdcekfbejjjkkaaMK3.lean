
/- members: the order and which is newer, walked. -/
import Derived.Test.YtdcekfbejjjkkaaMKF
namespace Go.Proofs.Ytdcekfbejjjkkaa

open Go.RowKit

set_option maxHeartbeats 400000 in
theorem order_any (a b : Mem) (w : World) :
    Calls Try.prog 47 #[.agg #[.string a.name, .int .i64 a.state, .int .i64 a.life, .int .i64 a.addr, .bool a.server], .agg #[.string b.name, .int .i64 b.state, .int .i64 b.life, .int .i64 b.addr, .bool b.server]] w fun e w' => e = .returned (.int .i64 (cmpI a.name b.name)) ∧ Below w.heap.size w w' := by
  go_enter Try.func47, Try.ntmps47
  go_wp2_with (go_at_call 52; refine (compare_any _ _ _).mono ?_; rintro e w' ⟨rfl, rfl⟩)
  go_ret
  exact ⟨rfl, ((Below.refl _ _).alloc (Nat.le_refl _) _).alloc (by simp) _⟩

theorem newerE_any (a b : Mem) (w : World) :
    Calls Try.prog 37 #[.agg #[.string a.name, .int .i64 a.state, .int .i64 a.life, .int .i64 a.addr, .bool a.server], .agg #[.string b.name, .int .i64 b.state, .int .i64 b.life, .int .i64 b.addr, .bool b.server]] w fun e w' => e = .returned (.bool (newM a b)) ∧ Below w.heap.size w w' := by
  refine (newer_any a.name b.name a.state a.life a.addr a.server b.state b.life b.addr b.server w).mono ?_
  rintro e w' ⟨rfl, rfl⟩
  exact ⟨rfl, ((Below.refl _ _).alloc (Nat.le_refl _) _).alloc (by simp) _⟩








end Go.Proofs.Ytdcekfbejjjkkaa
