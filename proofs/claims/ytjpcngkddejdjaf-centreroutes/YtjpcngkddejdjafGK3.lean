
/- gateways: the order and which is newer, walked. -/
import Derived.Test.YtjpcngkddejdjafGKF
namespace Go.Proofs.Ytjpcngkddejdjaf
namespace Gw
open Go.RowKit

set_option maxHeartbeats 400000 in
theorem order_any (a b : Gwy) (w : World) :
    Calls Try.prog 45 #[.agg #[.string a.centre, .int .i64 a.addr, .int .i64 a.version], .agg #[.string b.centre, .int .i64 b.addr, .int .i64 b.version]] w fun e w' => e = .returned (.int .i64 (ord a b)) ∧ Below w.heap.size w w' := by
  go_enter Try.func45, Try.ntmps45
  go_wp2_with (go_at_call 52; refine (compare_any _ _ _).mono ?_; rintro e w' ⟨rfl, rfl⟩)
  go_ret
  exact ⟨rfl, ((Below.refl _ _).alloc (Nat.le_refl _) _).alloc (by simp) _⟩


set_option maxHeartbeats 800000 in
theorem newerE_any (a b : Gwy) (w : World) :
    Calls Try.prog 59 #[.agg #[.string a.centre, .int .i64 a.addr, .int .i64 a.version], .agg #[.string b.centre, .int .i64 b.addr, .int .i64 b.version]] w fun e w' => e = .returned (.bool (newE a b)) ∧ Below w.heap.size w w' := by
  have hd : ∀ a b : Gwy, newE a b = if a.version = b.version then decide (b.addr < a.addr) else decide (b.version < a.version) := fun a b => by
    simp only [newE, newC, RL.lex]
    by_cases h : a.version = b.version
    · rw [if_pos (by omega), if_pos h]; congr 1; apply propext; omega
    · rw [if_neg (by omega), if_neg h]; congr 1; apply propext; omega
  have HD : Hid (newE a b = if a.version = b.version then decide (b.addr < a.addr) else decide (b.version < a.version)) := hd a b
  clear hd
  obtain ⟨ca, aa, va⟩ := a
  obtain ⟨cb, ab, vb⟩ := b
  by_cases h1 : va = vb
  · subst h1
    go_enter Try.func59, Try.ntmps59
    go_wp2
    go_ret
    exact ⟨ret_bool (by rw [HD.out]; simp), ((Below.refl _ _).alloc (Nat.le_refl _) _).alloc (by simp) _⟩
  · have h1' : (va != vb) = true := by simpa using h1
    go_enter Try.func59, Try.ntmps59
    go_wp2
    go_ret
    exact ⟨ret_bool (by rw [HD.out]; simp [h1]), ((Below.refl _ _).alloc (Nat.le_refl _) _).alloc (by simp) _⟩






end Gw
end Go.Proofs.Ytjpcngkddejdjaf
