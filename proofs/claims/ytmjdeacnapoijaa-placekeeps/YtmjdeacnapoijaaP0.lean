
/- Roots of whole numbers: plain mathematics. -/
import Derived.WalkKit
import Derived.Lib.BitFns
import Derived.Lib.ItoaNum
namespace Go.Proofs.Ytmjdeacnapoijaa
open Go.RowKit

def IsRoot (n r : Int) : Prop := 0 ≤ r ∧ r * r ≤ n ∧ n < (r + 1) * (r + 1)
theorem sq_le {a b : Int} (h0 : 0 ≤ a) (h : a ≤ b) : a * a ≤ b * b := Int.mul_le_mul h h h0 (by omega)
theorem isRoot_uniq {n r s : Int} (h : IsRoot n r) (g : IsRoot n s) : r = s := by
  obtain ⟨h0, h1, h2⟩ := h
  obtain ⟨g0, g1, g2⟩ := g
  rcases Int.lt_trichotomy r s with c | c | c
  · have := sq_le (a := r + 1) (b := s) (by omega) (by omega); omega
  · exact c
  · have := sq_le (a := s + 1) (b := r) (by omega) (by omega); omega
/-- The greatest number up to k whose square is not more than n. -/
def rtN (n : Nat) : Nat → Nat
  | 0 => 0
  | k + 1 => if (k + 1) * (k + 1) ≤ n then k + 1 else rtN n k
def rt (n : Int) : Int := (rtN n.toNat n.toNat : Nat)
theorem rtN_eq {n r : Nat} (h1 : r * r ≤ n) (h2 : n < (r + 1) * (r + 1)) : ∀ k, r ≤ k → rtN n k = r
  | 0, hk => by
    have e : r = 0 := by omega
    rw [e]; rfl
  | k + 1, hk => by
    simp only [rtN]
    by_cases hc : (k + 1) * (k + 1) ≤ n
    · rw [if_pos hc]
      rcases Nat.lt_or_ge r (k + 1) with h | h
      · have := Nat.mul_le_mul (show r + 1 ≤ k + 1 by omega) (show r + 1 ≤ k + 1 by omega)
        omega
      · omega
    · rw [if_neg hc]
      have hne : r ≠ k + 1 := fun e => hc (e ▸ h1)
      exact rtN_eq h1 h2 k (by omega)
theorem rt_eq {n r : Int} (h : IsRoot n r) : rt n = r := by
  obtain ⟨h0, h1, h2⟩ := h
  obtain ⟨m, rfl⟩ := Int.eq_ofNat_of_zero_le h0
  have hn : 0 ≤ n := Int.le_trans (Int.mul_nonneg h0 h0) h1
  obtain ⟨k, rfl⟩ := Int.eq_ofNat_of_zero_le hn
  have g1 : m * m ≤ k := by exact_mod_cast h1
  have g2 : k < (m + 1) * (m + 1) := by exact_mod_cast h2
  have g3 : m ≤ k := Nat.le_trans (Nat.le_mul_self m) g1
  show ((rtN k k : Nat) : Int) = (m : Int)
  rw [rtN_eq g1 g2 k g3]

def Srch (n r b : Int) : Prop := 0 ≤ r ∧ r * r ≤ n ∧ n < (r + b) * (r + b)
theorem srch_in {n r b : Int} (h : Srch n r (2 * b)) (hb : 0 ≤ b) (hx : (r + b) * (r + b) ≤ n) : Srch n (r + b) b := by
  obtain ⟨h0, h1, h2⟩ := h
  refine ⟨by omega, hx, ?_⟩
  rw [show r + b + b = r + 2 * b by omega]; exact h2
theorem srch_out {n r b : Int} (h : Srch n r (2 * b)) (hx : ¬ (r + b) * (r + b) ≤ n) : Srch n r b :=
  ⟨h.1, h.2.1, by omega⟩
theorem srch_end {n r : Int} (h : Srch n r 1) : IsRoot n r := h
theorem srch_le {n r b : Int} (h : Srch n r b) (hn : n ≤ 9223372036854775807) : r ≤ 3037000499 := by
  apply Classical.byContradiction; intro c
  have := sq_le (a := 3037000500) (b := r) (by omega) (by omega)
  have := h.2.1
  omega
theorem quo_iff {n x : Int} (hx : 0 < x) : x ≤ n / x ↔ x * x ≤ n := Int.le_ediv_iff_mul_le hx

theorem two_pow_pos (k : Nat) : (0 : Int) < 2 ^ k := by
  have : (0 : Nat) < 2 ^ k := Nat.two_pow_pos k
  exact_mod_cast this
theorem two_pow_succ (k : Nat) : (2 : Int) ^ (k + 1) = 2 * 2 ^ k := by rw [Int.pow_succ]; omega
theorem two_pow_le {a b : Nat} (h : a ≤ b) : (2 : Int) ^ a ≤ 2 ^ b := by
  have : (2 : Nat) ^ a ≤ 2 ^ b := Nat.pow_le_pow_right (by omega) h
  exact_mod_cast this

theorem wraps_i64 (n : Int) (h₀ : 0 ≤ n) (h₁ : n < 2 ^ 63) : IntKind.i64.wrap n = n := by rw [IntKind.wrap_i64]; omega
theorem or_bit (k : Nat) (r : Int) (h0 : 0 ≤ r) (hm : r % 2 ^ (k + 1) = 0) (hr : r < 2 ^ 63) (hk : k ≤ 62) : bits BinOp.or IntKind.i64 r (2 ^ k) = r + 2 ^ k :=
  bits_join .i64 63 (by decide) wraps_i64 (k + 1) r (2 ^ k) h0 hm hr (Int.le_of_lt (two_pow_pos k)) (by rw [two_pow_succ]; have := two_pow_pos k; omega) (Int.lt_of_le_of_lt (two_pow_le hk) (by decide))
theorem mod_keep {r : Int} {k : Nat} (hm : r % 2 ^ (k + 1) = 0) : r % 2 ^ k = 0 :=
  Int.emod_eq_zero_of_dvd (Int.dvd_trans ⟨2, by rw [Int.pow_succ]⟩ (Int.dvd_of_emod_eq_zero hm))
theorem mod_add {r : Int} {k : Nat} (hm : r % 2 ^ (k + 1) = 0) : (r + 2 ^ k) % 2 ^ k = 0 := by
  rw [Int.add_emod_right]; exact mod_keep hm
theorem len_lt (n : Nat) (h : n < 2 ^ 64) : n < 2 ^ Lib.bitLen n := by
  by_cases h0 : n = 0
  · subst h0; decide
  · exact (Lib.bitLenAux_bounds 64 n h h0).2.2
theorem srch_begin {n : Int} (h0 : 0 ≤ n) (h1 : n ≤ 9223372036854775807) (j : Nat) (hj : Lib.bitLen n.toNat / 2 = j) : Srch n 0 (2 ^ (j + 1)) := by
  refine ⟨by omega, by simpa using h0, ?_⟩
  have h2 := len_lt n.toNat (by omega)
  have h3 : (2 : Nat) ^ Lib.bitLen n.toNat ≤ 2 ^ (2 * (j + 1)) := Nat.pow_le_pow_right (by omega) (by omega)
  have h4 : (2 : Nat) ^ (2 * (j + 1)) = 2 ^ (j + 1) * 2 ^ (j + 1) := by rw [← Nat.pow_add]; congr 1; omega
  have h5 : n.toNat < 2 ^ (j + 1) * 2 ^ (j + 1) := by omega
  have h6 : ((n.toNat : Nat) : Int) < ((2 ^ (j + 1) * 2 ^ (j + 1) : Nat) : Int) := by exact_mod_cast h5
  rw [Int.toNat_of_nonneg h0] at h6
  simpa using h6
end Go.Proofs.Ytmjdeacnapoijaa
