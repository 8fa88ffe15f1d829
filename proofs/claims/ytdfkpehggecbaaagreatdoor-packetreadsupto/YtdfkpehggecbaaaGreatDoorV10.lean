/- P0, Shelf, P1 -/
import Derived.WalkKit
import Derived.Lib.BitFns
import Derived.Lib.ItoaNum
import Derived.Shelf.Strings.Builder1
import Derived.Shelf.Small.Strs
import Derived.Shelf.Strconv.Atoi
import Derived.Shelf.Strconv.Itoa0
import Derived.Shelf.Strconv.Itoa1
import Derived.Shelf.LaysM
import Derived.Shelf.Strconv.Itoa2
import Derived.Shelf.Strconv.Itoa3
import Derived.Shelf.Strconv.AtoiErrFast
import Derived.Shelf.Strconv.ParseIntEmpty
import Derived.Shelf.Strconv.AtoiFail
import Derived.Shelf.Strconv.Clone
import Derived.Shelf.Strconv.SyntaxError
import Derived.Shelf.LaysC
import Derived.Shelf.Strconv.ToError
import Derived.Shelf.Strconv.Lower
import Derived.Shelf.Strconv.ParseUint10
import Derived.Shelf.Strconv.ParseUint10Empty
import Derived.Shelf.Strconv.ParseUint10Any
import Derived.Shelf.Strconv.ParseInt10
import Derived.Shelf.Strconv.AtoiLong
import Derived.Shelf.Strconv.AtoiInnerAll
import Derived.Shelf.Strconv.RangeError
import Derived.Shelf.Strconv.ToErrorRange
import Derived.Shelf.Strconv.AtoiAll
import Derived.Shelf.Strings.Search1
import Derived.Shelf.Strings.Search2
import Derived.Shelf.Strings.Cut
import Derived.Test.YtdfkpehggecbaaaGreatDoorProg
import Derived.WalkSpells
import Derived.WalkLawsBesides
/- Roots of whole numbers: plain mathematics. -/
namespace Go.Proofs.YtdfkpehggecbaaaGreatDoor
open Go.RowKit

def IsRoot (n r : Int) : Prop := 0 ≤ r ∧ r * r ≤ n ∧ n < (r + 1) * (r + 1)
theorem sq_le {a b : Int} (h0 : 0 ≤ a) (h : a ≤ b) : a * a ≤ b * b := Int.mul_le_mul h h h0 (by omega)
theorem isRoot_uniq {n r s : Int} (h : IsRoot n r) (g : IsRoot n s) : r = s := by
  obtain ⟨h0, h1, h2⟩ := h
  obtain ⟨g0, g1, g2⟩ := g
  rcases Int.lt_trichotomy r s with c | c | c
  · have := sq_le (a := r + 1) (b := s) (by omega) (by omega); omega
  · exact c
  · have := sq_le (a := s + 1) (b := r) (by omega) (by omega); omega
/-- The greatest number up to k whose square is not more than n. -/
def rtN (n : Nat) : Nat → Nat
  | 0 => 0
  | k + 1 => if (k + 1) * (k + 1) ≤ n then k + 1 else rtN n k
def rt (n : Int) : Int := (rtN n.toNat n.toNat : Nat)
theorem rtN_eq {n r : Nat} (h1 : r * r ≤ n) (h2 : n < (r + 1) * (r + 1)) : ∀ k, r ≤ k → rtN n k = r
  | 0, hk => by
    have e : r = 0 := by omega
    rw [e]; rfl
  | k + 1, hk => by
    simp only [rtN]
    by_cases hc : (k + 1) * (k + 1) ≤ n
    · rw [if_pos hc]
      rcases Nat.lt_or_ge r (k + 1) with h | h
      · have := Nat.mul_le_mul (show r + 1 ≤ k + 1 by omega) (show r + 1 ≤ k + 1 by omega)
        omega
      · omega
    · rw [if_neg hc]
      have hne : r ≠ k + 1 := fun e => hc (e ▸ h1)
      exact rtN_eq h1 h2 k (by omega)
theorem rt_eq {n r : Int} (h : IsRoot n r) : rt n = r := by
  obtain ⟨h0, h1, h2⟩ := h
  obtain ⟨m, rfl⟩ := Int.eq_ofNat_of_zero_le h0
  have hn : 0 ≤ n := Int.le_trans (Int.mul_nonneg h0 h0) h1
  obtain ⟨k, rfl⟩ := Int.eq_ofNat_of_zero_le hn
  have g1 : m * m ≤ k := by exact_mod_cast h1
  have g2 : k < (m + 1) * (m + 1) := by exact_mod_cast h2
  have g3 : m ≤ k := Nat.le_trans (Nat.le_mul_self m) g1
  show ((rtN k k : Nat) : Int) = (m : Int)
  rw [rtN_eq g1 g2 k g3]

def Srch (n r b : Int) : Prop := 0 ≤ r ∧ r * r ≤ n ∧ n < (r + b) * (r + b)
theorem srch_in {n r b : Int} (h : Srch n r (2 * b)) (hb : 0 ≤ b) (hx : (r + b) * (r + b) ≤ n) : Srch n (r + b) b := by
  obtain ⟨h0, h1, h2⟩ := h
  refine ⟨by omega, hx, ?_⟩
  rw [show r + b + b = r + 2 * b by omega]; exact h2
theorem srch_out {n r b : Int} (h : Srch n r (2 * b)) (hx : ¬ (r + b) * (r + b) ≤ n) : Srch n r b :=
  ⟨h.1, h.2.1, by omega⟩
theorem srch_end {n r : Int} (h : Srch n r 1) : IsRoot n r := h
theorem srch_le {n r b : Int} (h : Srch n r b) (hn : n ≤ 9223372036854775807) : r ≤ 3037000499 := by
  apply Classical.byContradiction; intro c
  have := sq_le (a := 3037000500) (b := r) (by omega) (by omega)
  have := h.2.1
  omega
theorem quo_iff {n x : Int} (hx : 0 < x) : x ≤ n / x ↔ x * x ≤ n := Int.le_ediv_iff_mul_le hx

theorem two_pow_pos (k : Nat) : (0 : Int) < 2 ^ k := by
  have : (0 : Nat) < 2 ^ k := Nat.two_pow_pos k
  exact_mod_cast this
theorem two_pow_succ (k : Nat) : (2 : Int) ^ (k + 1) = 2 * 2 ^ k := by rw [Int.pow_succ]; omega
theorem two_pow_le {a b : Nat} (h : a ≤ b) : (2 : Int) ^ a ≤ 2 ^ b := by
  have : (2 : Nat) ^ a ≤ 2 ^ b := Nat.pow_le_pow_right (by omega) h
  exact_mod_cast this

theorem wraps_i64 (n : Int) (h₀ : 0 ≤ n) (h₁ : n < 2 ^ 63) : IntKind.i64.wrap n = n := by rw [IntKind.wrap_i64]; omega
theorem or_bit (k : Nat) (r : Int) (h0 : 0 ≤ r) (hm : r % 2 ^ (k + 1) = 0) (hr : r < 2 ^ 63) (hk : k ≤ 62) : bits BinOp.or IntKind.i64 r (2 ^ k) = r + 2 ^ k :=
  bits_join .i64 63 (by decide) wraps_i64 (k + 1) r (2 ^ k) h0 hm hr (Int.le_of_lt (two_pow_pos k)) (by rw [two_pow_succ]; have := two_pow_pos k; omega) (Int.lt_of_le_of_lt (two_pow_le hk) (by decide))
theorem mod_keep {r : Int} {k : Nat} (hm : r % 2 ^ (k + 1) = 0) : r % 2 ^ k = 0 :=
  Int.emod_eq_zero_of_dvd (Int.dvd_trans ⟨2, by rw [Int.pow_succ]⟩ (Int.dvd_of_emod_eq_zero hm))
theorem mod_add {r : Int} {k : Nat} (hm : r % 2 ^ (k + 1) = 0) : (r + 2 ^ k) % 2 ^ k = 0 := by
  rw [Int.add_emod_right]; exact mod_keep hm
theorem len_lt (n : Nat) (h : n < 2 ^ 64) : n < 2 ^ Lib.bitLen n := by
  by_cases h0 : n = 0
  · subst h0; decide
  · exact (Lib.bitLenAux_bounds 64 n h h0).2.2
theorem srch_begin {n : Int} (h0 : 0 ≤ n) (h1 : n ≤ 9223372036854775807) (j : Nat) (hj : Lib.bitLen n.toNat / 2 = j) : Srch n 0 (2 ^ (j + 1)) := by
  refine ⟨by omega, by simpa using h0, ?_⟩
  have h2 := len_lt n.toNat (by omega)
  have h3 : (2 : Nat) ^ Lib.bitLen n.toNat ≤ 2 ^ (2 * (j + 1)) := Nat.pow_le_pow_right (by omega) (by omega)
  have h4 : (2 : Nat) ^ (2 * (j + 1)) = 2 ^ (j + 1) * 2 ^ (j + 1) := by rw [← Nat.pow_add]; congr 1; omega
  have h5 : n.toNat < 2 ^ (j + 1) * 2 ^ (j + 1) := by omega
  have h6 : ((n.toNat : Nat) : Int) < ((2 ^ (j + 1) * 2 ^ (j + 1) : Nat) : Int) := by exact_mod_cast h5
  rw [Int.toNat_of_nonneg h0] at h6
  simpa using h6
end Go.Proofs.YtdfkpehggecbaaaGreatDoor

/- Contracts of the library, laid at this program. -/
namespace Go.Proofs
open Go.Shelf
def Tryz.lays219_ren : Go.Shelf.Ren := ⟨fun | 219 => 110 | 217 => 120 | 225 => 121 | 224 => 122 | 267 => 123 | 266 => 131 | 314 => 132 | n => n, fun | 9 => 9 | 3 => 3 | 4 => 4 | 5 => 5 | 46 => 154 | 146 => 165 | 51 => 162 | n => n, fun | 1 => 0 | n => n⟩
theorem Tryz.lays219 : Go.Proofs.Lays.n219 Tryz.prog Tryz.lays219_ren := {
  mixed := by kernel_rfl
  f217 := Tryz.func120.trans (congrArg some (by kernel_rfl))
  f219 := Tryz.func110.trans (congrArg some (by kernel_rfl))
  f224 := Tryz.func122.trans (congrArg some (by kernel_rfl))
  f225 := Tryz.func121.trans (congrArg some (by kernel_rfl))
  f266 := Tryz.func131.trans (congrArg some (by kernel_rfl))
  f267 := Tryz.func123.trans (congrArg some (by kernel_rfl))
  f314 := Tryz.func132.trans (congrArg some (by kernel_rfl))
  t3 := Tryz.underlying3
  a3 := Tryz.isAgg3
  z3 := Tryz.sizeOf3
  v3 := Tryz.zeroValue3
  t4 := Tryz.underlying4
  a4 := Tryz.isAgg4
  z4 := Tryz.sizeOf4
  v4 := Tryz.zeroValue4
  t5 := Tryz.underlying5
  a5 := Tryz.isAgg5
  z5 := Tryz.sizeOf5
  v5 := Tryz.zeroValue5
  t9 := Tryz.underlying9
  a9 := Tryz.isAgg9
  z9 := Tryz.sizeOf9
  v9 := Tryz.zeroValue9
  t46 := Tryz.underlying154
  a46 := Tryz.isAgg154
  z46 := Tryz.sizeOf154
  v46 := Tryz.zeroValue154
  t51 := Tryz.underlying162
  a51 := Tryz.isAgg162
  z51 := Tryz.sizeOf162
  v51 := Tryz.zeroValue162
  t146 := Tryz.underlying165
  a146 := Tryz.isAgg165
  z146 := Tryz.sizeOf165
  v146 := Tryz.zeroValue165
  g1 := by kernel_rfl }
open Go.RowKit Go.Lib in
theorem Tryz.stringslite_Index_one (s : ByteArray) (c : UInt8) (w : World) :
    Calls Tryz.prog 110 #[.string s, .string ⟨#[c]⟩] w fun e w' => e = .returned (.int .i64 (Lib.indexByte s.data.toList c)) ∧ w' = w := Any.stringslite_Index_one Tryz.lays219 s c w
end Go.Proofs

/- Root: the program's and the document's. -/
namespace Go.Proofs.YtdfkpehggecbaaaGreatDoor
open Go.RowKit

theorem retn {k : IntKind} {a b : Int} (h : a = b) : Ending.returned (.int k a) = .returned (.int k b) := by rw [h]

theorem wrap_id {m : Int} (h0 : -9223372036854775808 ≤ m) (h1 : m ≤ 9223372036854775807) : wrap64 m = m := by
  rw [wrap64]; omega
theorem quo_wrap {n x : Int} (h0 : 0 ≤ n) (h1 : n ≤ 9223372036854775807) (hx : 0 < x) : wrap64 (n.tdiv x) = n / x := by
  rw [Int.tdiv_eq_ediv_of_nonneg h0]
  have := Int.ediv_nonneg h0 (Int.le_of_lt hx)
  have := Int.ediv_le_self x h0
  exact wrap_id (by omega) (by omega)
theorem bit_next (j : Nat) (r : Int) (h0 : 0 ≤ r) (hm : r % 2 ^ (j + 1) = 0) (h1 : r ≤ 3037000499) (hj : j ≤ 40) : bits BinOp.or IntKind.i64 r (wrap64 (2 ^ j)) = r + 2 ^ j := by
  have h2 := two_pow_le hj
  have h3 := two_pow_pos j
  have h4 : (2 : Int) ^ 40 = 1099511627776 := by decide
  rw [wrap_id (by omega) (by omega)]
  exact or_bit j r h0 hm (Int.lt_of_le_of_lt h1 (by decide)) (by omega)

theorem half_pow (k : Nat) : (2 : Int) ^ (k + 1) / 2 = 2 ^ k := by rw [two_pow_succ]; omega
theorem srch_first {n : Int} (h0 : 0 ≤ n) (h1 : n ≤ 9223372036854775807) : Srch n 0 (2 * 2147483648) := ⟨by omega, by simpa using h0, by simp; omega⟩
theorem no_sq {n x : Int} (h : ¬ x ≤ 3037000499) (h1 : n ≤ 9223372036854775807) : ¬ x * x ≤ n := fun h2 => by
  have := sq_le (a := 3037000500) (b := x) (by omega) (by omega)
  omega

def BitIs (n r b : Int) : Prop := (∃ k : Nat, k ≤ 31 ∧ b = 2 ^ k ∧ Srch n r (2 * b)) ∨ (b = 0 ∧ Srch n r 1)
theorem BitIs.next {n r b : Int} {k : Nat} (hb : b = 2 ^ k) (hk : k ≤ 31) (h : Srch n r b) : BitIs n r (b / 2) := by
  cases k with
  | zero => right; subst hb; exact ⟨by decide, h⟩
  | succ k =>
    left
    refine ⟨k, by omega, by rw [hb, half_pow], ?_⟩
    have : 2 * (b / 2) = b := by rw [hb, half_pow, two_pow_succ]
    rw [this]; exact h

end Go.Proofs.YtdfkpehggecbaaaGreatDoor

