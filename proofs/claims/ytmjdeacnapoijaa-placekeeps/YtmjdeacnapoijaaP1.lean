
/- Root: the program's and the document's. -/
import Derived.Test.YtmjdeacnapoijaaP0
import Derived.Test.YtmjdeacnapoijaaShelf
import Derived.WalkSpells
import Derived.WalkLawsBesides
namespace Go.Proofs.Ytmjdeacnapoijaa
open Go.RowKit

theorem retn {k : IntKind} {a b : Int} (h : a = b) : Ending.returned (.int k a) = .returned (.int k b) := by rw [h]

theorem wrap_id {m : Int} (h0 : -9223372036854775808 ≤ m) (h1 : m ≤ 9223372036854775807) : wrap64 m = m := by
  rw [wrap64]; omega
theorem quo_wrap {n x : Int} (h0 : 0 ≤ n) (h1 : n ≤ 9223372036854775807) (hx : 0 < x) : wrap64 (n.tdiv x) = n / x := by
  rw [Int.tdiv_eq_ediv_of_nonneg h0]
  have := Int.ediv_nonneg h0 (Int.le_of_lt hx)
  have := Int.ediv_le_self x h0
  exact wrap_id (by omega) (by omega)
theorem bit_next (j : Nat) (r : Int) (h0 : 0 ≤ r) (hm : r % 2 ^ (j + 1) = 0) (h1 : r ≤ 3037000499) (hj : j ≤ 40) : bits BinOp.or IntKind.i64 r (wrap64 (2 ^ j)) = r + 2 ^ j := by
  have h2 := two_pow_le hj
  have h3 := two_pow_pos j
  have h4 : (2 : Int) ^ 40 = 1099511627776 := by decide
  rw [wrap_id (by omega) (by omega)]
  exact or_bit j r h0 hm (Int.lt_of_le_of_lt h1 (by decide)) (by omega)

set_option maxHeartbeats 1600000 in
theorem root_any (n : Int) (w : World) (h0 : 0 ≤ n) (h1 : n ≤ 9223372036854775807) :
    Calls Try.prog 22 #[.int .i64 n] w fun e w' => e = .returned (.int .i64 (rt n)) ∧ w' = w := by
  have hlen : (Lib.bitLen n.toNat : Int) ≤ 64 := by have := Lib.bitLen_le n.toNat 64 (by omega) (by omega); omega
  have hlen0 : (0 : Int) ≤ (Lib.bitLen n.toNat : Int) := by omega
  go_enter Try.func22, Try.ntmps22
  go_wp2_with (go_at_call 42; refine (Try.bits_Len _ _ (by omega) (by omega)).mono ?_; rintro e w' ⟨rfl, rfl⟩)
  go_loop [3, 4] (fun x b => ∃ (i : Nat) (r : Int), i ≤ 33 ∧ x = .int .i64 r ∧ b = .int .i64 ((i : Int) - 1) ∧ Hid (Srch n r (2 ^ i)) ∧ Hid (r % 2 ^ i = 0)) (fun _ b => (intOf b + 1).toNat)
  case atStart =>
    exact ⟨Lib.bitLen n.toNat / 2 + 1, 0, by omega, rfl, congrArg (Value.int IntKind.i64) (by omega), srch_begin h0 h1 _ rfl, (show (0 : Int) % _ = 0 by simp)⟩
  case round =>
    obtain ⟨i, r, hi, rfl, rfl, HS, HM⟩ := hrel
    have hr0 := HS.out.1
    have hr1 := srch_le HS.out h1
    cases i with
    | zero =>
      go_wp2
      go_ret
      exact ⟨retn (rt_eq (srch_end HS.out)).symm, rfl⟩
    | succ j =>
      have hj : ((j + 1 : Nat) : Int) - 1 = j := by omega
      rw [hj]
      have HO : Hid (bits BinOp.or IntKind.i64 r (wrap64 (2 ^ j)) = r + 2 ^ j) := bit_next j r hr0 HM.out hr1 (by omega)
      have hp := two_pow_pos j
      go_wp2
      · exfalso; have := HO.out; omega
      · rename_i h1' h2'
        rw [HO.out] at h2' ⊢
        rw [quo_wrap h0 h1 (by omega)] at h2'
        refine ⟨⟨j, r + 2 ^ j, by omega, rfl, rfl, srch_in (by rw [← two_pow_succ]; exact HS.out) (by omega) ((quo_iff (by omega)).1 h2'), mod_add HM.out⟩, by simp [intOf]⟩
      · rename_i h1' h2'
        rw [HO.out] at h2'
        rw [quo_wrap h0 h1 (by omega)] at h2'
        refine ⟨⟨j, r, by omega, rfl, rfl, srch_out (by rw [← two_pow_succ]; exact HS.out) (fun h => by have := (quo_iff (x := r + 2 ^ j) (n := n) (by omega)).2 h; omega), mod_keep HM.out⟩, by simp [intOf]⟩

set_option maxHeartbeats 400000 in
theorem Root_any (n : Int) (w : World) (h0 : 0 ≤ n) (h1 : n ≤ 9223372036854775807) :
    Calls Try.prog 9 #[.int .i64 n] w fun e w' => e = .returned (.tuple #[.int .i64 (rt n), .int .i64 0]) ∧ w' = w := by
  go_enter Try.func9, Try.ntmps9
  go_wp2_with (go_at_call 22; refine (root_any _ _ h0 h1).mono ?_; rintro e w' ⟨rfl, rfl⟩)
  go_ret2
  exact ⟨rfl, rfl⟩
set_option maxHeartbeats 400000 in
theorem Root_bad (n : Int) (w : World) (h0 : n < 0) :
    Calls Try.prog 9 #[.int .i64 n] w fun e w' => e = .returned (.tuple #[.int .i64 0, .int .i64 3]) ∧ w' = w := by
  go_enter Try.func9, Try.ntmps9
  go_wp2_with fail
  go_ret2
  exact ⟨rfl, rfl⟩

theorem half_pow (k : Nat) : (2 : Int) ^ (k + 1) / 2 = 2 ^ k := by rw [two_pow_succ]; omega
theorem srch_first {n : Int} (h0 : 0 ≤ n) (h1 : n ≤ 9223372036854775807) : Srch n 0 (2 * 2147483648) := ⟨by omega, by simpa using h0, by simp; omega⟩
theorem no_sq {n x : Int} (h : ¬ x ≤ 3037000499) (h1 : n ≤ 9223372036854775807) : ¬ x * x ≤ n := fun h2 => by
  have := sq_le (a := 3037000500) (b := x) (by omega) (by omega)
  omega

def BitIs (n r b : Int) : Prop := (∃ k : Nat, k ≤ 31 ∧ b = 2 ^ k ∧ Srch n r (2 * b)) ∨ (b = 0 ∧ Srch n r 1)
theorem BitIs.next {n r b : Int} {k : Nat} (hb : b = 2 ^ k) (hk : k ≤ 31) (h : Srch n r b) : BitIs n r (b / 2) := by
  cases k with
  | zero => right; subst hb; exact ⟨by decide, h⟩
  | succ k =>
    left
    refine ⟨k, by omega, by rw [hb, half_pow], ?_⟩
    have : 2 * (b / 2) = b := by rw [hb, half_pow, two_pow_succ]
    rw [this]; exact h

set_option maxHeartbeats 1600000 in
theorem rootOf_any (n : Int) (w : World) (h0 : 0 ≤ n) (h1 : n ≤ 9223372036854775807) :
    Calls Try.prog 11 #[.int .i64 n] w fun e w' => e = .returned (.int .i64 (rt n)) ∧ w' = w := by
  go_enter Try.func11, Try.ntmps11
  go_wp2
  go_loop [3, 4] (fun x y => ∃ (b r : Int), x = .int .i64 r ∧ y = .int .i64 b ∧ Hid (BitIs n r b)) (fun _ b => (intOf b).toNat)
  case atStart => exact ⟨2147483648, 0, rfl, rfl, .inl ⟨31, by omega, by decide, srch_first h0 h1⟩⟩
  case round =>
    obtain ⟨b, r, rfl, rfl, HB⟩ := hrel
    rcases HB.out with ⟨k, hk, hb, hS⟩ | ⟨hb, hS⟩
    · have HS : Hid (Srch n r (2 * b)) := hS
      have HK : Hid (b = 2 ^ k) := hb
      have hb1 : b ≤ 2147483648 := by have := two_pow_le hk; have e : (2 : Int) ^ 31 = 2147483648 := by decide
                                      omega
      have hb0 : 0 < b := by rw [hb]; exact two_pow_pos k
      have hr0 := hS.1
      have hr1 := srch_le hS h1
      clear hb hS HB
      by_cases hle : r + b ≤ 3037000499
      · have hq := sq_le (a := r + b) (b := 3037000499) (by omega) hle
        have hq0 : 0 ≤ (r + b) * (r + b) := Int.mul_nonneg (by omega) (by omega)
        by_cases hx : (r + b) * (r + b) ≤ n
        · have HN : Hid (BitIs n (r + b) (b / 2)) := BitIs.next HK.out hk (srch_in HS.out (by omega) hx)
          go_wp2
          exact ⟨⟨b / 2, r + b, rfl, rfl, HN⟩, by simp [intOf]; omega⟩
        · have HN : Hid (BitIs n r (b / 2)) := BitIs.next HK.out hk (srch_out HS.out hx)
          go_wp2
          exact ⟨⟨b / 2, r, rfl, rfl, HN⟩, by simp [intOf]; omega⟩
      · have HN : Hid (BitIs n r (b / 2)) := BitIs.next HK.out hk (srch_out HS.out (no_sq hle h1))
        go_wp2
        exact ⟨⟨b / 2, r, rfl, rfl, HN⟩, by simp [intOf]; omega⟩
    · have HS : Hid (Srch n r 1) := hS
      subst hb
      clear hS HB
      go_wp2
      go_ret
      exact ⟨retn (rt_eq (srch_end HS.out)).symm, rfl⟩

end Go.Proofs.Ytmjdeacnapoijaa
