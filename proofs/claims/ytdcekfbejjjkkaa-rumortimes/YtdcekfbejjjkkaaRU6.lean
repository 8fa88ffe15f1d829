
/- What must be in any case of rumors; the law RumorTimes. -/
import Derived.Test.YtdcekfbejjjkkaaRU5
import Derived.Lib.ItoaNum
namespace Go.Proofs.Ytdcekfbejjjkkaa
open Go.RowKit

def mB : Mem := ⟨⟨#[97]⟩, 1, 1, 0, false⟩
theorem e_mB : mB.e = 0 := by decide
theorem chkR_nil : chkR [] = 0 := chkR_ok (by simp) (fun j hj => by simp at hj) (fun j hj => by simp at hj) (fun i j _ hj => by simp at hj)
theorem chkR_mB : chkR [⟨mB, 0⟩] = 0 := chkR_ok (by simp) (fun j hj => by
    have : j = 0 := by simpa using hj
    subst this; exact e_mB) (fun j hj => by
    have : j = 0 := by simpa using hj
    subst this; decide) (fun i j hi hj => by
    have : j = 0 := by simpa using hj
    omega)

set_option maxHeartbeats 800000 in
theorem rumorBegun_any (w : World) : Calls Try.prog 11 #[] w fun e w' => e = .returned (.bool true) ∧ Below w.heap.size w w' := by
  go_enter Try.func11, Try.ntmps11
  go_wp2_with fail
  refine (put_new [] _ mB _ ⟨none, 0, rfl, rns_get (by simp), .inl rfl⟩ (by decide) chkR_nil e_mB (fun j hj => by simp at hj) (by simp)).mono ?_
  rintro e w1 ⟨v1, rfl, ho1, hb1⟩
  have HO1 : Hid (ROwn w.heap.size w1 v1 [⟨mB, 0⟩]) := ho1
  have HB1 : Hid (Below w.heap.size w w1) := hb1
  clear ho1 hb1
  go_wp2_with fail
  refine (take_one _ ⟨mB, 0⟩ 5 2 _ (HO1.out.sl (rns_get (by simp; decide))) chkR_mB (by decide) (by decide) (by decide) (by decide)).mono ?_
  rintro e w2 ⟨v2, v3, rfl, ho2, ho3, hb2⟩
  have HB2 : Hid (Below w.heap.size w w2) := HB1.out.trans (hb2.mono HB1.out.size)
  obtain ⟨g2, c2, hv2⟩ : ∃ g c, v2 = .slice (some ⟨g, 0, none⟩) 1 c := by
    rcases ho2.2 with ⟨_, h0⟩ | ⟨g, c, cur, h, _⟩
    · simp at h0
    · exact ⟨g, c, h⟩
  obtain ⟨g3, c3, hv3⟩ : ∃ g c, v3 = .slice (some ⟨g, 0, none⟩) 1 c := by
    rcases ho3.2 with ⟨_, h0⟩ | ⟨g, c, cur, h, _⟩
    · simp at h0
    · exact ⟨g, c, h⟩
  subst hv2 hv3
  have d5 : w2.cell? ⟨g3, 5, none⟩ = some (.int .i64 1) := World.ownsRow.cellAt ho3 5 (by decide)
  clear ho2 ho3 hb2
  go_wp2_with fail
  go_ret
  exact ⟨rfl, HB2.out⟩

theorem len_is {m k : Nat} (h64 : m < 2 ^ 64) (h0 : k = 0 ∨ 2 ^ (k - 1) ≤ m) (h1 : m < 2 ^ k) : Lib.bitLen m = k := by
  by_cases hm : m = 0
  · subst hm
    rcases h0 with h0 | h0
    · subst h0; decide
    · have := Nat.two_pow_pos (k - 1); omega
  · obtain ⟨a1, a2, a3⟩ := Lib.bitLenAux_bounds 64 m h64 hm
    have hB : Lib.bitLen m = Lib.bitLenAux 64 m := rfl
    rw [hB]
    generalize Lib.bitLenAux 64 m = B at *
    rcases Nat.lt_trichotomy B k with c | c | c
    · have hk : 2 ^ (k - 1) ≤ m := by rcases h0 with h0 | h0; omega; exact h0
      have := Nat.pow_le_pow_right (n := 2) (by omega) (show B ≤ k - 1 by omega)
      omega
    · exact c
    · have := Nat.pow_le_pow_right (n := 2) (by omega) (show k ≤ B - 1 by omega)
      omega

set_option maxHeartbeats 800000 in
theorem times_any (m : Int) (w : World) (h : within m 0 20 = true) :
    Calls Try.prog 17 #[.int .i64 m] w fun e w' => e = .returned (.tuple #[.int .i64 (3 * (Lib.bitLen m.toNat : Nat)), .int .i64 0]) ∧ w' = w := by
  have hm : 0 ≤ m ∧ m ≤ 20 := by simp [within] at h; omega
  have hl : (Lib.bitLen m.toNat : Int) ≤ 64 := by have := Lib.bitLen_le m.toNat 64 (by omega) (by omega); omega
  go_enter Try.func17, Try.ntmps17
  go_wp2_with (first | (go_at_call 29; refine (within_any _ _ _ _).mono ?_; rintro e w' ⟨rfl, rfl⟩; rw [h]) | (go_at_call 33; refine (Try.bits_Len _ _ (by omega) (by omega)).mono ?_; rintro e w' ⟨rfl, rfl⟩))
  go_ret2
  exact ⟨rfl, rfl⟩
set_option maxHeartbeats 800000 in
theorem times_bad (m : Int) (w : World) (h : within m 0 20 = false) :
    Calls Try.prog 17 #[.int .i64 m] w fun e w' => e = .returned (.tuple #[.int .i64 0, .int .i64 3]) ∧ w' = w := by
  go_enter Try.func17, Try.ntmps17
  go_wp2_with (go_at_call 29; refine (within_any _ _ _ _).mono ?_; rintro e w' ⟨rfl, rfl⟩; rw [h])
  go_ret2
  exact ⟨rfl, rfl⟩

theorem pow_small {k : Nat} (h : k ≤ 6) : (2 : Int) ^ k ≤ 64 := by
  have : (2 : Nat) ^ k ≤ 2 ^ 6 := Nat.pow_le_pow_right (by omega) h
  have h2 : ((2 ^ k : Nat) : Int) ≤ ((2 ^ 6 : Nat) : Int) := by exact_mod_cast this
  simpa using h2
theorem k_small {k : Nat} {m : Int} (hm : m ≤ 20) (h : k = 0 ∨ (2 : Int) ^ (k - 1) ≤ m) : k ≤ 5 := by
  rcases h with h | h
  · omega
  · apply Classical.byContradiction; intro c
    have h1 : (2 : Nat) ^ 5 ≤ 2 ^ (k - 1) := Nat.pow_le_pow_right (by omega) (by omega)
    have h2 : ((2 ^ 5 : Nat) : Int) ≤ ((2 ^ (k - 1) : Nat) : Int) := by exact_mod_cast h1
    simp at h2
    omega

set_option maxHeartbeats 1600000 in
theorem timesOf_any (m : Int) (w : World) (h0 : 0 ≤ m) (h1 : m ≤ 20) :
    Calls Try.prog 18 #[.int .i64 m] w fun e w' => e = .returned (.int .i64 (3 * (Lib.bitLen m.toNat : Nat))) ∧ w' = w := by
  go_enter Try.func18, Try.ntmps18
  go_wp2
  go_loop [3, 4] (fun x y => ∃ (k : Nat) (p : Int), x = .int .i64 k ∧ y = .int .i64 p ∧ k ≤ 5 ∧ 1 ≤ p ∧ p ≤ 64 ∧ Hid (p = 2 ^ k) ∧ Hid (k = 0 ∨ (2 : Int) ^ (k - 1) ≤ m)) (fun _ y => (40 - intOf y).toNat)
  case atStart => exact ⟨0, 1, rfl, rfl, by omega, by omega, by omega, (show (1 : Int) = 2 ^ 0 by simp), .inl rfl⟩
  case round =>
    obtain ⟨k, p, rfl, rfl, hk, hp1, hp2, HP, HK⟩ := hrel
    by_cases hle : p ≤ m
    · have HK2 : Hid (k + 1 = 0 ∨ (2 : Int) ^ (k + 1 - 1) ≤ m) := .inr (by rw [Nat.add_sub_cancel, ← HP.out]; exact hle)
      have hk2 : k + 1 ≤ 5 := k_small h1 HK2.out
      go_wp2
      exact ⟨⟨k + 1, 2 * p, by go_num, rfl, hk2, by omega, by omega, (show 2 * p = 2 ^ (k + 1) by rw [HP.out, Int.pow_succ]; omega), HK2⟩, by simp [intOf]; omega⟩
    · have HE : Hid (Lib.bitLen m.toNat = k) := len_is (by omega) (by
        rcases HK.out with h | h
        · exact .inl h
        · right
          have h2 : ((2 ^ (k - 1) : Nat) : Int) ≤ m := by simpa using h
          omega) (by
        have h2 : m < ((2 ^ k : Nat) : Int) := by have := HP.out; simp; omega
        omega)
      go_wp2
      go_ret
      exact ⟨ret_int (by rw [HE.out]), rfl⟩

set_option maxHeartbeats 800000 in
theorem rumorTimes_walk (m : Int) (w : World) :
    Calls Try.prog 5 #[.int .i64 m] w fun e w' => e = .returned (.bool true) ∧ Below w.heap.size w w' := by
  rcases h : within m 0 20 with _ | _
  · have hm : m < 0 ∨ 20 < m := by simp [within] at h; omega
    rcases hm with hm | hm
    all_goals
      go_enter Try.func5, Try.ntmps5
      go_wp2_with fail
      refine (times_bad m _ h).mono ?_
      rintro e w1 ⟨rfl, rfl⟩
      go_wp2_with fail
      refine (rumorBegun_any _).mono ?_
      rintro e w2 ⟨rfl, hb2⟩
      go_wp2_with fail
      go_ret
      exact ⟨rfl, hb2⟩
  · have hm : 0 ≤ m ∧ m ≤ 20 := by simp [within] at h; omega
    obtain ⟨m0, m1⟩ := hm
    have hT := fun w => times_any m w h
    have hO := fun w => timesOf_any m w m0 m1
    clear h
    generalize (3 * (Lib.bitLen m.toNat : Nat) : Int) = q at *
    go_enter Try.func5, Try.ntmps5
    go_wp2_with fail
    refine (hT _).mono ?_
    rintro e w1 ⟨rfl, rfl⟩
    go_wp2_with fail
    refine (hO _).mono ?_
    rintro e w2 ⟨rfl, rfl⟩
    go_wp2_with fail
    refine (rumorBegun_any _).mono ?_
    rintro e w3 ⟨rfl, hb3⟩
    go_wp2_with fail
    go_ret
    exact ⟨rfl, hb3⟩

end Go.Proofs.Ytdcekfbejjjkkaa
