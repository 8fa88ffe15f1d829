
/- Leaves of the members' functions: what each call gives. -/
import Derived.Test.YtonbaiaoelegaacProg
import Derived.WalkKit
import Derived.WalkSpells
import Derived.WalkLawsBesides
namespace Go.Proofs.Ytonbaiaoelegaac
open Go.RowKit

def within (n a b : Int) : Bool := decide (a ≤ n) && decide (n ≤ b)

def lbB (n : Int) : Bool := (decide (97 ≤ n) && decide (n ≤ 122)) || (decide (48 ≤ n) && decide (n ≤ 57)) || decide (n = 45) || decide (n = 95)

/-- A LABEL of chapter 1. -/
def labB (s : ByteArray) : Bool := decide (1 ≤ s.size) && decide (s.size ≤ 30) && s.data.toList.all (fun c => lbB c.toNat)

theorem ret_bool {a b : Bool} (h : a = b) : Ending.returned (.bool a) = .returned (.bool b) := by rw [h]
theorem ret_int {k : IntKind} {a b : Int} (h : a = b) : Ending.returned (.int k a) = .returned (.int k b) := by rw [h]
theorem take_snoc (s : ByteArray) (k : Nat) (h : k < s.size) : s.data.toList.take (k + 1) = s.data.toList.take k ++ [s[k]] := by
  rw [List.take_succ_eq_append_getElem (by simpa using h)]; rfl
theorem take_all (s : ByteArray) (k : Nat) (h : s.size ≤ k) : s.data.toList.take k = s.data.toList :=
  List.take_of_length_le (by simpa using h)
theorem labs_step (s : ByteArray) (k : Nat) (h : k < s.size) (hk : (s.data.toList.take k).all (fun c => lbB c.toNat) = true) (hb : lbB (s[k].toNat : Int) = true) :
    (s.data.toList.take (k + 1)).all (fun c => lbB c.toNat) = true := by
  rw [take_snoc s k h, List.all_append, hk]; simp [hb]
theorem labs_not (s : ByteArray) (k : Nat) (h : k < s.size) (hb : lbB (s[k].toNat : Int) = false) : labB s = false := by
  have : s.data.toList.all (fun c => lbB c.toNat) = false := by
    rw [List.all_eq_false]
    refine ⟨s[k], ?_, by simp [hb]⟩
    exact List.getElem_mem (l := s.data.toList) (n := k) (by simpa using h)
  simp [labB, this]

set_option maxHeartbeats 400000 in
theorem within_any (n a b : Int) (w : World) :
    Calls Try.prog 47 #[.int .i64 n, .int .i64 a, .int .i64 b] w fun e w' => e = .returned (.bool (within n a b)) ∧ w' = w := by
  go_enter Try.func47, Try.ntmps47
  go_wp2
  all_goals
    go_ret
    exact ⟨ret_bool (by unfold within; rw [Bool.eq_iff_iff]; simp; try omega), rfl⟩

set_option maxHeartbeats 400000 in
theorem between_any (n a b : Int) (w : World) :
    Calls Try.prog 44 #[.int .i64 n, .int .i64 a, .int .i64 b] w fun e w' => e = .returned (.bool (within n a b)) ∧ w' = w := by
  go_enter Try.func44, Try.ntmps44
  go_wp2
  all_goals
    go_ret
    exact ⟨ret_bool (by unfold within; rw [Bool.eq_iff_iff]; simp; try omega), rfl⟩

set_option maxHeartbeats 400000 in
theorem address_any (n : Int) (w : World) :
    Calls Try.prog 56 #[.int .i64 n] w fun e w' => e = .returned (.bool (within n 0 4294967295)) ∧ w' = w := by
  go_enter Try.func56, Try.ntmps56
  go_wp2_with (go_at_call 47; refine (within_any _ _ _ _).mono ?_; rintro e w' ⟨rfl, rfl⟩)
  go_ret
  exact ⟨rfl, rfl⟩

set_option maxHeartbeats 400000 in
theorem isAddress_any (n : Int) (w : World) :
    Calls Try.prog 46 #[.int .i64 n] w fun e w' => e = .returned (.bool (within n 0 4294967295)) ∧ w' = w := by
  go_enter Try.func46, Try.ntmps46
  go_wp2_with (go_at_call 44; refine (between_any _ _ _ _).mono ?_; rintro e w' ⟨rfl, rfl⟩)
  go_ret
  exact ⟨rfl, rfl⟩

set_option maxHeartbeats 800000 in
theorem labelByte_any (n : Int) (w : World) :
    Calls Try.prog 57 #[.int .u8 n] w fun e w' => e = .returned (.bool (lbB n)) ∧ w' = w := by
  go_enter Try.func57, Try.ntmps57
  go_wp2
  all_goals
    go_ret
    exact ⟨ret_bool (by unfold lbB; rw [Bool.eq_iff_iff]; simp; try omega), rfl⟩

set_option maxHeartbeats 800000 in
theorem label_any (s : ByteArray) (w : World) (hs : s.size ≤ maxLen) :
    Calls Try.prog 35 #[.string s] w fun e w' => e = .returned (.bool (labB s)) ∧ w' = w := by
  unfold maxLen at hs
  by_cases hz : within (s.size : Int) 1 30 = true
  · have hz' : 1 ≤ s.size ∧ s.size ≤ 30 := by simp [within] at hz; omega
    go_enter Try.func35, Try.ntmps35
    go_wp2_with (go_at_call 47; refine (within_any _ _ _ _).mono ?_; rintro e w' ⟨rfl, rfl⟩; rw [hz])
    go_loop [10] (fun i => ∃ k : Nat, k ≤ s.size ∧ i = .int .i64 k ∧ (s.data.toList.take k).all (fun c => lbB c.toNat) = true) (fun i => s.size - (intOf i).toNat)
    case atStart => exact ⟨0, Nat.zero_le _, rfl, rfl⟩
    case round =>
      obtain ⟨k, hk, rfl, hall⟩ := hrel
      have HA : Hid ((s.data.toList.take k).all (fun c => lbB c.toNat) = true) := hall
      clear hall
      by_cases hlt : k < s.size
      · by_cases hb : lbB (s[k].toNat : Int) = true
        · go_wp2_with (go_at_call 57; refine (labelByte_any _ _).mono ?_; rintro e w' ⟨rfl, rfl⟩; rw [hb])
          go_round
          case rel => exact ⟨k + 1, by omega, by go_num, labs_step s k hlt HA.out hb⟩
          case measure => simp [intOf]; omega
        · have hb' : lbB (s[k].toNat : Int) = false := by simpa using hb
          go_wp2_with (go_at_call 57; refine (labelByte_any _ _).mono ?_; rintro e w' ⟨rfl, rfl⟩; rw [hb'])
          go_ret
          exact ⟨ret_bool (labs_not s k hlt hb').symm, rfl⟩
      · go_wp2
        go_ret
        have h2 := HA.out
        rw [take_all s k (by omega)] at h2
        exact ⟨ret_bool (by simp [labB, h2, hz'.1, hz'.2]), rfl⟩
  · have hz' : within (s.size : Int) 1 30 = false := by simpa using hz
    go_enter Try.func35, Try.ntmps35
    go_wp2_with (go_at_call 47; refine (within_any _ _ _ _).mono ?_; rintro e w' ⟨rfl, rfl⟩; rw [hz'])
    go_ret
    refine ⟨ret_bool ?_, rfl⟩
    symm
    simp only [within, Bool.and_eq_false_iff, decide_eq_false_iff_not] at hz'
    simp only [labB, Bool.and_eq_false_iff, decide_eq_false_iff_not]
    rcases hz' with h | h
    · exact .inl (.inl (by omega))
    · exact .inl (.inr (by omega))

theorem lbB_iff (n : Int) : lbB n = true ↔ (97 ≤ n ∧ n ≤ 122) ∨ (48 ≤ n ∧ n ≤ 57) ∨ n = 45 ∨ n = 95 := by
  unfold lbB; simp [or_assoc]
theorem lbB_not (n : Int) : lbB n = false ↔ ¬ ((97 ≤ n ∧ n ≤ 122) ∨ (48 ≤ n ∧ n ≤ 57) ∨ n = 45 ∨ n = 95) := by
  rw [← lbB_iff]; simp

set_option maxHeartbeats 1600000 in
theorem isLabel_any (s : ByteArray) (w : World) (hs : s.size ≤ maxLen) :
    Calls Try.prog 45 #[.string s] w fun e w' => e = .returned (.bool (labB s)) ∧ w' = w := by
  unfold maxLen at hs
  go_enter Try.func45, Try.ntmps45
  go_wp2
  go_loop [3] (fun i => ∃ k : Nat, k ≤ s.size ∧ i = .int .i64 k ∧ (s.data.toList.take k).all (fun c => lbB c.toNat) = true) (fun i => s.size - (intOf i).toNat)
  case atStart => exact ⟨0, Nat.zero_le _, rfl, rfl⟩
  case round =>
    obtain ⟨k, hk, rfl, hall⟩ := hrel
    have HA : Hid ((s.data.toList.take k).all (fun c => lbB c.toNat) = true) := hall
    clear hall
    by_cases hlt : k < s.size
    · have hstep := labs_step s k hlt HA.out
      have hnot := labs_not s k hlt
      have H1 : Hid (lbB (s[k].toNat : Int) = true → (s.data.toList.take (k + 1)).all (fun c => lbB c.toNat) = true) := hstep
      have H2 : Hid (lbB (s[k].toNat : Int) = false → labB s = false) := hnot
      clear hstep hnot
      go_wp2
      all_goals first
        | (go_ret
           exact ⟨ret_bool (H2.out ((lbB_not _).2 (by simp at *; omega))).symm, rfl⟩)
        | (refine ⟨⟨k + 1, by omega, by go_num, H1.out ((lbB_iff _).2 ?_)⟩, by simp [intOf]; omega⟩
           simp at *
           omega)
    · have h2 := HA.out
      rw [take_all s k (by omega)] at h2
      have H3 : Hid (s.data.toList.all (fun c => lbB c.toNat) = true) := h2
      clear h2
      go_wp2
      all_goals
        go_ret
        refine ⟨ret_bool ?_, rfl⟩
        unfold labB
        rw [H3.out, Bool.eq_iff_iff]
        simp
        try omega

end Go.Proofs.Ytonbaiaoelegaac
