/- dns.Check. -/
import Derived.Test.YtogmkdhljifbpaaDoorQ1
namespace Go.Proofs.YtogmkdhljifbpaaDoor
open Go.RowKit

theorem nempty {s : ByteArray} (h : s.size ≠ 0) : (s.toList == []) = false ∧ ¬ s.toList = [] := by
  have h3 : ¬ s.toList = [] := fun e => h (by
    rw [Lib.toList_data] at e
    have : s.data.toList.length = 0 := by rw [e]; rfl
    simpa using this)
  exact ⟨by simpa using h3, h3⟩
theorem isempty {s : ByteArray} (h : s.size = 0) : s = ⟨#[]⟩ := by
  cases s with
  | mk a => simp [ByteArray.size] at h; subst h; rfl

set_option maxHeartbeats 1600000 in
theorem dnsCheck_any (s : ByteArray) (w : World) (hs : s.size ≤ maxLen) :
    Calls Tryd.prog 10 #[.string s] w fun e w' => e = .returned (.int .i64 (chkN s)) ∧ Below w.heap.size w w' := by
  by_cases h0 : s.size = 0
  · have e0 : chkN s = 0 := by unfold chkN; rw [if_pos h0]
    rw [e0]
    have := isempty h0
    subst this
    clear e0 h0 hs
    go_enter Tryd.func10, Tryd.ntmps10
    go_wp2_with fail
    go_ret
    exact ⟨rfl, Below.refl _ _⟩
  · obtain ⟨n1, n2⟩ := nempty h0
    have HL : Hid (∀ W, Calls Tryd.prog 24 #[.string s, .func (.func 22) #[] #[]] W fun e w' => e = .returned (.bool (!(spl s.data.toList).all labL)) ∧ Below W.heap.size W w') := fun W => hasLabel_any s W hs
    have HE : Hid (chkN s = if (spl s.data.toList).all labL = false then 1 else if 8 < (spl s.data.toList).length ∨ 120 < s.size then 2 else 0) := (show chkN s = _ by unfold chkN; rw [if_neg h0])
    have hlen := spl_len s.data.toList
    unfold maxLen at hs
    clear h0
    generalize chkN s = r at *
    cases hall : (spl s.data.toList).all labL with
    | false =>
      have HR : Hid (r = 1) := (show r = 1 by rw [HE.out, if_pos hall])
      rw [hall] at HL
      clear HE
      go_enter Tryd.func10, Tryd.ntmps10
      go_wp2_with (go_at_call 24; refine (HL.out _).mono ?_; rintro e w1 ⟨rfl, hb1⟩)
      go_ret
      exact ⟨ret_int HR.out.symm, hb1⟩
    | true =>
      rw [hall] at HL
      have HE2 : Hid (r = if 8 < s.data.toList.count 46 + 1 ∨ 120 < s.size then 2 else 0) := (show r = _ by rw [HE.out, hall, hlen]; rfl)
      have hcl : s.data.toList.count 46 ≤ s.size := by have := List.count_le_length (a := (46 : UInt8)) (l := s.data.toList); simpa using this
      clear HE hlen hall
      have HCT : Hid (∀ W, Calls Tryd.prog 25 #[.string s, .string ⟨#[46]⟩] W fun e w' => e = .returned (.int .i64 ((s.data.toList.count 46 : Nat) : Int)) ∧ w' = W) := fun W => Tryd.strings_Count_one s 46 W
      generalize s.data.toList.count 46 = cn at *
      by_cases h1 : 8 ≤ cn
      · have HR : Hid (r = 2) := (show r = 2 by rw [HE2.out, if_pos (.inl (by omega))])
        clear HE2
        have h2 : decide (8 ≤ (cn : Int)) = true := by simp; omega
        go_enter Tryd.func10, Tryd.ntmps10
        go_wp2_with (first | (go_at_call 24; refine (HL.out _).mono ?_; rintro e w1 ⟨rfl, hb1⟩) | (go_at_call 25; refine (HCT.out _).mono ?_; rintro e w2 ⟨rfl, rfl⟩))
        go_ret
        exact ⟨ret_int HR.out.symm, hb1⟩
      · have h2 : decide (8 ≤ (cn : Int)) = false := by simp; omega
        by_cases h3 : 120 < s.size
        · have HR : Hid (r = 2) := (show r = 2 by rw [HE2.out, if_pos (.inr h3)])
          clear HE2
          have h4 : decide (120 < (s.size : Int)) = true := by simp; omega
          go_enter Tryd.func10, Tryd.ntmps10
          go_wp2_with (first | (go_at_call 24; refine (HL.out _).mono ?_; rintro e w1 ⟨rfl, hb1⟩) | (go_at_call 25; refine (HCT.out _).mono ?_; rintro e w2 ⟨rfl, rfl⟩))
          go_ret
          exact ⟨ret_int HR.out.symm, hb1⟩
        · have HR : Hid (r = 0) := (show r = 0 by rw [HE2.out, if_neg (by omega)])
          clear HE2
          have h4 : decide (120 < (s.size : Int)) = false := by simp; omega
          go_enter Tryd.func10, Tryd.ntmps10
          go_wp2_with (first | (go_at_call 24; refine (HL.out _).mono ?_; rintro e w1 ⟨rfl, hb1⟩) | (go_at_call 25; refine (HCT.out _).mono ?_; rintro e w2 ⟨rfl, rfl⟩))
          go_ret
          exact ⟨ret_int HR.out.symm, hb1⟩

end Go.Proofs.YtogmkdhljifbpaaDoor
