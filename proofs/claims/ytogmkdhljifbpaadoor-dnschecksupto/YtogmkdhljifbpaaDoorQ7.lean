/- The document's check of a name. -/
import Derived.Test.YtogmkdhljifbpaaDoorQ6
namespace Go.Proofs.YtogmkdhljifbpaaDoor
open Go.RowKit

theorem chkN_labs (s : ByteArray) : chkN s = if (labs s).all labB = false then 1 else if 8 < (labs s).length ∨ 120 < s.size then 2 else 0 := by
  unfold chkN labs
  by_cases h0 : s.size = 0
  · rw [if_pos h0, if_pos h0]; simp [h0]
  · rw [if_neg h0, if_neg h0]
    have e : ((spl s.data.toList).map mk).all labB = (spl s.data.toList).all labL := by rw [List.all_map]; rfl
    rw [e, List.length_map]

theorem labs_len (s : ByteArray) : (labs s).length ≤ s.size + 1 := by
  unfold labs
  split
  · simp
  · rw [List.length_map]; exact spl_le s
theorem len_le_jn : ∀ {xs : List (List UInt8)} {x : List UInt8}, x ∈ xs → x.length ≤ (jn xs).length
  | [y], x, h => by simp at h; subst h; exact Nat.le_refl _
  | y :: z :: r, x, h => by
    have e : (jn (y :: z :: r)).length = y.length + 1 + (jn (z :: r)).length := by
      show (y ++ 46 :: jn (z :: r)).length = _
      simp; omega
    rcases List.mem_cons.1 h with rfl | h2
    · omega
    · have := len_le_jn h2; omega
theorem labs_size (s : ByteArray) (hs : s.size ≤ maxLen) : ∀ j, ((labs s).getD j ByteArray.empty).size ≤ maxLen := fun j => by
  by_cases hj : j < (labs s).length
  · rw [show (labs s).getD j ByteArray.empty = (labs s)[j] by simp [List.getD, List.getElem?_eq_getElem hj]]
    have hm : (labs s)[j] ∈ labs s := List.getElem_mem hj
    revert hm
    generalize (labs s)[j] = x
    unfold labs
    split
    · simp
    · intro hm
      obtain ⟨y, hy, rfl⟩ := List.mem_map.1 hm
      rw [mk_size]
      have h := len_le_jn hy
      rw [jn_spl] at h
      have h6 : s.data.toList.length = s.size := by simp
      omega
  · rw [show (labs s).getD j ByteArray.empty = ByteArray.empty by simp [List.getD, List.getElem?_eq_none (by omega : (labs s).length ≤ j)]]; decide

set_option maxHeartbeats 1600000 in
theorem rCheckName_any (s : ByteArray) (w : World) (hs : s.size ≤ 2000000) :
    Calls Tryd.prog 11 #[.string s] w fun e w' => e = .returned (.int .i64 (chkN s)) ∧ Below w.heap.size w w' := by
  have HLO : Hid (Calls Tryd.prog 26 #[.string s] w fun e w' => ∃ v, e = .returned v ∧ OwnS w.heap.size w' v (labs s) ∧ Below w.heap.size w w') := labelsOf_any s w hs
  have hsm : s.size ≤ maxLen := by unfold maxLen; omega
  have HZ : Hid (∀ j, ((labs s).getD j ByteArray.empty).size ≤ maxLen) := labs_size s hsm
  have HE : Hid (chkN s = if (labs s).all labB = false then 1 else if 8 < (labs s).length ∨ 120 < s.size then 2 else 0) := chkN_labs s
  have hln := labs_len s
  have H0 : Hid ((∀ j, j < (labs s).length → labB ((labs s).getD j ByteArray.empty) = true) → (labs s).all labB = true) := fun h => by
    rw [List.all_eq_true]
    intro x hx
    obtain ⟨j, hj, rfl⟩ := List.getElem_of_mem hx
    have := h j hj
    simpa [List.getD, List.getElem?_eq_getElem hj] using this
  have H1 : Hid (∀ j, j < (labs s).length → labB ((labs s).getD j ByteArray.empty) = false → (labs s).all labB = false) := fun j hj h => by
    rw [List.all_eq_false]
    refine ⟨(labs s)[j], List.getElem_mem hj, ?_⟩
    rw [show (labs s).getD j ByteArray.empty = (labs s)[j] by simp [List.getD, List.getElem?_eq_getElem hj]] at h
    simp [h]
  generalize chkN s = r at *
  generalize labs s = L at *
  generalize L.all labB = al at *
  go_enter Tryd.func11, Tryd.ntmps11
  go_wp2_with (go_at_call 26; refine HLO.out.mono ?_; rintro e w1 ⟨v, rfl, hO, hb1⟩)
  have HB1 : Hid (Below w.heap.size w w1) := hb1
  obtain ⟨p, c, hv, hcl⟩ : ∃ p c, v = .slice p L.length c ∧ Hid (0 < L.length → ∃ g, p = some ⟨g, 0, none⟩ ∧ ∀ j, j < L.length → w1.cell? ⟨g, j, none⟩ = some (.string (L.getD j ByteArray.empty))) := by
    rcases OwnS.form hO with ⟨h1, h2⟩ | ⟨g, c, h1, _, _, _, h5⟩
    · exact ⟨none, 0, by rw [h1, h2]; rfl, fun h => by rw [h2] at h; simp at h⟩
    · exact ⟨_, c, h1, fun _ => ⟨g, rfl, h5⟩⟩
  subst hv
  clear hO hb1 HLO
  generalize hna : L.length = n at *
  clear hna
  go_loop [4] (fun i => ∃ k : Nat, k ≤ n ∧ i = .int .i64 k ∧ Hid (∀ j, j < k → labB (L.getD j ByteArray.empty) = true)) (fun i => n - (intOf i).toNat)
  case atStart => exact ⟨0, Nat.zero_le _, rfl, fun j h => absurd h (Nat.not_lt_zero _)⟩
  case round =>
    obtain ⟨k, hk, rfl, hz⟩ := hrel
    by_cases hlt : k < n
    · obtain ⟨g, hp, hc⟩ := hcl.out (by omega)
      subst hp
      have hck := hc k hlt
      have hsk := HZ.out k
      have HZ2 : Hid (labB (L.getD k ByteArray.empty) = true → ∀ j, j < k + 1 → labB (L.getD j ByteArray.empty) = true) := fun h j hj => by
        rcases Nat.lt_succ_iff_lt_or_eq.1 hj with h2 | rfl
        · exact hz.out j h2
        · exact h
      have HFF : Hid (labB (L.getD k ByteArray.empty) = false → r = 1) := fun h => by rw [HE.out, H1.out k hlt h]; rfl
      clear hc
      generalize L.getD k ByteArray.empty = x at *
      rcases hl : labB x with _ | _
      · have HR : Hid (r = 1) := HFF.out hl
        go_wp2_with (go_at_call 27; refine (isLabel_any _ _ hsk).mono ?_; rintro e w' ⟨rfl, rfl⟩; rw [hl])
        go_ret
        exact ⟨ret_int HR.out.symm, HB1.out⟩
      · have HZ3 := HZ2.out hl
        have HZ4 : Hid (∀ j, j < k + 1 → labB (L.getD j ByteArray.empty) = true) := HZ3
        clear HZ2 HFF HZ3
        go_wp2_with (go_at_call 27; refine (isLabel_any _ _ hsk).mono ?_; rintro e w' ⟨rfl, rfl⟩; rw [hl])
        go_round
        case rel => exact ⟨k + 1, by omega, by go_num, HZ4.out⟩
        case measure => simp [intOf]; omega
    · have HAL : al = true := H0.out fun j hj => hz.out j (by omega)
      have HR0 : Hid (r = if 8 < n ∨ 120 < s.size then 2 else 0) := (show r = _ by rw [HE.out, HAL]; rfl)
      clear hz HE HAL
      by_cases h8 : 8 < n
      · have HR : Hid (r = 2) := (show r = 2 by rw [HR0.out, if_pos (.inl h8)])
        have h9 : decide (8 < (n : Int)) = true := by simp; omega
        clear HR0
        go_wp2_with fail
        go_ret
        exact ⟨ret_int HR.out.symm, HB1.out⟩
      · have h9 : decide (8 < (n : Int)) = false := by simp; omega
        by_cases h120 : 120 < s.size
        · have HR : Hid (r = 2) := (show r = 2 by rw [HR0.out, if_pos (.inr h120)])
          have h10 : decide (120 < (s.size : Int)) = true := by simp; omega
          clear HR0
          go_wp2_with fail
          go_ret
          exact ⟨ret_int HR.out.symm, HB1.out⟩
        · have HR : Hid (r = 0) := (show r = 0 by rw [HR0.out, if_neg (by omega)])
          have h10 : decide (120 < (s.size : Int)) = false := by simp; omega
          clear HR0
          go_wp2_with fail
          go_ret
          exact ⟨ret_int HR.out.symm, HB1.out⟩

end Go.Proofs.YtogmkdhljifbpaaDoor
