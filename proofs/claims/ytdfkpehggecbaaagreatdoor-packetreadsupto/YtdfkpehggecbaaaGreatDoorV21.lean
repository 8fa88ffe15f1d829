/- LB -/
import Derived.Test.YtdfkpehggecbaaaGreatDoorV1
/- Is each of some texts a label? -/
namespace Go.Proofs.YtdfkpehggecbaaaGreatDoor
open Go.RowKit

set_option maxHeartbeats 800000 in
theorem labels_any (ss : List ByteArray) (b cap : Nat) (w : World) (hb : ∀ j, j < ss.length → w.cell? ⟨b, j, none⟩ = some (.string (ss.getD j ByteArray.empty))) (hs : ∀ j, (ss.getD j ByteArray.empty).size ≤ maxLen) (hn : ss.length ≤ 1000) :
    Calls Tryz.prog 92 #[.slice (some ⟨b, 0, none⟩) ss.length cap] w fun e w' => e = .returned (.bool (ss.all labB)) ∧ w' = w := by
  have HB : Hid (∀ j, j < ss.length → w.cell? ⟨b, j, none⟩ = some (.string (ss.getD j ByteArray.empty))) := hb
  have HS : Hid (∀ j, (ss.getD j ByteArray.empty).size ≤ maxLen) := hs
  have H0 : Hid ((∀ j, j < ss.length → labB (ss.getD j ByteArray.empty) = true) → ss.all labB = true) := fun h => by
    rw [List.all_eq_true]
    intro x hx
    obtain ⟨j, hj, rfl⟩ := List.getElem_of_mem hx
    have := h j hj
    simpa [List.getD, List.getElem?_eq_getElem hj] using this
  have H1 : Hid (∀ j, j < ss.length → labB (ss.getD j ByteArray.empty) = false → ss.all labB = false) := fun j hj h => by
    rw [List.all_eq_false]
    refine ⟨ss[j], List.getElem_mem hj, ?_⟩
    rw [show ss.getD j ByteArray.empty = ss[j] by simp [List.getD, List.getElem?_eq_getElem hj]] at h
    simp [h]
  clear hb hs
  generalize ss.all labB = res at *
  generalize hN : ss.length = n at *
  clear hN
  go_enter Tryz.func92, Tryz.ntmps92
  go_wp2_with fail
  go_loop [7] (fun i => ∃ k : Nat, k ≤ n ∧ i = .int .i64 k ∧ Hid (∀ j, j < k → labB (ss.getD j ByteArray.empty) = true)) (fun i => n - (intOf i).toNat)
  case atStart => exact ⟨0, Nat.zero_le _, rfl, fun j h => absurd h (Nat.not_lt_zero _)⟩
  case round =>
    obtain ⟨k, hk, rfl, hz⟩ := hrel
    by_cases hlt : k < n
    · have hc := HB.out k hlt
      have hsk := HS.out k
      have HZ : Hid (labB (ss.getD k ByteArray.empty) = true → ∀ j, j < k + 1 → labB (ss.getD j ByteArray.empty) = true) := fun h j hj => by
        rcases Nat.lt_succ_iff_lt_or_eq.1 hj with h2 | rfl
        · exact hz.out j h2
        · exact h
      have HF : Hid (labB (ss.getD k ByteArray.empty) = false → res = false) := fun h => H1.out k hlt h
      generalize ss.getD k ByteArray.empty = s at *
      rcases hl : labB s with _ | _
      · have HR : Hid (res = false) := HF.out hl
        go_wp2_with (go_at_call 26; refine (label_any _ _ hsk).mono ?_; rintro e w' ⟨rfl, rfl⟩; rw [hl])
        go_ret
        exact ⟨ret_bool HR.out.symm, rfl⟩
      · go_wp2_with (go_at_call 26; refine (label_any _ _ hsk).mono ?_; rintro e w' ⟨rfl, rfl⟩; rw [hl])
        go_round
        case rel => exact ⟨k + 1, by omega, by go_num, HZ.out hl⟩
        case measure => simp [intOf]; omega
    · have HR : Hid (res = true) := H0.out fun j hj => hz.out j (by omega)
      go_wp2_with fail
      go_ret
      exact ⟨ret_bool HR.out.symm, rfl⟩

def labE (t : ByteArray) : Bool := decide (t = ByteArray.empty) || labB t

set_option maxHeartbeats 1600000 in
theorem labelsE_any (ss : List ByteArray) (b cap : Nat) (w : World) (hb : ∀ j, j < ss.length → w.cell? ⟨b, j, none⟩ = some (.string (ss.getD j ByteArray.empty))) (hs : ∀ j, (ss.getD j ByteArray.empty).size ≤ maxLen) (hn : ss.length ≤ 1000) :
    Calls Tryz.prog 93 #[.slice (some ⟨b, 0, none⟩) ss.length cap] w fun e w' => e = .returned (.bool (ss.all labE)) ∧ w' = w := by
  have HB : Hid (∀ j, j < ss.length → w.cell? ⟨b, j, none⟩ = some (.string (ss.getD j ByteArray.empty))) := hb
  have HS : Hid (∀ j, (ss.getD j ByteArray.empty).size ≤ maxLen) := hs
  have H0 : Hid ((∀ j, j < ss.length → labE (ss.getD j ByteArray.empty) = true) → ss.all labE = true) := fun h => by
    rw [List.all_eq_true]
    intro x hx
    obtain ⟨j, hj, rfl⟩ := List.getElem_of_mem hx
    have := h j hj
    simpa [List.getD, List.getElem?_eq_getElem hj] using this
  have H1 : Hid (∀ j, j < ss.length → labE (ss.getD j ByteArray.empty) = false → ss.all labE = false) := fun j hj h => by
    rw [List.all_eq_false]
    refine ⟨ss[j], List.getElem_mem hj, ?_⟩
    rw [show ss.getD j ByteArray.empty = ss[j] by simp [List.getD, List.getElem?_eq_getElem hj]] at h
    simp [h]
  clear hb hs
  generalize ss.all labE = res at *
  generalize hN : ss.length = n at *
  clear hN
  go_enter Tryz.func93, Tryz.ntmps93
  go_wp2_with fail
  go_loop [7] (fun i => ∃ k : Nat, k ≤ n ∧ i = .int .i64 k ∧ Hid (∀ j, j < k → labE (ss.getD j ByteArray.empty) = true)) (fun i => n - (intOf i).toNat)
  case atStart => exact ⟨0, Nat.zero_le _, rfl, fun j h => absurd h (Nat.not_lt_zero _)⟩
  case round =>
    obtain ⟨k, hk, rfl, hz⟩ := hrel
    by_cases hlt : k < n
    · have hc := HB.out k hlt
      have hsk := HS.out k
      have HZ : Hid (labE (ss.getD k ByteArray.empty) = true → ∀ j, j < k + 1 → labE (ss.getD j ByteArray.empty) = true) := fun h j hj => by
        rcases Nat.lt_succ_iff_lt_or_eq.1 hj with h2 | rfl
        · exact hz.out j h2
        · exact h
      have HF : Hid (labE (ss.getD k ByteArray.empty) = false → res = false) := fun h => H1.out k hlt h
      generalize ss.getD k ByteArray.empty = s at *
      by_cases hse : s = ByteArray.empty
      · subst hse
        have HZ2 : Hid (∀ j, j < k + 1 → labE (ss.getD j ByteArray.empty) = true) := HZ.out (by simp [labE])
        clear HZ HF
        go_wp2_with fail
        go_round
        case rel => exact ⟨k + 1, by omega, by go_num, HZ2.out⟩
        case measure => simp [intOf]; omega
      · have HE : Hid (labE s = labB s) := (show labE s = labB s by simp [labE, hse])
        obtain ⟨h1, h2⟩ := beq_name hse
        have h3 : ¬ s.toList = [] := fun e => h2 (by rw [e, Lib.toList_data]; rfl)
        have h4 : (s.toList == []) = false := by simpa using h3
        clear hse
        rcases hl : labB s with _ | _
        · have HR : Hid (res = false) := HF.out (by rw [HE.out, hl])
          go_wp2_with (go_at_call 26; refine (label_any _ _ hsk).mono ?_; rintro e w' ⟨rfl, rfl⟩; rw [hl])
          go_ret
          exact ⟨ret_bool HR.out.symm, rfl⟩
        · have HZ2 : Hid (∀ j, j < k + 1 → labE (ss.getD j ByteArray.empty) = true) := HZ.out (by rw [HE.out, hl])
          clear HZ HF
          go_wp2_with (go_at_call 26; refine (label_any _ _ hsk).mono ?_; rintro e w' ⟨rfl, rfl⟩; rw [hl])
          go_round
          case rel => exact ⟨k + 1, by omega, by go_num, HZ2.out⟩
          case measure => simp [intOf]; omega
    · have HR : Hid (res = true) := H0.out fun j hj => hz.out j (by omega)
      go_wp2_with fail
      go_ret
      exact ⟨ret_bool HR.out.symm, rfl⟩

theorem labE_any (t : ByteArray) (W : World) (g : Nat) (hs : t.size ≤ maxLen) (hg : W.heap[g]? = some (.cells #[.string t] 9 (0, 0))) :
    Calls Tryz.prog 93 #[.slice (some ⟨g, 0, none⟩) 1 1] W fun e w' => e = .returned (.bool (labE t)) ∧ w' = W := by
  have h := labelsE_any [t] g 1 W (fun j hj => by
    rw [cellsAt hg]
    have : j = 0 := by simp at hj; omega
    subst this; rfl) (fun j => by
    match j with
    | 0 => exact hs
    | _ + 1 => simp [List.getD]) (by simp)
  simpa using h

theorem heap_new1 (W : World) (c : Value) : (W.alloc (.cells #[c] 9)).heap[W.heap.size]? = some (.cells #[c] 9 (0, 0)) := by
  have h := heap_alloc_new W (.cells #[c] 9)
  simpa using h

end Go.Proofs.YtdfkpehggecbaaaGreatDoor

