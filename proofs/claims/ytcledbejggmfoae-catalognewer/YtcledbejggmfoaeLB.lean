/- Is each of some texts a label? -/
import Derived.Test.YtcledbejggmfoaeLV
namespace Go.Proofs.Ytcledbejggmfoae
open Go.RowKit

set_option maxHeartbeats 800000 in
theorem labels_any (ss : List ByteArray) (b cap : Nat) (w : World) (hb : ∀ j, j < ss.length → w.cell? ⟨b, j, none⟩ = some (.string (ss.getD j ByteArray.empty))) (hs : ∀ j, (ss.getD j ByteArray.empty).size ≤ maxLen) (hn : ss.length ≤ 1000) :
    Calls Try.prog 37 #[.slice (some ⟨b, 0, none⟩) ss.length cap] w fun e w' => e = .returned (.bool (ss.all labB)) ∧ w' = w := by
  have HB : Hid (∀ j, j < ss.length → w.cell? ⟨b, j, none⟩ = some (.string (ss.getD j ByteArray.empty))) := hb
  have HS : Hid (∀ j, (ss.getD j ByteArray.empty).size ≤ maxLen) := hs
  have H0 : Hid ((∀ j, j < ss.length → labB (ss.getD j ByteArray.empty) = true) → ss.all labB = true) := fun h => by
    rw [List.all_eq_true]
    intro x hx
    obtain ⟨j, hj, rfl⟩ := List.getElem_of_mem hx
    have := h j hj
    simpa [List.getD, List.getElem?_eq_getElem hj] using this
  have H1 : Hid (∀ j, j < ss.length → labB (ss.getD j ByteArray.empty) = false → ss.all labB = false) := fun j hj h => by
    rw [List.all_eq_false]
    refine ⟨ss[j], List.getElem_mem hj, ?_⟩
    rw [show ss.getD j ByteArray.empty = ss[j] by simp [List.getD, List.getElem?_eq_getElem hj]] at h
    simp [h]
  clear hb hs
  generalize ss.all labB = res at *
  generalize hN : ss.length = n at *
  clear hN
  go_enter Try.func37, Try.ntmps37
  go_wp2_with fail
  go_loop [7] (fun i => ∃ k : Nat, k ≤ n ∧ i = .int .i64 k ∧ Hid (∀ j, j < k → labB (ss.getD j ByteArray.empty) = true)) (fun i => n - (intOf i).toNat)
  case atStart => exact ⟨0, Nat.zero_le _, rfl, fun j h => absurd h (Nat.not_lt_zero _)⟩
  case round =>
    obtain ⟨k, hk, rfl, hz⟩ := hrel
    by_cases hlt : k < n
    · have hc := HB.out k hlt
      have hsk := HS.out k
      have HZ : Hid (labB (ss.getD k ByteArray.empty) = true → ∀ j, j < k + 1 → labB (ss.getD j ByteArray.empty) = true) := fun h j hj => by
        rcases Nat.lt_succ_iff_lt_or_eq.1 hj with h2 | rfl
        · exact hz.out j h2
        · exact h
      have HF : Hid (labB (ss.getD k ByteArray.empty) = false → res = false) := fun h => H1.out k hlt h
      generalize ss.getD k ByteArray.empty = s at *
      rcases hl : labB s with _ | _
      · have HR : Hid (res = false) := HF.out hl
        go_wp2_with (go_at_call 42; refine (label_any _ _ hsk).mono ?_; rintro e w' ⟨rfl, rfl⟩; rw [hl])
        go_ret
        exact ⟨ret_bool HR.out.symm, rfl⟩
      · go_wp2_with (go_at_call 42; refine (label_any _ _ hsk).mono ?_; rintro e w' ⟨rfl, rfl⟩; rw [hl])
        go_round
        case rel => exact ⟨k + 1, by omega, by go_num, HZ.out hl⟩
        case measure => simp [intOf]; omega
    · have HR : Hid (res = true) := H0.out fun j hj => hz.out j (by omega)
      go_wp2_with fail
      go_ret
      exact ⟨ret_bool HR.out.symm, rfl⟩

end Go.Proofs.Ytcledbejggmfoae
