
/- The document's own Hear: what it puts. -/
import Derived.Test.YtcledbejggmfoacMO
namespace Go.Proofs.Ytcledbejggmfoac
open Go.RowKit

theorem atI_at {ms : List Mem} {t : ByteArray} {r : Int} {p : Nat} {f : Bool} (hi : AtI ms t r) (ha : At ms t p f) (hr : Rise ms) : (f = true → r = p) ∧ (f = false → r = -1) := by
  rcases hi with ⟨k, hk, rfl, hn⟩ | ⟨rfl, hn⟩
  · have hc : cmpI (ms.getD k dm).name t = 0 := (cmpI_eq _ _).2 hn
    have hat : At ms t k true := ⟨by omega, fun j hj => ?_, fun j hj hl => ?_, ⟨fun _ => ⟨hk, hc⟩, fun _ => rfl⟩⟩
    · obtain ⟨rfl, rfl⟩ := at_uniq ha hat
      exact ⟨fun _ => rfl, fun h => by cases h⟩
    · have hp := List.pairwise_iff_getElem.1 hr j k (by omega) hk hj
      have e1 : ms.getD j dm = ms[j] := by simp [List.getD, List.getElem?_eq_getElem (show j < ms.length by omega)]
      have e2 : ms.getD k dm = ms[k] := by simp [List.getD, List.getElem?_eq_getElem hk]
      rw [cmpI_lt, e1, ← hn, e2]; exact hp
    · rcases Nat.lt_or_eq_of_le hj with h | rfl
      · have hp := List.pairwise_iff_getElem.1 hr k j hk hl h
        have e1 : ms.getD j dm = ms[j] := by simp [List.getD, List.getElem?_eq_getElem hl]
        have e2 : ms.getD k dm = ms[k] := by simp [List.getD, List.getElem?_eq_getElem hk]
        have : 0 < cmpI (ms.getD j dm).name t := by rw [cmpI_gt, e1, ← hn, e2]; exact hp
        omega
      · omega
  · refine ⟨fun h => ?_, fun _ => rfl⟩
    have := ha.is.1 h
    exact absurd ((cmpI_eq _ _).1 this.2) (hn p this.1)

theorem at_hi_ne {ms : List Mem} {t : ByteArray} {p : Nat} {f : Bool} (ha : At ms t p f) (hr : Rise ms) (k : Nat) (hk : p < k) (hl : k < ms.length) : (ms.getD k dm).name ≠ t := by
  intro e
  have hp := List.pairwise_iff_getElem.1 hr p k (by omega) hl hk
  have e1 : ms.getD p dm = ms[p] := by simp [List.getD, List.getElem?_eq_getElem (show p < ms.length by omega)]
  have e2 : ms.getD k dm = ms[k] := by simp [List.getD, List.getElem?_eq_getElem hl]
  have h := ha.hi p (Nat.le_refl _) (by omega)
  have : cmpI (ms.getD p dm).name t < 0 := by rw [cmpI_lt, e1, ← e, e2]; exact hp
  omega

theorem hearL_old {ms : List Mem} {m : Mem} {p : Nat} (h : At ms m.name p true) (hn : newM m (ms.getD p dm) = false) : hearL ms m = ms := by
  rw [hearL_at ms m p true h, if_pos rfl, if_neg (by rw [hn]; exact Bool.false_ne_true)]
theorem hearL_ne {ms : List Mem} {m : Mem} {p : Nat} {f : Bool} (h : At ms m.name p f) (hn : f = true → newM m (ms.getD p dm) = true) : hearL ms m ≠ ms := by
  rw [hearL_at ms m p f h]
  cases f
  · intro e
    have := congrArg List.length e
    simp at this
    have := h.le
    omega
  · rw [if_pos rfl, if_pos (hn rfl)]
    intro e
    have hp := (h.is.1 rfl).1
    have h2 : (ms.set p m).getD p dm = m := by simp [List.getD, hp]
    rw [e] at h2
    have h3 := hn rfl
    rw [h2, newM_irrefl] at h3
    cases h3
theorem hearL_out {ms : List Mem} {m : Mem} {p : Nat} {f : Bool} (h : At ms m.name p f) (hn : f = true → newM m (ms.getD p dm) = true) : hearL ms m = ms.take p ++ m :: ms.drop (if f = true then p + 1 else p) := by
  rw [hearL_at ms m p f h]
  cases f
  · simp
  · rw [if_pos rfl, if_pos (hn rfl), if_pos rfl]
    rw [List.set_eq_take_append_cons_drop, if_pos (h.is.1 rfl).1]

end Go.Proofs.Ytcledbejggmfoac
