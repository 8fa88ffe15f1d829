
/- The document's way to whose turn it is: the least of those not yet taken. -/
import Derived.Test.YtdcekfbejjjkkaaRU17
namespace Go.Proofs.Ytdcekfbejjjkkaa
open Go.RowKit

/-- What the document's search has found among the first i places. -/
def BestIs (rs : List Rum) (T : List Nat) (i : Nat) (b : Int) : Prop :=
  (b = -1 ∧ ∀ j, j < i → j ∈ T) ∨ ∃ p : Nat, b = p ∧ p < i ∧ p ∉ T ∧ ∀ j, j < i → j ∉ T → j ≠ p → cfR rs p j < 0

theorem BestIs.start (rs : List Rum) (T : List Nat) : BestIs rs T 0 (-1) := .inl ⟨rfl, fun j hj => by omega⟩
theorem BestIs.taken {rs : List Rum} {T : List Nat} {i : Nat} {b : Int} (h : BestIs rs T i b) (hi : i ∈ T) : BestIs rs T (i + 1) b := by
  rcases h with ⟨e, h⟩ | ⟨p, e, hp, hT, h⟩
  · refine .inl ⟨e, fun j hj => ?_⟩
    by_cases hji : j = i
    · subst hji; exact hi
    · exact h j (by omega)
  · refine .inr ⟨p, e, by omega, hT, fun j hj hjT hjp => ?_⟩
    by_cases hji : j = i
    · subst hji; exact absurd hi hjT
    · exact h j (by omega) hjT hjp
theorem BestIs.first {rs : List Rum} {T : List Nat} {i : Nat} (h : BestIs rs T i (-1)) (hi : i ∉ T) : BestIs rs T (i + 1) (i : Nat) := by
  rcases h with ⟨_, h⟩ | ⟨p, e, _⟩
  · refine .inr ⟨i, rfl, by omega, hi, fun j hj hjT hjp => absurd (h j (by omega)) hjT⟩
  · omega
theorem BestIs.turn {rs : List Rum} {T : List Nat} {i p : Nat} (h : BestIs rs T i (p : Nat)) (hi : i ∉ T) (hle : (rs.getD i dr).told ≤ (rs.getD p dr).told) : BestIs rs T (i + 1) (i : Nat) := by
  rcases h with ⟨e, _⟩ | ⟨p', e, hp, hT, h⟩
  · omega
  · have : p' = p := by omega
    subst this
    refine .inr ⟨i, rfl, by omega, hi, fun j hj hjT hji => ?_⟩
    rw [cfR_neg]
    by_cases hjp : j = p'
    · subst hjp; omega
    · have h2 := h j (by omega) hjT hjp
      rw [cfR_neg] at h2
      omega
theorem BestIs.stay {rs : List Rum} {T : List Nat} {i p : Nat} (h : BestIs rs T i (p : Nat)) (hlt : (rs.getD p dr).told < (rs.getD i dr).told) : BestIs rs T (i + 1) (p : Nat) := by
  rcases h with ⟨e, _⟩ | ⟨p', e, hp, hT, h⟩
  · omega
  · have : p' = p := by omega
    subst this
    refine .inr ⟨p', rfl, by omega, hT, fun j hj hjT hjp => ?_⟩
    by_cases hji : j = i
    · subst hji; rw [cfR_neg]; exact .inl hlt
    · exact h j (by omega) hjT hjp

/-- .. at the end it is the one whose turn it is. -/
theorem BestIs.done {rs : List Rum} {ord : List Nat} {k : Nat} {b : Int} (ho : IsOrd rs ord) (hk : k < rs.length) (h : BestIs rs (ord.take k) rs.length b) : b = (ord.getD k 0 : Nat) := by
  have hf := ho.fresh hk
  have hl := ho.lt hk
  rcases h with ⟨_, h⟩ | ⟨p, rfl, hp, hT, h⟩
  · exact absurd (h _ hl) hf
  · by_cases hpe : ord.getD k 0 = p
    · rw [hpe]
    · exfalso
      have h1 := h _ hl hf hpe
      obtain ⟨j, hj, e⟩ := List.getElem_of_mem (ho.all p hp)
      have hjk : ¬ j < k := fun hjk => hT (by rw [← e]; exact List.mem_take_iff_getElem.2 ⟨j, by omega, rfl⟩)
      have hne : j ≠ k := fun hh => by subst hh; rw [ord_get hj] at hpe; exact hpe e
      have h2 := ho.less k j (by omega) hj
      rw [ord_get hj, e] at h2
      rw [cfR_neg] at h1 h2
      omega

end Go.Proofs.Ytdcekfbejjjkkaa
