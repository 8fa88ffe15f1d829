
/- Names that were met, in a map: plain mathematics. -/
import Derived.Maps.OwnSet
import Derived.WalkKit
namespace Go.Proofs.Ytmjdeacnapoijaa
open Go.RowKit Go.WideMaps Go.Maps

abbrev kS (s : ByteArray) : Lit := .string s.data.toList
theorem kS_key (s : ByteArray) : WideAt.IsKeyLit (kS s) := by simp [WideAt.IsKeyLit]
theorem kS_ne {a b : ByteArray} (h : a ≠ b) : kS a ≠ kS b := fun e => h (by
  have h2 : a.data.toList = b.data.toList := by injection e
  obtain ⟨⟨a⟩⟩ := a
  obtain ⟨⟨b⟩⟩ := b
  simp at h2
  rw [h2])

/-- Where each name was met last, among the first k. -/
def Dm (ns : List ByteArray) : Nat → DataW Unit
  | 0 => .map []
  | k + 1 => (Dm ns k).put (kS (ns.getD k ByteArray.empty)) (.lit (.int .i64 k))
theorem Dm_tidy (ns : List ByteArray) : ∀ k, Tidy (Dm ns k)
  | 0 => tidy_empty
  | k + 1 => (Dm_tidy ns k).put (kS_key _) _
theorem Dm_has (ns : List ByteArray) (s : ByteArray) : ∀ k, Maps.has (Dm ns k) (kS s) = true ↔ ∃ j, j < k ∧ ns.getD j ByteArray.empty = s
  | 0 => by simp [Dm, Maps.has]
  | k + 1 => by
    by_cases h : ns.getD k ByteArray.empty = s
    · subst h
      rw [Dm, has_put_same (Dm_tidy ns k).isMap (kS_key _)]
      exact ⟨fun _ => ⟨k, by omega, rfl⟩, fun _ => rfl⟩
    · rw [Dm, has_put_other (kS_ne (Ne.symm h)), Dm_has ns s k]
      constructor
      · rintro ⟨j, hj, e⟩; exact ⟨j, by omega, e⟩
      · rintro ⟨j, hj, e⟩
        by_cases hjk : j = k
        · subst hjk; exact absurd e h
        · exact ⟨j, by omega, e⟩
theorem Dm_step (ns : List ByteArray) (k : Nat) : Maps.size (Dm ns (k + 1)) = if Maps.has (Dm ns k) (kS (ns.getD k ByteArray.empty)) = true then Maps.size (Dm ns k) else Maps.size (Dm ns k) + 1 := by
  rw [Dm, size_put (Dm_tidy ns k)]
theorem Dm_size_le (ns : List ByteArray) : ∀ k, Maps.size (Dm ns k) ≤ k
  | 0 => by simp [Dm, Maps.size]
  | k + 1 => by
    have := Dm_size_le ns k
    rw [Dm_step]
    split <;> omega
theorem Dm_size_eq (ns : List ByteArray) : ∀ k, (∀ i j, i < j → j < k → ns.getD i ByteArray.empty ≠ ns.getD j ByteArray.empty) → Maps.size (Dm ns k) = k
  | 0, _ => by simp [Dm, Maps.size]
  | k + 1, h => by
    have h1 := Dm_size_eq ns k (fun i j hi hj => h i j hi (by omega))
    have h2 : ¬ Maps.has (Dm ns k) (kS (ns.getD k ByteArray.empty)) = true := by
      rw [Dm_has]
      rintro ⟨j, hj, e⟩
      exact h j k hj (by omega) e
    rw [Dm_step, if_neg h2, h1]
theorem Dm_size_lt (ns : List ByteArray) : ∀ k, (∃ i j, i < j ∧ j < k ∧ ns.getD i ByteArray.empty = ns.getD j ByteArray.empty) → Maps.size (Dm ns k) < k
  | 0, ⟨i, j, _, hj, _⟩ => by omega
  | k + 1, ⟨i, j, hij, hj, e⟩ => by
    rw [Dm_step]
    by_cases hjk : j = k
    · subst hjk
      rw [if_pos ((Dm_has ns _ j).2 ⟨i, hij, e⟩)]
      have := Dm_size_le ns j
      omega
    · have := Dm_size_lt ns k ⟨i, j, hij, by omega, e⟩
      split <;> omega
theorem Dm_at (ns : List ByteArray) (s : ByteArray) (z : DataW Unit) : ∀ k j, j < k → ns.getD j ByteArray.empty = s → (∀ i, j < i → i < k → ns.getD i ByteArray.empty ≠ s) → (Dm ns k).atKey (kS s) z = .lit (.int .i64 j)
  | 0, j, hj, _, _ => by omega
  | k + 1, j, hj, e, h => by
    by_cases hjk : j = k
    · subst hjk
      subst e
      rw [Dm, atKey_put_same (Dm_tidy ns j).isMap (kS_key _)]
    · rw [Dm, atKey_put_other (kS_ne (fun x => h k (by omega) (by omega) x.symm))]
      exact Dm_at ns s z k j (by omega) e (fun i hi hk => h i hi (by omega))

end Go.Proofs.Ytmjdeacnapoijaa
