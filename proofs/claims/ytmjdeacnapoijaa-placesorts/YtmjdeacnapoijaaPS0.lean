
/- Lists that are sorted by a strict order, in one way alone; insertion. -/
import Derived.WalkKit
import Derived.Sort.Statements
namespace Go.Proofs.Ytmjdeacnapoijaa
namespace So
open Go.Sort

section
variable {α : Type}

/-- No later one is less than an earlier one. -/
abbrev Up (lt : α → α → Bool) (l : List α) : Prop := l.Pairwise fun a b => lt b a = false

theorem up_eq {lt : α → α → Bool} (ha : ∀ a b, lt a b = false → lt b a = false → a = b) : ∀ {l m : List α}, l.Perm m → Up lt l → Up lt m → l = m
  | [], m, hp, _, _ => (List.Perm.nil_eq hp)
  | a :: l, [], hp, _, _ => by have := hp.length_eq; simp at this
  | a :: l, b :: m, hp, h1, h2 => by
    have h1' := List.pairwise_cons.1 h1
    have h2' := List.pairwise_cons.1 h2
    have hab : a = b := by
      have m1 : a ∈ b :: m := hp.mem_iff.1 (List.mem_cons_self ..)
      have m2 : b ∈ a :: l := hp.mem_iff.2 (List.mem_cons_self ..)
      rcases List.mem_cons.1 m1 with e | e
      · exact e
      · rcases List.mem_cons.1 m2 with f | f
        · exact f.symm
        · exact ha a b (h2'.1 a e) (h1'.1 b f)
    subst hab
    rw [up_eq ha (List.Perm.cons_inv hp) h1'.2 h2'.2]

/-- How many of the first ones are not behind x. -/
def pos (lt : α → α → Bool) (x : α) : List α → Nat
  | [] => 0
  | y :: r => if lt x y = false then pos lt x r + 1 else 0
theorem pos_le (lt : α → α → Bool) (x : α) : ∀ l : List α, pos lt x l ≤ l.length
  | [] => Nat.le_refl _
  | y :: r => by rw [pos]; split <;> simp [pos_le lt x r]
def ins (lt : α → α → Bool) (x : α) (l : List α) : List α := l.take (pos lt x l) ++ x :: l.drop (pos lt x l)
theorem pos_lt {lt : α → α → Bool} {x d : α} : ∀ {l : List α} {k : Nat}, k < pos lt x l → lt x (l.getD k d) = false
  | [], k, h => by simp [pos] at h
  | y :: r, k, h => by
    rw [pos] at h
    split at h
    · rename_i hy
      cases k with
      | zero => simpa using hy
      | succ k => have := pos_lt (lt := lt) (x := x) (d := d) (l := r) (k := k) (by omega); simpa using this
    · omega
theorem pos_at {lt : α → α → Bool} {x d : α} : ∀ {l : List α}, pos lt x l < l.length → lt x (l.getD (pos lt x l) d) = true
  | [], h => by simp [pos] at h
  | y :: r, h => by
    by_cases hy : lt x y = false
    · have e : pos lt x (y :: r) = pos lt x r + 1 := by rw [pos, if_pos hy]
      rw [e] at h ⊢
      have := pos_at (lt := lt) (x := x) (d := d) (l := r) (by simpa using h)
      simpa using this
    · have e : pos lt x (y :: r) = 0 := by rw [pos, if_neg hy]
      rw [e]
      simpa using hy
/-- The first place where x is less, if those ahead of it are not behind x. -/
theorem pos_is {lt : α → α → Bool} {x d : α} {l : List α} {k : Nat} (hk : k ≤ l.length) (h1 : ∀ j, j < k → lt x (l.getD j d) = false) (h2 : k < l.length → lt x (l.getD k d) = true) : pos lt x l = k := by
  rcases Nat.lt_trichotomy (pos lt x l) k with h | h | h
  · have h3 := pos_at (lt := lt) (x := x) (d := d) (l := l) (by omega)
    rw [h1 _ h] at h3
    cases h3
  · exact h
  · have h3 := pos_lt (lt := lt) (x := x) (d := d) h
    have h4 := h2 (by have := pos_le lt x l; omega)
    rw [h3] at h4
    cases h4
theorem ins_perm (lt : α → α → Bool) (x : α) (l : List α) : (ins lt x l).Perm (x :: l) := by
  unfold ins
  refine List.perm_middle.trans ?_
  rw [List.take_append_drop]
theorem ins_cons (lt : α → α → Bool) (x y : α) (r : List α) : ins lt x (y :: r) = if lt x y = false then y :: ins lt x r else x :: y :: r := by
  unfold ins
  by_cases h : lt x y = false
  · rw [if_pos h, pos, if_pos h]; rfl
  · rw [if_neg h, pos, if_neg h]; rfl
theorem ins_up {lt : α → α → Bool} (hs : SWO lt) (x : α) : ∀ {l : List α}, Up lt l → Up lt (ins lt x l)
  | [], _ => by simp [ins, pos]
  | y :: r, h => by
    have h' := List.pairwise_cons.1 h
    rw [ins_cons]
    split
    · rename_i hy
      refine List.pairwise_cons.2 ⟨fun z hz => ?_, ins_up hs x h'.2⟩
      rcases List.mem_cons.1 ((ins_perm lt x r).mem_iff.1 hz) with rfl | hz
      · exact hy
      · exact h'.1 z hz
    · rename_i hy
      have hy' : lt x y = true := by simpa using hy
      have hyx : lt y x = false := by
        cases h2 : lt y x
        · rfl
        · have := hs.trans x y x hy' h2
          rw [hs.irrefl x] at this
          cases this
      refine List.pairwise_cons.2 ⟨fun z hz => ?_, h⟩
      rcases List.mem_cons.1 hz with rfl | hz
      · exact hyx
      · exact hs.ntrans z y x (h'.1 z hz) hyx
def insAll (lt : α → α → Bool) (l : List α) : List α := l.foldl (fun out x => ins lt x out) []
theorem insAll_snoc (lt : α → α → Bool) (l : List α) (k : Nat) (d : α) (hk : k < l.length) : insAll lt (l.take (k + 1)) = ins lt (l.getD k d) (insAll lt (l.take k)) := by
  rw [List.take_succ_eq_append_getElem hk, insAll, List.foldl_append]
  simp [List.getD, List.getElem?_eq_getElem hk, insAll]
theorem insAll_ok {lt : α → α → Bool} (hs : SWO lt) (l : List α) : ∀ k, Up lt (insAll lt (l.take k)) ∧ (insAll lt (l.take k)).Perm (l.take k)
  | 0 => by simp [insAll]
  | k + 1 => by
    obtain ⟨h1, h2⟩ := insAll_ok hs l k
    by_cases hk : k < l.length
    · rw [insAll_snoc lt l k l[k] hk]
      refine ⟨ins_up hs _ h1, (ins_perm _ _ _).trans ?_⟩
      rw [List.take_succ_eq_append_getElem hk]
      have e : l.getD k l[k] = l[k] := by simp [List.getD, List.getElem?_eq_getElem hk]
      rw [e]
      exact (List.Perm.cons _ h2).trans (List.perm_append_singleton _ _).symm
    · rw [List.take_of_length_le (by omega)]
      rw [List.take_of_length_le (by omega)] at h1 h2
      exact ⟨h1, h2⟩
theorem insAll_len (lt : α → α → Bool) (l : List α) (hs : SWO lt) (k : Nat) (hk : k ≤ l.length) : (insAll lt (l.take k)).length = k := by
  rw [(insAll_ok hs l k).2.length_eq, List.length_take]; omega

/-- What is sorted, whatever way, is sorted by insertion. -/
theorem insAll_eq {lt : α → α → Bool} (hs : SWO lt) (ha : ∀ a b, lt a b = false → lt b a = false → a = b) {l m : List α} (hp : m.Perm l) (hu : Up lt m) : m = insAll lt l := by
  obtain ⟨h1, h2⟩ := insAll_ok hs l l.length
  rw [List.take_length] at h1 h2
  exact up_eq ha (hp.trans h2.symm) hu h1
end

/-- By how far, then by name. -/
def cfD (D : ByteArray → Int) (cmp : ByteArray → ByteArray → Int) (a b : ByteArray) : Int := if D a < D b then -1 else if D b < D a then 1 else cmp a b

end So
end Go.Proofs.Ytmjdeacnapoijaa
