/- What was registered is found, what was dropped is not, others stay: of plain lists. -/
import Derived.Test.YtjpcngkddejdjafSKSD
import Derived.Test.YtjpcngkddejdjafSK9
namespace Go.Proofs.Ytjpcngkddejdjaf
namespace Sv
open Go.RowKit

theorem idx_mem {l : List Svc} {x : Svc} (h : x ∈ l) : ∃ k, k < l.length ∧ l.getD k dm = x := by
  obtain ⟨k, hk, rfl⟩ := List.getElem_of_mem h
  exact ⟨k, hk, by simp [List.getD, List.getElem?_eq_getElem hk]⟩
theorem mem_idx {l : List Svc} {k : Nat} (h : k < l.length) : l.getD k dm ∈ l := by
  simp [List.getD, List.getElem?_eq_getElem h]

theorem rise_uniq {l : List Svc} (hr : Rise l) {a b : Svc} (ha : a ∈ l) (hb : b ∈ l) (h : ord a b = 0) : a = b := by
  obtain ⟨i, hi, rfl⟩ := idx_mem ha
  obtain ⟨j, hj, rfl⟩ := idx_mem hb
  have h1 := RL.at_of ord dm keyed hr hi h
  have h2 := RL.at_of ord dm keyed hr hj (keyed.refl (l.getD j dm))
  obtain ⟨rfl, _⟩ := at_uniq h1 h2
  rfl

theorem put_new {ms : List Svc} {m : Svc} {p : Nat} {f : Bool} : m ∈ RL.put ms m p f := by simp [RL.put]
theorem put_at {ms : List Svc} {m : Svc} {p : Nat} {f : Bool} (hp : p ≤ ms.length) : p < (RL.put ms m p f).length ∧ (RL.put ms m p f).getD p dm = m := by
  unfold RL.put
  constructor
  · simp only [List.length_append, List.length_cons, List.length_take]; omega
  · rw [List.getD, List.getElem?_append_right (by rw [List.length_take]; omega)]
    simp [Nat.min_eq_left hp]
theorem put_old {ms : List Svc} {m : Svc} {p : Nat} {f : Bool} (hat : At ms m p f) {j : Nat} (hj : j < ms.length) (hne : ord (ms.getD j dm) m ≠ 0) : ms.getD j dm ∈ RL.put ms m p f := by
  have he : ms.getD j dm = ms[j] := by simp [List.getD, List.getElem?_eq_getElem hj]
  unfold RL.put
  rcases Nat.lt_trichotomy j p with h | h | h
  · refine List.mem_append.2 (.inl ?_)
    rw [he]
    have : (ms.take p)[j]'(by rw [List.length_take]; omega) = ms[j] := List.getElem_take
    rw [← this]; exact List.getElem_mem _
  · have hf : f = false := by
      cases f
      · rfl
      · subst h; exact absurd (hat.is.1 rfl).2 hne
    subst hf
    refine List.mem_append.2 (.inr (List.mem_cons.2 (.inr ?_)))
    rw [he, if_neg Bool.false_ne_true, List.mem_iff_getElem]
    exact ⟨0, by simp; omega, by simp [h]⟩
  · refine List.mem_append.2 (.inr (List.mem_cons.2 (.inr ?_)))
    rw [he, List.mem_iff_getElem]
    cases f
    · exact ⟨j - p, by simp; omega, by simp [Nat.add_sub_cancel' (Nat.le_of_lt h)]⟩
    · refine ⟨j - (p + 1), by simp; omega, ?_⟩
      have h2 : p + 1 + (j - (p + 1)) = j := by omega
      simp [h2]

theorem joinL_self {a : List Svc} (h : Rise a) : joinL a a = a := joinL_absorb (b := []) h List.Pairwise.nil
theorem joinL_twice {a : List Svc} {d : Svc} (h : Rise a) : joinL a (joinL a [d]) = joinL a [d] := by
  rw [← joinL_assoc h h (List.pairwise_singleton _ _), joinL_self h]

section
variable {ms : List Svc} {s : Svc} {p : Nat} {f : Bool}

theorem reg_chk (h0 : chk ms = 0) (hat : At ms (keyOf s) p f) (hr : regE ms p f s = 0) : chk (RL.put ms (reg ms p f s) p f) = 0 := by
  obtain ⟨h1, h2⟩ := reg_join h0 hat
  rw [← h2]
  exact joinE_right (h1.trans hr)
theorem reg_e0 (h0 : chk ms = 0) (hat : At ms (keyOf s) p f) (hr : regE ms p f s = 0) : (reg ms p f s).e = 0 := firstE_mem _ (chk_zero (reg_chk h0 hat hr)).2.2 _ put_new
theorem reg_findE (h0 : chk ms = 0) (hat : At ms (keyOf s) p f) (hr : regE ms p f s = 0) : findE s.name s.tag = 0 := by
  obtain ⟨_, _, h1, h2, _⟩ := e_zero (reg_e0 h0 hat hr)
  have h1' : labB s.name = true := h1
  have h2' : tagB s.tag = true := h2
  simp [findE, h1', h2']
theorem reg_found (_h0 : chk ms = 0) (_hat : At ms (keyOf s) p f) (_hr : regE ms p f s = 0) (hp : s.passing = true) : ∃ k, k < (findL (RL.put ms (reg ms p f s) p f) s.name s.tag).length ∧ (findL (RL.put ms (reg ms p f s) p f) s.name s.tag).getD k dm = reg ms p f s := by
  apply idx_mem
  refine List.mem_filter.2 ⟨put_new, ?_⟩
  show ((s.name.toList == s.name.toList) && ((s.tag.toList == []) || (s.tag.toList == s.tag.toList)) && s.passing && !false) = true
  simp [hp]
theorem reg_others (_h0 : chk ms = 0) (hat : At ms (keyOf s) p f) (_hr : regE ms p f s = 0) {j : Nat} (hj : j < ms.length) (hne : ¬ ((ms.getD j dm).node = s.node ∧ (ms.getD j dm).idn = s.idn)) : ∃ k, k < (RL.put ms (reg ms p f s) p f).length ∧ (RL.put ms (reg ms p f s) p f).getD k dm = ms.getD j dm :=
  idx_mem (put_old (at_key (s := keyOf s) (t := reg ms p f s) rfl rfl hat) hj (fun h => hne (ord_zero.1 h)))
theorem reg_at (h0 : chk ms = 0) (hat : At ms (keyOf s) p f) (hr : regE ms p f s = 0) : At (RL.put ms (reg ms p f s) p f) (keyOf s) p true := by
  obtain ⟨h1, h2⟩ := put_at (ms := ms) (m := reg ms p f s) (f := f) hat.le
  exact RL.at_of ord dm keyed (chk_zero (reg_chk h0 hat hr)).2.1 h1 (ord_zero.2 (by rw [h2]; exact ⟨rfl, rfl⟩))
theorem reg_fnd (_h0 : chk ms = 0) (hat : At ms (keyOf s) p f) (_hr : regE ms p f s = 0) : fnd (RL.put ms (reg ms p f s) p f) p true = reg ms p f s := by
  rw [fnd, if_pos rfl]; exact (put_at hat.le).2
theorem reg_dropE (h0 : chk ms = 0) (hat : At ms (keyOf s) p f) (hr : regE ms p f s = 0) : dropE (RL.put ms (reg ms p f s) p f) p true s.node s.idn = setE (RL.put ms (reg ms p f s) p f) p true (goneS (reg ms p f s)) := by
  obtain ⟨h1, h2, _⟩ := e_zero (reg_e0 h0 hat hr)
  have h1' : labB s.node = true := h1
  have h2' : labB s.idn = true := h2
  unfold dropE
  rw [reg_fnd h0 hat hr, h1', h2']
  rfl
theorem reg_drop (h0 : chk ms = 0) (hat : At ms (keyOf s) p f) (hr : regE ms p f s = 0) : dropE (RL.put ms (reg ms p f s) p f) p true s.node s.idn = 0 ∨ dropE (RL.put ms (reg ms p f s) p f) p true s.node s.idn = 3 := by
  rw [reg_dropE h0 hat hr]
  unfold setE
  have ha := reg_at h0 hat hr
  have hl := (chk_zero (reg_chk h0 hat hr)).1
  rw [RL.put_len ord dm (at_key (s := keyOf s) (t := setS (RL.put ms (reg ms p f s) p f) p true (goneS (reg ms p f s))) rfl rfl ha), if_pos (rfl : true = true)]
  split
  · left; rw [if_neg (by omega)]
  · right; rfl
theorem reg_dropped (h0 : chk ms = 0) (hat : At ms (keyOf s) p f) (hr : regE ms p f s = 0) (hd : dropE (RL.put ms (reg ms p f s) p f) p true s.node s.idn = 0) :
    joinE (RL.put ms (reg ms p f s) p f) (RL.put (RL.put ms (reg ms p f s) p f) (drp (RL.put ms (reg ms p f s) p f) p true) p true) = 0 ∧
    jx (RL.put ms (reg ms p f s) p f) (RL.put (RL.put ms (reg ms p f s) p f) (drp (RL.put ms (reg ms p f s) p f) p true) p true) = RL.put (RL.put ms (reg ms p f s) p f) (drp (RL.put ms (reg ms p f s) p f) p true) p true ∧
    chk (RL.put (RL.put ms (reg ms p f s) p f) (drp (RL.put ms (reg ms p f s) p f) p true) p true) = 0 ∧
    (∀ r, AtI (findL (RL.put (RL.put ms (reg ms p f s) p f) (drp (RL.put ms (reg ms p f s) p f) p true) p true) s.name s.tag) s.node s.idn r → r = -1) := by
  have hx := reg_chk h0 hat hr
  have ha := reg_at h0 hat hr
  have hf := reg_fnd h0 hat hr
  rw [reg_dropE h0 hat hr] at hd
  have hd : setE (RL.put ms (reg ms p f s) p f) p true (goneS (fnd (RL.put ms (reg ms p f s) p f) p true)) = 0 := by rw [hf]; exact hd
  obtain ⟨h1, h2⟩ := drp_join hx ha
  have hk : (drp (RL.put ms (reg ms p f s) p f) p true).node = s.node ∧ (drp (RL.put ms (reg ms p f s) p f) p true).idn = s.idn := by
    show (fnd _ p true).node = s.node ∧ (fnd _ p true).idn = s.idn
    rw [hf]; exact ⟨rfl, rfl⟩
  generalize RL.put ms (reg ms p f s) p f = x at *
  have hy : chk (RL.put x (drp x p true) p true) = 0 := by rw [← h2]; exact joinE_right (h1.trans hd)
  have hj : joinL x (RL.put x (drp x p true) p true) = RL.put x (drp x p true) p true := by rw [← h2]; exact joinL_twice (chk_zero hx).2.1
  have he : joinE x (RL.put x (drp x p true) p true) = 0 := joinE_mk hx hy (by rw [hj]; exact (chk_zero hy).1)
  refine ⟨he, by rw [jx, if_pos he, hj], hy, ?_⟩
  rintro r (⟨k, hk2, rfl, hn, hi⟩ | ⟨h, _⟩)
  · exfalso
    have hm := List.mem_filter.1 (mem_idx hk2)
    have hu := rise_uniq (chk_zero hy).2.1 hm.1 put_new (ord_zero.2 ⟨hn.trans hk.1.symm, hi.trans hk.2.symm⟩)
    have h3 := hm.2
    rw [hu] at h3
    have h4 : (drp x p true).gone = true := rfl
    simp [keep, h4] at h3
  · exact h
end

end Sv
end Go.Proofs.Ytjpcngkddejdjaf
