/- What the document tries; that one of them is it: no program. -/
import Derived.Test.YtadllmoepoehnaaDoorQF
namespace Go.Proofs.YtadllmoepoehnaaDoor
open Go.RowKit

abbrev eB : ByteArray := ⟨#[]⟩
/-- What a name of these labels may be. -/
def mayQ : List ByteArray → List Qu
  | [a, _, _] => [⟨a, eB, eB, eB⟩, ⟨eB, eB, a, eB⟩]
  | [a, b, c, _] => [⟨a, eB, eB, c⟩, ⟨eB, eB, a, c⟩, ⟨b, a, eB, eB⟩]
  | [a, b, _, d, _] => [⟨b, a, eB, d⟩]
  | _ => []
/-- A query that is printed so is among them. -/
theorem may_mem {q : Qu} (h : chkQ q = 0) : q ∈ mayQ (lbs (prt q)) := by
  have hl := lbs_prt h
  obtain ⟨zf, _, _, _, _, _⟩ := chkQ_zero h
  obtain ⟨sv, tg, nd, ce⟩ := q
  have mb : ∀ s : ByteArray, mk (bytes s) = s := mk_data
  unfold frmQ at zf
  simp only at zf
  rw [hl]
  unfold pLabs
  simp only
  by_cases hn : nd.size = 0
  · have hs : sv.size ≠ 0 := fun hs => by simp [hn, hs] at zf
    rw [if_pos hn, opt_full hs]
    have en := isempty hn
    subst en
    by_cases ht : tg.size = 0 <;> by_cases hc : ce.size = 0
    · have et := isempty ht
      have ec := isempty hc
      subst et ec
      rw [opt_none ht]
      simp only [List.nil_append, List.cons_append, List.map_cons, List.map_nil, mb]
      exact List.mem_cons_self
    · have et := isempty ht
      subst et
      rw [opt_none ht, opt_full hc]
      simp only [List.nil_append, List.cons_append, List.map_cons, List.map_nil, mb]
      exact List.mem_cons_self
    · have ec := isempty hc
      subst ec
      rw [opt_full ht, opt_none hc]
      simp only [List.nil_append, List.cons_append, List.map_cons, List.map_nil, mb]
      exact List.mem_cons_of_mem _ (List.mem_cons_of_mem _ List.mem_cons_self)
    · rw [opt_full ht, opt_full hc]
      simp only [List.nil_append, List.cons_append, List.map_cons, List.map_nil, mb]
      exact List.mem_cons_self
  · have hs : sv.size = 0 := by
      by_cases hs : sv.size = 0
      · exact hs
      · simp [hn, hs] at zf
    have ht : tg.size = 0 := by
      by_cases ht : tg.size = 0
      · exact ht
      · simp [hn, hs, ht] at zf
    have es := isempty hs
    have et := isempty ht
    subst es et
    rw [if_neg hn, opt_full hn]
    by_cases hc : ce.size = 0
    · have ec := isempty hc
      subst ec
      rw [opt_none hc]
      simp only [List.nil_append, List.cons_append, List.map_cons, List.map_nil, mb]
      exact List.mem_cons_of_mem _ List.mem_cons_self
    · rw [opt_full hc]
      simp only [List.nil_append, List.cons_append, List.map_cons, List.map_nil, mb]
      exact List.mem_cons_of_mem _ List.mem_cons_self

/-- One that fits is it. -/
theorem may_hit {q : Qu} {s : ByteArray} (h : prE q = 0) (hs : prS q = s) : prsE s = 0 ∧ prsQ s = q := by
  subst hs
  exact back_one h
/-- None fits: there is none. -/
theorem may_none {s : ByteArray} (h0 : chkN s = 0) (hl : lst s = bMesh) (h : ∀ q ∈ mayQ (lbs s), ¬ (prE q = 0 ∧ prS q = s)) : prsE s = 1 ∧ prsQ s = qE := by
  have hn : ¬ (prE (prQ s) = 0 ∧ prS (prQ s) = s) := fun ⟨h1, h2⟩ => by
    have hq : chkQ (prQ s) = 0 := by
      by_cases hq : chkQ (prQ s) = 0
      · exact hq
      · unfold prE at h1; rw [if_neg hq] at h1; exact h1
    have hps : prS (prQ s) = prt (prQ s) := if_pos h1
    have hp : prt (prQ s) = s := hps.symm.trans h2
    have hm := may_mem hq
    rw [hp] at hm
    exact h _ hm ⟨h1, h2⟩
  have he : prsE s = 1 := by unfold prsE; rw [if_pos h0, if_pos hl, if_neg hn]
  exact ⟨he, by unfold prsQ; rw [if_neg (by rw [he]; decide)]⟩

end Go.Proofs.YtadllmoepoehnaaDoor
