/- What is printed is parsed as it was: no program. -/
import Derived.Test.YtadllmoepoehnaaDoorQD
namespace Go.Proofs.YtadllmoepoehnaaDoor
open Go.RowKit

theorem jB_one (x : ByteArray) : jB [x] = x := mk_data x
theorem jB_nil : jB [] = ⟨#[]⟩ := rfl
theorem wd_of3 {x : ByteArray} (h : isW3 x = false) : isWd x = false := by
  have h2 := fun e => (Bool.eq_false_iff.1 h) ((isW3_iff x).2 e)
  simp only [isWd, Bool.or_eq_false_iff, decide_eq_false_iff_not]
  exact ⟨fun e => h2 (.inl e), fun e => h2 (.inr (.inl e))⟩
theorem wd_of2 {x : ByteArray} (h : isW2 x = false) : isWd x = false := by
  have h2 := fun e => (Bool.eq_false_iff.1 h) ((isW2_iff x).2 e)
  simp only [isWd, Bool.or_eq_false_iff, decide_eq_false_iff_not]
  exact ⟨fun e => h2 (.inl e), fun e => h2 (.inr e)⟩
theorem wd_serv : isWd bServ = true := by simp [isWd]
theorem wd_node : isWd bNode = true := by simp [isWd]
theorem free_of {s : ByteArray} (h : labE s = true) (h0 : s.size ≠ 0) : 46 ∉ bytes s := by
  have h1 : labB s = true := by
    unfold labE at h
    simp only [Bool.or_eq_true, decide_eq_true_eq] at h
    rcases h with rfl | h
    · exact absurd rfl h0
    · exact h
  exact labL_free (l := bytes s) (by unfold labL; rw [show mk (bytes s) = s from mk_data s]; exact h1)
theorem opt_free {s : ByteArray} (h : labE s = true) : ∀ x ∈ opt s, 46 ∉ x := fun x hx => by
  unfold opt at hx
  by_cases h0 : s.size = 0
  · rw [if_pos h0] at hx; cases hx
  · rw [if_neg h0, List.mem_singleton] at hx
    subst hx
    exact free_of h h0
theorem lbs_prt {q : Qu} (h : chkQ q = 0) : lbs (prt q) = (pLabs q).map mk := by
  obtain ⟨_, z1, z2, z3, z4, _⟩ := chkQ_zero h
  unfold lbs prt
  rw [data_mk, spl_jn]
  · unfold pLabs; split <;> simp
  · intro x hx
    unfold pLabs at hx
    split at hx
    · simp only [List.mem_append, List.mem_singleton] at hx
      rcases hx with h | h | h | h | h
      · exact opt_free z2 x h
      · exact opt_free z1 x h
      · subst h; decide
      · exact opt_free z4 x h
      · subst h; decide
    · simp only [List.mem_append, List.mem_singleton] at hx
      rcases hx with h | h | h | h
      · exact opt_free z3 x h
      · subst h; decide
      · exact opt_free z4 x h
      · subst h; decide

theorem back_core {q : Qu} (h : chkQ q = 0) : lst (prt q) = bMesh ∧ prQ (prt q) = q := by
  have hl := lbs_prt h
  obtain ⟨zf, _, _, _, _, zw⟩ := chkQ_zero h
  obtain ⟨sv, tg, nd, ce⟩ := q
  have hw : isW2 nd = false ∧ isW3 tg = false ∧ isW3 sv = false ∧ isW3 ce = false := by
    have h2 : (isW2 nd || isW3 tg || isW3 sv || isW3 ce) = false := zw
    simpa [Bool.or_eq_false_iff, and_assoc] using h2
  obtain ⟨w1, w2, w3, _⟩ := hw
  have d1 := wd_of2 w1
  have d2 := wd_of3 w2
  have d3 := wd_of3 w3
  have sn : ¬ bServ = bNode := by decide
  have m1 : mk lServ = bServ := rfl
  have m2 : mk lMesh = bMesh := rfl
  have m3 : mk lNode = bNode := rfl
  have mb : ∀ s : ByteArray, mk (bytes s) = s := mk_data
  unfold frmQ at zf
  simp only at zf
  unfold lst prQ
  rw [hl]
  unfold pLabs
  simp only
  by_cases hn : nd.size = 0
  · have hs : sv.size ≠ 0 := fun hs => by simp [hn, hs] at zf
    rw [if_pos hn, opt_full hs]
    have en := isempty hn
    subst en
    by_cases ht : tg.size = 0 <;> by_cases hc : ce.size = 0
    · have et := isempty ht
      have ec := isempty hc
      subst et ec
      rw [opt_none ht]
      simp only [List.nil_append, List.cons_append, List.map_cons, List.map_nil, m1, m2, mb]
      refine ⟨rfl, ?_⟩
      show gss [sv, bServ] = _
      have hwa : wAt [sv, bServ] = 1 := by simp [wAt, Lib.idxBy, Lib.idxByFrom, d3, wd_serv]
      unfold gss
      rw [hwa, if_neg (by decide)]
      refine (if_neg ?hh).trans ?_
      case hh => exact sn
      rfl
    · have et := isempty ht
      subst et
      rw [opt_none ht, opt_full hc]
      simp only [List.nil_append, List.cons_append, List.map_cons, List.map_nil, m1, m2, mb]
      refine ⟨rfl, ?_⟩
      show gss [sv, bServ, ce] = _
      have hwa : wAt [sv, bServ, ce] = 1 := by simp [wAt, Lib.idxBy, Lib.idxByFrom, d3, wd_serv]
      unfold gss
      rw [hwa, if_neg (by decide)]
      refine (if_neg ?hh).trans ?_
      case hh => exact sn
      show Qu.mk sv (jB []) ⟨#[]⟩ (jB [ce]) = _
      rw [jB_one]; rfl
    · have ec := isempty hc
      subst ec
      rw [opt_full ht, opt_none hc]
      simp only [List.nil_append, List.cons_append, List.map_cons, List.map_nil, m1, m2, mb]
      refine ⟨rfl, ?_⟩
      show gss [tg, sv, bServ] = _
      have hwa : wAt [tg, sv, bServ] = 2 := by simp [wAt, Lib.idxBy, Lib.idxByFrom, d2, d3, wd_serv]
      unfold gss
      rw [hwa, if_neg (by decide)]
      refine (if_neg ?hh).trans ?_
      case hh => exact sn
      show Qu.mk sv (jB [tg]) ⟨#[]⟩ (jB []) = _
      rw [jB_one]; rfl
    · rw [opt_full ht, opt_full hc]
      simp only [List.nil_append, List.cons_append, List.map_cons, List.map_nil, m1, m2, mb]
      refine ⟨rfl, ?_⟩
      show gss [tg, sv, bServ, ce] = _
      have hwa : wAt [tg, sv, bServ, ce] = 2 := by simp [wAt, Lib.idxBy, Lib.idxByFrom, d2, d3, wd_serv]
      unfold gss
      rw [hwa, if_neg (by decide)]
      refine (if_neg ?hh).trans ?_
      case hh => exact sn
      show Qu.mk sv (jB [tg]) ⟨#[]⟩ (jB [ce]) = _
      rw [jB_one, jB_one]
  · have hs : sv.size = 0 := by
      by_cases hs : sv.size = 0
      · exact hs
      · simp [hn, hs] at zf
    have ht : tg.size = 0 := by
      by_cases ht : tg.size = 0
      · exact ht
      · simp [hn, hs, ht] at zf
    have es := isempty hs
    have et := isempty ht
    subst es et
    rw [if_neg hn, opt_full hn]
    by_cases hc : ce.size = 0
    · have ec := isempty hc
      subst ec
      rw [opt_none hc]
      simp only [List.nil_append, List.cons_append, List.map_cons, List.map_nil, m2, m3, mb]
      refine ⟨rfl, ?_⟩
      show gss [nd, bNode] = _
      have hwa : wAt [nd, bNode] = 1 := by simp [wAt, Lib.idxBy, Lib.idxByFrom, d1, wd_node]
      unfold gss
      rw [hwa, if_neg (by decide)]
      refine (if_pos ?hh).trans ?_
      case hh => exact rfl
      rfl
    · rw [opt_full hc]
      simp only [List.nil_append, List.cons_append, List.map_cons, List.map_nil, m2, m3, mb]
      refine ⟨rfl, ?_⟩
      show gss [nd, bNode, ce] = _
      have hwa : wAt [nd, bNode, ce] = 1 := by simp [wAt, Lib.idxBy, Lib.idxByFrom, d1, wd_node]
      unfold gss
      rw [hwa, if_neg (by decide)]
      refine (if_pos ?hh).trans ?_
      case hh => exact rfl
      show Qu.mk ⟨#[]⟩ ⟨#[]⟩ nd (jB [ce]) = _
      rw [jB_one]

/-- What is printed is parsed as it was. -/
theorem back_one {q : Qu} (h : prE q = 0) : prsE (prS q) = 0 ∧ prsQ (prS q) = q := by
  have hs : prS q = prt q := if_pos h
  have hq : chkQ q = 0 := by
    unfold prE at h
    by_cases h0 : chkQ q = 0
    · exact h0
    · rw [if_neg h0] at h; exact h
  have hn : chkN (prt q) = 0 := by unfold prE at h; rwa [if_pos hq] at h
  obtain ⟨h1, h2⟩ := back_core hq
  have he : prsE (prt q) = 0 := by
    unfold prsE
    rw [if_pos hn, if_pos h1, h2, if_pos ⟨h, hs⟩]
  rw [hs]
  refine ⟨he, ?_⟩
  unfold prsQ
  rw [if_pos he, h2]
/-- What is parsed is printed as it was. -/
theorem back_two {s : ByteArray} (h : prsE s = 0) : prE (prsQ s) = 0 ∧ prS (prsQ s) = s := by
  have hq : prsQ s = prQ s := if_pos h
  rw [hq]
  unfold prsE at h
  by_cases h0 : chkN s = 0
  · rw [if_pos h0] at h
    by_cases h1 : lst s = bMesh
    · rw [if_pos h1] at h
      by_cases h2 : prE (prQ s) = 0 ∧ prS (prQ s) = s
      · exact h2
      · rw [if_neg h2] at h; omega
    · rw [if_neg h1] at h; omega
  · rw [if_neg h0] at h; exact absurd h h0

end Go.Proofs.YtadllmoepoehnaaDoor
