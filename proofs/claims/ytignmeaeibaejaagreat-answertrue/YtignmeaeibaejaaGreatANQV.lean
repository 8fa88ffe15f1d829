
/- AnswerTrue: each record is one of a service; plain. -/
import Derived.Test.YtignmeaeibaejaaGreatV24
import Derived.Test.YtignmeaeibaejaaGreatV21
namespace Go.Proofs.YtignmeaeibaejaaGreat
open Go.RowKit

/-- Is a service one of a record's address, kept by the query, on a node that is not out? -/
def okS (q : Qu) (ms : List Mem) (ra : Int) (s : Sv.Svc) : Bool := (s.addr == ra) && Sv.keep q.service q.tag s && decide ((mOf ms s.node).state < 3)
theorem in_state {ms : List Mem} {t : ByteArray} (hc : chk ms = 0) (ho : outB ms t = false) : (mOf ms t).state < 3 := by
  cases h : fstM ms t with
  | none => rw [mOf_none h]; decide
  | some m =>
    have h2 : m.e = 0 := firstE_mem0 (chk_zero hc).2.2 m (fstM_mem h).1
    unfold outB at ho
    rw [mOf_some h] at ho ⊢
    simp only [Bool.or_eq_false_iff, decide_eq_false_iff_not] at ho
    have h3 : within m.state 1 4 = true := by
      unfold Mem.e oneE at h2
      (repeat' split at h2) <;> simp_all
    unfold within at h3
    simp only [Bool.and_eq_true, decide_eq_true_eq] at h3
    omega
theorem at_state {ms : List Mem} {t : ByteArray} {r : Int} (h : AtF ms t r) : (r = -1 ∧ (mOf ms t).state < 3) ∨ ∃ k : Nat, k < ms.length ∧ r = k ∧ (mOf ms t).state = (ms.getD k dm).state := by
  rcases h with ⟨k, h1, h2, h3⟩ | ⟨h1, h2⟩
  · exact .inr ⟨k, h1, h2, by rw [mOf_some h3]⟩
  · exact .inl ⟨h1, by rw [mOf_none h2]; decide⟩
theorem true_all {q : Qu} {here : ByteArray} {sv : List Sv.Svc} {ms : List Mem} {p : Pl} {wh : List Wh.Whe} (hn : q.node.size = 0) (hc : ¬ (q.centre.size ≠ 0 ∧ q.centre ≠ here)) (he : (anR q 1 here sv ms p wh).e = 0) :
    ∀ r ∈ (anR q 1 here sv ms p wh).rs, ∃ s ∈ sv, okS q ms r.addr s = true := by
  unfold anR at he ⊢
  by_cases h1 : asE q 1 = 0
  · rw [if_pos h1] at he ⊢
    by_cases h2 : knE here sv ms p wh = 0
    · rw [if_pos h2] at he ⊢
      have hk := knOk h2
      unfold anS at he ⊢
      by_cases h3 : prE q = 0
      · rw [if_pos h3, if_neg hc, if_neg (by omega)] at he ⊢
        unfold ofSv at he ⊢
        by_cases h4 : Sv.findL sv q.service ⟨#[]⟩ = []
        · rw [if_pos h4]; simp
        · rw [if_neg h4] at he ⊢
          by_cases h5 : recsE here 1 (nearL p wh ms (Sv.findL sv q.service q.tag)) = 0
          · rw [if_pos h5]
            intro r hr
            obtain ⟨s, hs, rfl⟩ := List.mem_map.1 hr
            obtain ⟨h6, h7⟩ := near_mem hs
            obtain ⟨h8, h9⟩ := List.mem_filter.1 h6
            refine ⟨s, h8, ?_⟩
            have e : (rec1 (prS q) here 1 s).addr = s.addr := rfl
            unfold okS
            rw [e, h9, decide_eq_true (in_state hk.ms h7)]
            simp
          · rw [if_neg h5] at he; exact absurd he h5
      · rw [if_neg h3] at he; exact absurd he h3
    · rw [if_neg h2] at he; exact absurd he h2
  · rw [if_neg h1] at he; exact absurd he h1
theorem true_none {q : Qu} {here : ByteArray} {sv : List Sv.Svc} {ms : List Mem} {p : Pl} {wh : List Wh.Whe} (hc : q.centre.size ≠ 0 ∧ q.centre ≠ here) : (anR q 1 here sv ms p wh).rs = [] := by
  unfold anR anS
  rw [if_pos hc]
  (repeat' split) <;> rfl

end Go.Proofs.YtignmeaeibaejaaGreat
