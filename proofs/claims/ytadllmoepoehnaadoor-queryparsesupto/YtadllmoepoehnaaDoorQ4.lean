/- query.Check. -/
import Derived.Test.YtadllmoepoehnaaDoorQ3
namespace Go.Proofs.YtadllmoepoehnaaDoor
open Go.RowKit

def frmQ (q : Qu) : Bool := (decide (q.service.size = 0) == decide (q.node.size = 0)) || (decide (q.tag.size ≠ 0) && decide (q.service.size = 0))
/-- What is wrong with a query. -/
def chkQ (q : Qu) : Int :=
  if frmQ q = true then 1 else if [q.service, q.tag, q.node, q.centre].all labE = false then 1 else if wordB q = true then 7 else 0

theorem labels4 (q : Qu) (W : World) (g : Nat) (hq : q.ok) (hg : W.heap[g]? = some (.cells #[.string q.service, .string q.tag, .string q.node, .string q.centre] 9 (0, 0))) :
    Calls Tryd.prog 17 #[.slice (some ⟨g, 0, none⟩) 4 4] W fun e w' => e = .returned (.bool ([q.service, q.tag, q.node, q.centre].all labE)) ∧ w' = W :=
  labelsE_any [q.service, q.tag, q.node, q.centre] g 4 W (fun j hj => by
    rw [cellsAt hg]
    match j, hj with
    | 0, _ => rfl
    | 1, _ => rfl
    | 2, _ => rfl
    | 3, _ => rfl) (fun j => by
    match j with
    | 0 => exact hq.1
    | 1 => exact hq.2.1
    | 2 => exact hq.2.2.1
    | 3 => exact hq.2.2.2
    | _ + 4 => simp [List.getD]) (by simp)

set_option maxHeartbeats 3200000 in
set_option maxRecDepth 100000 in
theorem qCheck_any (q : Qu) (w : World) (hq : q.ok) :
    Calls Tryd.prog 9 #[.agg #[.string q.service, .string q.tag, .string q.node, .string q.centre]] w fun e w' => e = .returned (.int .i64 (chkQ q)) ∧ Below w.heap.size w w' := by
  have HLB : Hid (∀ g W, W.heap[g]? = some (.cells #[.string q.service, .string q.tag, .string q.node, .string q.centre] 9 (0, 0)) → Calls Tryd.prog 17 #[.slice (some ⟨g, 0, none⟩) 4 4] W fun e w' => e = .returned (.bool ([q.service, q.tag, q.node, q.centre].all labE)) ∧ w' = W) := fun g W h => labels4 q W g hq h
  have HWD : Hid (∀ W, Calls Tryd.prog 18 #[.agg #[.string q.service, .string q.tag, .string q.node, .string q.centre]] W fun e w' => e = .returned (.bool (wordB q)) ∧ Below W.heap.size W w') := fun W => hasWord_any q W
  have HR1 : Hid (frmQ q = true → chkQ q = 1) := fun h => by unfold chkQ; rw [if_pos h]
  have HR2 : Hid (frmQ q = false → [q.service, q.tag, q.node, q.centre].all labE = false → chkQ q = 1) := fun h h2 => by unfold chkQ; rw [if_neg (by rw [h]; simp), if_pos h2]
  have HR3 : Hid (frmQ q = false → [q.service, q.tag, q.node, q.centre].all labE = true → chkQ q = if wordB q = true then 7 else 0) := fun h h2 => by unfold chkQ; rw [if_neg (by rw [h]; simp), if_neg (by rw [h2]; simp)]
  have HF : Hid (frmQ q = ((decide (q.service.size = 0) == decide (q.node.size = 0)) || (decide (q.tag.size ≠ 0) && decide (q.service.size = 0)))) := rfl
  generalize [q.service, q.tag, q.node, q.centre].all labE = lb at *
  generalize wordB q = wb at *
  generalize chkQ q = r at *
  generalize frmQ q = fr at *
  obtain ⟨sv, tg, nd, ce⟩ := q
  simp only at HLB HWD HF ⊢
  clear hq
  by_cases hs : sv.size = 0 <;> by_cases hn : nd.size = 0 <;> by_cases ht : tg.size = 0
  all_goals
    have HF2 := HF.out
    simp only [hs, hn, ht, decide_true, decide_false, Bool.or_false, Bool.or_true, beq_self_eq_true, ne_eq, not_true_eq_false, not_false_eq_true, Bool.and_true, Bool.and_false] at HF2
    clear HF
    first | (have es := isempty hs; subst es) | (obtain ⟨s1, s2⟩ := nempty hs)
    first | (have en := isempty hn; subst en) | (obtain ⟨n1, n2⟩ := nempty hn)
    first | (have et := isempty ht; subst et) | (obtain ⟨t1, t2⟩ := nempty ht)
    clear hs hn ht
    go_enter Tryd.func9, Tryd.ntmps9
    go_wp2_with fail
  all_goals first
    | (go_ret
       exact ⟨ret_int (HR1.out HF2).symm, (Below.refl _ _).alloc (Nat.le_refl _) _⟩)
    | (have HF3 : Hid (fr = false) := (show fr = false from HF2)
       clear HF2
       refine (HLB.out _ _ (new_at _ (by simp))).mono ?_
       rintro e w' ⟨rfl, rfl⟩
       rcases hl : lb with _ | _
       · have HR : Hid (r = 1) := HR2.out HF3.out hl
         go_wp2_with fail
         go_ret
         exact ⟨ret_int HR.out.symm, ((Below.refl _ _).alloc (Nat.le_refl _) _).alloc (by simp) _⟩
       · have HR : Hid (r = if wb = true then 7 else 0) := HR3.out HF3.out hl
         go_wp2_with fail
         refine (HWD.out _).mono ?_
         rintro e w1 ⟨rfl, hb1⟩
         have hb2 := hb1.size
         simp at hb2
         rcases hw : wb with _ | _
         · rw [hw] at HR
           go_wp2_with fail
           go_ret
           exact ⟨ret_int HR.out.symm, (((Below.refl _ _).alloc (Nat.le_refl _) _).alloc (by simp) _).trans (hb1.mono (by simp; omega))⟩
         · rw [hw] at HR
           go_wp2_with fail
           go_ret
           exact ⟨ret_int HR.out.symm, (((Below.refl _ _).alloc (Nat.le_refl _) _).alloc (by simp) _).trans (hb1.mono (by simp; omega))⟩)

end Go.Proofs.YtadllmoepoehnaaDoor
