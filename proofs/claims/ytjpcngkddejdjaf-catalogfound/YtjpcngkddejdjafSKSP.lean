
/- A service in the place of the one of its node and id: the document's own. -/
import Derived.Test.YtjpcngkddejdjafSKS4
namespace Go.Proofs.Ytjpcngkddejdjaf
namespace Sv
open Go.RowKit

theorem ord_ne {a b : Svc} (h : ord a b ≠ 0) : ((a.node.toList == b.node.toList) = false ∧ ¬ a.node.toList = b.node.toList) ∨ ((a.node.toList == b.node.toList) = true ∧ a.node.toList = b.node.toList ∧ (a.idn.toList == b.idn.toList) = false ∧ ¬ a.idn.toList = b.idn.toList) := by
  by_cases h1 : a.node = b.node
  · right
    have h2 : a.idn ≠ b.idn := fun e => h (by
      show (if cmpI a.node b.node = 0 then cmpI a.idn b.idn else cmpI a.node b.node) = 0
      rw [if_pos ((cmpI_eq _ _).2 h1)]; exact (cmpI_eq _ _).2 e)
    have h3 : a.node.toList = b.node.toList := by rw [h1]
    exact ⟨by rw [h3]; simp, h3, (beq_name h2).1, (beq_name h2).2⟩
  · exact .inl (beq_name h1)
theorem ord_eq {a b : Svc} (h : ord a b = 0) : (a.node.toList == b.node.toList) = true ∧ a.node.toList = b.node.toList ∧ (a.idn.toList == b.idn.toList) = true ∧ a.idn.toList = b.idn.toList := by
  obtain ⟨h1, h2⟩ := RL.lex_zero h
  have e1 : a.node = b.node := (cmpI_eq _ _).1 h1
  have e2 : a.idn = b.idn := (cmpI_eq _ _).1 h2
  rw [e1, e2]
  simp

end Sv
end Go.Proofs.Ytjpcngkddejdjaf
