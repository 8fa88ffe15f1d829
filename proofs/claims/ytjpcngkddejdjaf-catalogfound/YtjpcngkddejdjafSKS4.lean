
/- Which service stands ahead of another; the document's own Check; the law CatalogChecks. -/
import Derived.Test.YtjpcngkddejdjafSKS3
namespace Go.Proofs.Ytjpcngkddejdjaf
namespace Sv
open Go.RowKit

theorem ord_lt (a b : Svc) : decide (ord a b < 0) = (less a.node b.node || (a.node.toList == b.node.toList && less a.idn b.idn)) := by
  have hd : ord a b = if cmpI a.node b.node = 0 then cmpI a.idn b.idn else cmpI a.node b.node := rfl
  rw [hd]
  by_cases he : a.node = b.node
  · have h0 : cmpI a.node b.node = 0 := (cmpI_eq _ _).2 he
    rw [if_pos h0, he, less_irrefl, Bool.eq_iff_iff, decide_eq_true_eq, cmpI_lt]
    simp
  · have h0 : ¬ cmpI a.node b.node = 0 := fun h => he ((cmpI_eq _ _).1 h)
    rw [if_neg h0, (beq_name he).1, Bool.false_and, Bool.or_false, Bool.eq_iff_iff, decide_eq_true_eq, cmpI_lt]

end Sv
end Go.Proofs.Ytjpcngkddejdjaf
