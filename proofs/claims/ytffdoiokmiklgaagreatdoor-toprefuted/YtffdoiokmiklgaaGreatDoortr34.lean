import Derived.Test.YtffdoiokmiklgaaGreatDoorRows
import Derived.ProofKit
namespace Go.Proofs.YtffdoiokmiklgaaGreatDoor
theorem TopRefuted.c12:(Rows.topRefutedRow.recurses == Tryz.prog.recurses 5)=true:=by kernel_rfl
end Go.Proofs.YtffdoiokmiklgaaGreatDoor
