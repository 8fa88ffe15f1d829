import Derived.Test.YtffdoiokmiklgaaGreatDoorRows
import Derived.ProofKit
namespace Go.Proofs.YtffdoiokmiklgaaGreatDoor
theorem NetChecks.c12:(Rows.netChecksUptoRow.recurses == Tryz.prog.recurses 4)=true:=by kernel_rfl
end Go.Proofs.YtffdoiokmiklgaaGreatDoor
