import Derived.Test.YtffdoiokmiklgaaGreatDoorRows
import Derived.ProofKit
namespace Go.Proofs.YtffdoiokmiklgaaGreatDoor
theorem NetChecks.c11:(Rows.netChecksUptoRow.unfollowed == Tryz.prog.unfollowed 4)=true:=by kernel_rfl
end Go.Proofs.YtffdoiokmiklgaaGreatDoor
