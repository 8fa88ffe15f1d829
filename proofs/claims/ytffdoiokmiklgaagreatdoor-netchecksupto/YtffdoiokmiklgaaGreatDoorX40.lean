import Derived.Test.YtffdoiokmiklgaaGreatDoorRows
import Derived.ProofKit
import Derived.SevenTiedAt
namespace Go.Proofs.YtffdoiokmiklgaaGreatDoor
theorem NetChecks.c14:false=Rows.netChecksUptoRow.goesBy Tryz.prog:=by kernel_rfl
end Go.Proofs.YtffdoiokmiklgaaGreatDoor
