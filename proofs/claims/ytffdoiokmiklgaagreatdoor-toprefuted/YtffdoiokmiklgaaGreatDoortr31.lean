import Derived.Test.YtffdoiokmiklgaaGreatDoorRows
import Derived.ProofKit
import Derived.SevenTiedAt
namespace Go.Proofs.YtffdoiokmiklgaaGreatDoor
theorem TopRefuted.c14:false=Rows.topRefutedRow.goesBy Tryz.prog:=by kernel_rfl
end Go.Proofs.YtffdoiokmiklgaaGreatDoor
