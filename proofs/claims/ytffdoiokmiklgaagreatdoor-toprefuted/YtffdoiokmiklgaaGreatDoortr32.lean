import Derived.Test.YtffdoiokmiklgaaGreatDoorRows
import Derived.ProofKit
namespace Go.Proofs.YtffdoiokmiklgaaGreatDoor
theorem TopRefuted.c10:(Rows.topRefutedRow.inPlace == Tryz.prog.inPlace 5)=true:=by kernel_rfl
end Go.Proofs.YtffdoiokmiklgaaGreatDoor
