import Derived.Test.YtffdoiokmiklgaaGreatDoorRows
import Derived.ProofKit
namespace Go.Proofs.YtffdoiokmiklgaaGreatDoor
theorem NetNews.c12:(Rows.netNewsRow.recurses == Tryz.prog.recurses 3)=true:=by kernel_rfl
end Go.Proofs.YtffdoiokmiklgaaGreatDoor
