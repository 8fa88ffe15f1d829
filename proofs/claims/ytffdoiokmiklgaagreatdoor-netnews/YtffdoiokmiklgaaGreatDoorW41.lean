import Derived.Test.YtffdoiokmiklgaaGreatDoorRows
import Derived.ProofKit
import Derived.SevenTiedAt
namespace Go.Proofs.YtffdoiokmiklgaaGreatDoor
theorem NetNews.c14:false=Rows.netNewsRow.goesBy Tryz.prog:=by kernel_rfl
end Go.Proofs.YtffdoiokmiklgaaGreatDoor
