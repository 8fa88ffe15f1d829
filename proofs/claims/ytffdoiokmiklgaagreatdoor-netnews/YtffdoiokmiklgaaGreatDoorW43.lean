import Derived.Test.YtffdoiokmiklgaaGreatDoorRows
import Derived.ProofKit
namespace Go.Proofs.YtffdoiokmiklgaaGreatDoor
theorem NetNews.c11:(Rows.netNewsRow.unfollowed == Tryz.prog.unfollowed 3)=true:=by kernel_rfl
end Go.Proofs.YtffdoiokmiklgaaGreatDoor
