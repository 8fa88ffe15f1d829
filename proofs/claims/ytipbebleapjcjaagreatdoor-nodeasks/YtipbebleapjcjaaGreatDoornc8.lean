import Derived.Test.YtipbebleapjcjaaGreatDoorRows
import Derived.ProofKit
namespace Go.Proofs.YtipbebleapjcjaaGreatDoor
theorem NodeAsks.c12:(Rows.nodeAsksRow.recurses==Tryz.prog.recurses 3)=true:=by kernel_rfl
end Go.Proofs.YtipbebleapjcjaaGreatDoor
