import Derived.Test.YtipbebleapjcjaaGreatDoorRows
import Derived.ProofKit
namespace Go.Proofs.YtipbebleapjcjaaGreatDoor
theorem NodeAsks.c11:(Rows.nodeAsksRow.unfollowed==Tryz.prog.unfollowed 3)=true:=by kernel_rfl
end Go.Proofs.YtipbebleapjcjaaGreatDoor
