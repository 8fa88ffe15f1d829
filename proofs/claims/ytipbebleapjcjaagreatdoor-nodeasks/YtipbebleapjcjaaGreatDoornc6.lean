import Derived.Test.YtipbebleapjcjaaGreatDoorRows
import Derived.ProofKit
namespace Go.Proofs.YtipbebleapjcjaaGreatDoor
theorem NodeAsks.c10:(Rows.nodeAsksRow.inPlace==Tryz.prog.inPlace 3)=true:=by kernel_rfl
end Go.Proofs.YtipbebleapjcjaaGreatDoor
