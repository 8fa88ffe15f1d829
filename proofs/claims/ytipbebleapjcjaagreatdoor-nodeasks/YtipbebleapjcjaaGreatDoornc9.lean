import Derived.Test.YtipbebleapjcjaaGreatDoorRows
import Derived.ProofKit
namespace Go.Proofs.YtipbebleapjcjaaGreatDoor
theorem NodeAsks.c13:(Rows.nodeAsksRow.named==Tryz.prog.varsNamed 3)=true:=by kernel_rfl
end Go.Proofs.YtipbebleapjcjaaGreatDoor
