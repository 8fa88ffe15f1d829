import Derived.Test.YtipbebleapjcjaaGreatDoorRows
import Derived.ProofKit
import Derived.SevenTiedAt
namespace Go.Proofs.YtipbebleapjcjaaGreatDoor
theorem NodeAsks.c14:false=Rows.nodeAsksRow.goesBy Tryz.prog:=by kernel_rfl
end Go.Proofs.YtipbebleapjcjaaGreatDoor
