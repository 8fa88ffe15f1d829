import Derived.Test.YtfidhgjmifendaaGreatDoorRows
import Derived.ProofKit
import Derived.SevenTiedAt
namespace Go.Proofs.YtfidhgjmifendaaGreatDoor
theorem NetTells.c14:false=Rows.netTellsRow.goesBy Tryz.prog:=by kernel_rfl
end Go.Proofs.YtfidhgjmifendaaGreatDoor
