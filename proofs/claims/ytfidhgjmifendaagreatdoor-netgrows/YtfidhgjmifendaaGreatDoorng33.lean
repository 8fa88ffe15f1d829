import Derived.Test.YtfidhgjmifendaaGreatDoorRows
import Derived.ProofKit
import Derived.SevenTiedAt
namespace Go.Proofs.YtfidhgjmifendaaGreatDoor
theorem NetGrows.c14:false=Rows.netGrowsRow.goesBy Tryz.prog:=by kernel_rfl
end Go.Proofs.YtfidhgjmifendaaGreatDoor
