import Derived.Test.YtfidhgjmifendaaGreatDoorRows
import Derived.ProofKit
import Derived.SevenTiedAt
namespace Go.Proofs.YtfidhgjmifendaaGreatDoor
theorem NetSpreads.c14:false=Rows.netSpreadsRow.goesBy Tryz.prog:=by kernel_rfl
end Go.Proofs.YtfidhgjmifendaaGreatDoor
