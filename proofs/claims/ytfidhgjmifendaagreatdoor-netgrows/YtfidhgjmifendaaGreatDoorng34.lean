import Derived.Test.YtfidhgjmifendaaGreatDoorRows
import Derived.ProofKit
namespace Go.Proofs.YtfidhgjmifendaaGreatDoor
theorem NetGrows.c10:(Rows.netGrowsRow.inPlace==Tryz.prog.inPlace 3)=true:=by kernel_rfl
end Go.Proofs.YtfidhgjmifendaaGreatDoor
