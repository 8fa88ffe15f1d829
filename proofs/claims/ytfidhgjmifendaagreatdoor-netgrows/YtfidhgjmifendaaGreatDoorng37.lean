import Derived.Test.YtfidhgjmifendaaGreatDoorRows
import Derived.ProofKit
namespace Go.Proofs.YtfidhgjmifendaaGreatDoor
theorem NetGrows.c13:(Rows.netGrowsRow.named==Tryz.prog.varsNamed 3)=true:=by kernel_rfl
end Go.Proofs.YtfidhgjmifendaaGreatDoor
