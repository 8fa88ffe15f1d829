import Derived.Test.YtfidhgjmifendaaGreatDoorRows
import Derived.ProofKit
namespace Go.Proofs.YtfidhgjmifendaaGreatDoor
theorem NetTells.c13:(Rows.netTellsRow.named==Tryz.prog.varsNamed 4)=true:=by kernel_rfl
end Go.Proofs.YtfidhgjmifendaaGreatDoor
