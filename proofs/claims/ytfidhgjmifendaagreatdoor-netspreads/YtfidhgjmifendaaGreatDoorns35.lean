import Derived.Test.YtfidhgjmifendaaGreatDoorRows
import Derived.ProofKit
namespace Go.Proofs.YtfidhgjmifendaaGreatDoor
theorem NetSpreads.c13:(Rows.netSpreadsRow.named==Tryz.prog.varsNamed 5)=true:=by kernel_rfl
end Go.Proofs.YtfidhgjmifendaaGreatDoor
