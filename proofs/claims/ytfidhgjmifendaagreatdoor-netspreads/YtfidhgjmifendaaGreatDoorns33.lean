import Derived.Test.YtfidhgjmifendaaGreatDoorRows
import Derived.ProofKit
namespace Go.Proofs.YtfidhgjmifendaaGreatDoor
theorem NetSpreads.c11:(Rows.netSpreadsRow.unfollowed==Tryz.prog.unfollowed 5)=true:=by kernel_rfl
end Go.Proofs.YtfidhgjmifendaaGreatDoor
