import Derived.Test.YtfidjlcdlakceaaGreatDoorRows
import Derived.ProofKit
namespace Go.Proofs.YtfidjlcdlakceaaGreatDoor
theorem NodeRoutes.c12:(Rows.nodeRoutesRow.recurses==Tryz.prog.recurses 3)=true:=by kernel_rfl
end Go.Proofs.YtfidjlcdlakceaaGreatDoor
