import Derived.Test.YtfidjlcdlakceaaGreatDoorRows
import Derived.ProofKit
namespace Go.Proofs.YtfidjlcdlakceaaGreatDoor
theorem NodeRoutes.c11:(Rows.nodeRoutesRow.unfollowed==Tryz.prog.unfollowed 3)=true:=by kernel_rfl
end Go.Proofs.YtfidjlcdlakceaaGreatDoor
