import Derived.Test.YtfidjlcdlakceaaGreatDoorRows
import Derived.ProofKit
namespace Go.Proofs.YtfidjlcdlakceaaGreatDoor
theorem TopFound.c11:(Rows.topFoundRow.unfollowed==Tryz.prog.unfollowed 4)=true:=by kernel_rfl
end Go.Proofs.YtfidjlcdlakceaaGreatDoor
