import Derived.Test.YtfidjlcdlakceaaGreatDoorRows
import Derived.ProofKit
namespace Go.Proofs.YtfidjlcdlakceaaGreatDoor
theorem TopFound.c12:(Rows.topFoundRow.recurses==Tryz.prog.recurses 4)=true:=by kernel_rfl
end Go.Proofs.YtfidjlcdlakceaaGreatDoor
