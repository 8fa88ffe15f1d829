import Derived.Test.YtfidjlcdlakceaaGreatDoorRows
import Derived.ProofKit
namespace Go.Proofs.YtfidjlcdlakceaaGreatDoor
theorem TopFound.c10:(Rows.topFoundRow.inPlace==Tryz.prog.inPlace 4)=true:=by kernel_rfl
end Go.Proofs.YtfidjlcdlakceaaGreatDoor
