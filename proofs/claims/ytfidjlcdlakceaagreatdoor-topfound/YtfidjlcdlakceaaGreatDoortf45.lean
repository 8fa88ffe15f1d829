import Derived.Test.YtfidjlcdlakceaaGreatDoorRows
import Derived.ProofKit
import Derived.SevenTiedAt
namespace Go.Proofs.YtfidjlcdlakceaaGreatDoor
theorem TopFound.c14:false=Rows.topFoundRow.goesBy Tryz.prog:=by kernel_rfl
end Go.Proofs.YtfidjlcdlakceaaGreatDoor
