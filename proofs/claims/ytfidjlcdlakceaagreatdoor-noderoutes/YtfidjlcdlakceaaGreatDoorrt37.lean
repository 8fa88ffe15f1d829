import Derived.Test.YtfidjlcdlakceaaGreatDoorRows
import Derived.ProofKit
import Derived.SevenTiedAt
namespace Go.Proofs.YtfidjlcdlakceaaGreatDoor
theorem NodeRoutes.c14:false=Rows.nodeRoutesRow.goesBy Tryz.prog:=by kernel_rfl
end Go.Proofs.YtfidjlcdlakceaaGreatDoor
