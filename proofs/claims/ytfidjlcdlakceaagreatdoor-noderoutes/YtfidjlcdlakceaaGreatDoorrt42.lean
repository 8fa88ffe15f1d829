import Derived.Test.YtfidjlcdlakceaaGreatDoorrt38
import Derived.Test.YtfidjlcdlakceaaGreatDoorrt39
import Derived.Test.YtfidjlcdlakceaaGreatDoorrt40
import Derived.Test.YtfidjlcdlakceaaGreatDoorrt41
namespace Go.Proofs.YtfidjlcdlakceaaGreatDoor
theorem NodeRoutes.closed:joinedFacts Tryz.prog 3 Tryz.f3 Rows.nodeRoutesSpec Rows.nodeRoutesRow=true:=by
 unfold joinedFacts;rw[NodeRoutes.c10,NodeRoutes.c11,NodeRoutes.c12,NodeRoutes.c13];kernel_rfl
end Go.Proofs.YtfidjlcdlakceaaGreatDoor
