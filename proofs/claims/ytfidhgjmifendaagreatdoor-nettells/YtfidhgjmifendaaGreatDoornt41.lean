import Derived.Test.YtfidhgjmifendaaGreatDoornt37
import Derived.Test.YtfidhgjmifendaaGreatDoornt38
import Derived.Test.YtfidhgjmifendaaGreatDoornt39
import Derived.Test.YtfidhgjmifendaaGreatDoornt40
namespace Go.Proofs.YtfidhgjmifendaaGreatDoor
theorem NetTells.closed:joinedFacts Tryz.prog 4 Tryz.f4 Rows.netTellsSpec Rows.netTellsRow=true:=by
 unfold joinedFacts;rw[NetTells.c10,NetTells.c11,NetTells.c12,NetTells.c13];kernel_rfl
end Go.Proofs.YtfidhgjmifendaaGreatDoor
