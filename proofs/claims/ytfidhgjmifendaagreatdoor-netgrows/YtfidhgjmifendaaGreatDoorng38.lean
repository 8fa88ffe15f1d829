import Derived.Test.YtfidhgjmifendaaGreatDoorng34
import Derived.Test.YtfidhgjmifendaaGreatDoorng35
import Derived.Test.YtfidhgjmifendaaGreatDoorng36
import Derived.Test.YtfidhgjmifendaaGreatDoorng37
namespace Go.Proofs.YtfidhgjmifendaaGreatDoor
theorem NetGrows.closed:joinedFacts Tryz.prog 3 Tryz.f3 Rows.netGrowsSpec Rows.netGrowsRow=true:=by
 unfold joinedFacts;rw[NetGrows.c10,NetGrows.c11,NetGrows.c12,NetGrows.c13];kernel_rfl
end Go.Proofs.YtfidhgjmifendaaGreatDoor
