import Derived.Test.YtfidhgjmifendaaGreatDoorns32
import Derived.Test.YtfidhgjmifendaaGreatDoorns33
import Derived.Test.YtfidhgjmifendaaGreatDoorns34
import Derived.Test.YtfidhgjmifendaaGreatDoorns35
namespace Go.Proofs.YtfidhgjmifendaaGreatDoor
theorem NetSpreads.closed:joinedFacts Tryz.prog 5 Tryz.f5 Rows.netSpreadsSpec Rows.netSpreadsRow=true:=by
 unfold joinedFacts;rw[NetSpreads.c10,NetSpreads.c11,NetSpreads.c12,NetSpreads.c13];kernel_rfl
end Go.Proofs.YtfidhgjmifendaaGreatDoor
