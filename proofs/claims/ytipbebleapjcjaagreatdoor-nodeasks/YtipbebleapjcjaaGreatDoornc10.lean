import Derived.Test.YtipbebleapjcjaaGreatDoornc6
import Derived.Test.YtipbebleapjcjaaGreatDoornc7
import Derived.Test.YtipbebleapjcjaaGreatDoornc8
import Derived.Test.YtipbebleapjcjaaGreatDoornc9
namespace Go.Proofs.YtipbebleapjcjaaGreatDoor
theorem NodeAsks.closed:joinedFacts Tryz.prog 3 Tryz.f3 Rows.nodeAsksSpec Rows.nodeAsksRow=true:=by
 unfold joinedFacts;rw[NodeAsks.c10,NodeAsks.c11,NodeAsks.c12,NodeAsks.c13];kernel_rfl
end Go.Proofs.YtipbebleapjcjaaGreatDoor
