import Derived.Test.YtbfghimjdlpicaaGreatDoorna46
import Derived.Test.YtbfghimjdlpicaaGreatDoorna47
import Derived.Test.YtbfghimjdlpicaaGreatDoorna48
import Derived.Test.YtbfghimjdlpicaaGreatDoorna49
namespace Go.Proofs.YtbfghimjdlpicaaGreatDoor
theorem NetAgrees.closed:joinedFacts Tryz.prog 3 Tryz.f3 Rows.netAgreesSpec Rows.netAgreesRow=true:=by
 unfold joinedFacts;rw[NetAgrees.c10,NetAgrees.c11,NetAgrees.c12,NetAgrees.c13];kernel_rfl
end Go.Proofs.YtbfghimjdlpicaaGreatDoor
