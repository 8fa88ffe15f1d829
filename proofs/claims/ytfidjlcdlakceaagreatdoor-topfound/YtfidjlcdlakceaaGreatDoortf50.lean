import Derived.Test.YtfidjlcdlakceaaGreatDoortf46
import Derived.Test.YtfidjlcdlakceaaGreatDoortf47
import Derived.Test.YtfidjlcdlakceaaGreatDoortf48
import Derived.Test.YtfidjlcdlakceaaGreatDoortf49
namespace Go.Proofs.YtfidjlcdlakceaaGreatDoor
theorem TopFound.closed:joinedFacts Tryz.prog 4 Tryz.f4 Rows.topFoundSpec Rows.topFoundRow=true:=by
 unfold joinedFacts;rw[TopFound.c10,TopFound.c11,TopFound.c12,TopFound.c13];kernel_rfl
end Go.Proofs.YtfidjlcdlakceaaGreatDoor
