import Derived.Test.YtffdoiokmiklgaaGreatDoorW42
import Derived.Test.YtffdoiokmiklgaaGreatDoorW43
import Derived.Test.YtffdoiokmiklgaaGreatDoorW44
import Derived.Test.YtffdoiokmiklgaaGreatDoorW45
import Derived.ProofKit
namespace Go.Proofs.YtffdoiokmiklgaaGreatDoor
theorem NetNews.closed:joinedFacts Tryz.prog 3 Tryz.f3 Rows.netNewsSpec Rows.netNewsRow=true:=by
 unfold joinedFacts
 rw [NetNews.c10,NetNews.c11,NetNews.c12,NetNews.c13]
 kernel_rfl
end Go.Proofs.YtffdoiokmiklgaaGreatDoor
