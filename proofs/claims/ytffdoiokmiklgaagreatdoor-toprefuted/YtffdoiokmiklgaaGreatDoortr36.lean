import Derived.Test.YtffdoiokmiklgaaGreatDoortr32
import Derived.Test.YtffdoiokmiklgaaGreatDoortr33
import Derived.Test.YtffdoiokmiklgaaGreatDoortr34
import Derived.Test.YtffdoiokmiklgaaGreatDoortr35
import Derived.ProofKit
namespace Go.Proofs.YtffdoiokmiklgaaGreatDoor
theorem TopRefuted.closed:joinedFacts Tryz.prog 5 Tryz.f5 Rows.topRefutedSpec Rows.topRefutedRow=true:=by
 unfold joinedFacts
 rw [TopRefuted.c10,TopRefuted.c11,TopRefuted.c12,TopRefuted.c13]
 kernel_rfl
end Go.Proofs.YtffdoiokmiklgaaGreatDoor
