import Derived.Test.YtffdoiokmiklgaaGreatDoorX41
import Derived.Test.YtffdoiokmiklgaaGreatDoorX42
import Derived.Test.YtffdoiokmiklgaaGreatDoorX43
import Derived.Test.YtffdoiokmiklgaaGreatDoorX44
import Derived.ProofKit
namespace Go.Proofs.YtffdoiokmiklgaaGreatDoor
theorem NetChecks.closed:joinedFacts Tryz.prog 4 Tryz.f4 (Rows.OpenSpec.upto Rows.netChecksSpec).bare Rows.netChecksUptoRow=true:=by
 unfold joinedFacts
 rw [NetChecks.c10,NetChecks.c11,NetChecks.c12,NetChecks.c13]
 kernel_rfl
end Go.Proofs.YtffdoiokmiklgaaGreatDoor
