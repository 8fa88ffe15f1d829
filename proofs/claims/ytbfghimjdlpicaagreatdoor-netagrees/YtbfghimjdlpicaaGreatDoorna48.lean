import Derived.Test.YtbfghimjdlpicaaGreatDoorRows
import Derived.ProofKit
namespace Go.Proofs.YtbfghimjdlpicaaGreatDoor
theorem NetAgrees.c12:(Rows.netAgreesRow.recurses==Tryz.prog.recurses 3)=true:=by kernel_rfl
end Go.Proofs.YtbfghimjdlpicaaGreatDoor
