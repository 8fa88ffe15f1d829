import Derived.Test.YtbfghimjdlpicaaGreatDoorRows
import Derived.ProofKit
namespace Go.Proofs.YtbfghimjdlpicaaGreatDoor
theorem NetAgrees.c13:(Rows.netAgreesRow.named==Tryz.prog.varsNamed 3)=true:=by kernel_rfl
end Go.Proofs.YtbfghimjdlpicaaGreatDoor
