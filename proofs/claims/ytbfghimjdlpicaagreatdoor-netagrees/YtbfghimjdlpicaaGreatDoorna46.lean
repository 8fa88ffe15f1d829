import Derived.Test.YtbfghimjdlpicaaGreatDoorRows
import Derived.ProofKit
namespace Go.Proofs.YtbfghimjdlpicaaGreatDoor
theorem NetAgrees.c10:(Rows.netAgreesRow.inPlace==Tryz.prog.inPlace 3)=true:=by kernel_rfl
end Go.Proofs.YtbfghimjdlpicaaGreatDoor
