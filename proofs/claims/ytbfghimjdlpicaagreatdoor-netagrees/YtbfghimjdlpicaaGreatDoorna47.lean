import Derived.Test.YtbfghimjdlpicaaGreatDoorRows
import Derived.ProofKit
namespace Go.Proofs.YtbfghimjdlpicaaGreatDoor
theorem NetAgrees.c11:(Rows.netAgreesRow.unfollowed==Tryz.prog.unfollowed 3)=true:=by kernel_rfl
end Go.Proofs.YtbfghimjdlpicaaGreatDoor
