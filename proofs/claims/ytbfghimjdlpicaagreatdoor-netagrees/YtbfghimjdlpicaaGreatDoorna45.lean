import Derived.Test.YtbfghimjdlpicaaGreatDoorRows
import Derived.ProofKit
import Derived.SevenTiedAt
namespace Go.Proofs.YtbfghimjdlpicaaGreatDoor
theorem NetAgrees.c14:false=Rows.netAgreesRow.goesBy Tryz.prog:=by kernel_rfl
end Go.Proofs.YtbfghimjdlpicaaGreatDoor
