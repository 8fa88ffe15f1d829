import Derived.Test.YtffdoiokmiklgaaGreatDoorX1
namespace Go.Proofs.YtffdoiokmiklgaaGreatDoor
namespace Gw
open Go.RowKit
theorem Tryz.info107:(Tryz.prog.info? 107).map (fun i=>(i.zero,i.size,i.bytes))=some (some (.agg #[.string ⟨#[]⟩,.int .i64 0,.int .i64 0]),3,32):=by kernel_rfl
end Gw
end Go.Proofs.YtffdoiokmiklgaaGreatDoor
