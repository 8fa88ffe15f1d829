import Derived.Test.YtffdoiokmiklgaaGreatDoorX2
namespace Go.Proofs.YtffdoiokmiklgaaGreatDoor
namespace Sv
open Go.RowKit
theorem Tryz.info42:(Tryz.prog.info? 42).map (fun i=>(i.zero,i.size,i.bytes))=some (some (.agg #[.string ⟨#[]⟩,.string ⟨#[]⟩,.string ⟨#[]⟩,.string ⟨#[]⟩,.int .i64 0,.int .i64 0,.bool false,.int .i64 0,.bool false]),9,104):=by kernel_rfl
end Sv
end Go.Proofs.YtffdoiokmiklgaaGreatDoor
