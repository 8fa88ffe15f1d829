
/- The document's own Check of members; a list of one. -/
import Derived.Test.YtdcekfbejjjkkaaMK6
namespace Go.Proofs.Ytdcekfbejjjkkaa
open Go.RowKit

set_option maxHeartbeats 400000 in
theorem alone_any (nm : ByteArray) (st lf ad : Int) (sv : Bool) (w : World) :
    Calls Try.prog 36 #[.agg #[.string nm, .int .i64 st, .int .i64 lf, .int .i64 ad, .bool sv]] w fun e w' => e = .returned (.slice (some ⟨w.heap.size + 1, 0, none⟩) 1 1) ∧ w' = (w.alloc (.cells #[.string nm, .int .i64 st, .int .i64 lf, .int .i64 ad, .bool sv] 24)).alloc (.cells #[.string nm, .int .i64 st, .int .i64 lf, .int .i64 ad, .bool sv] 24) := by
  go_enter Try.func36, Try.ntmps36
  go_wp2
  go_ret
  exact ⟨rfl, rfl⟩

end Go.Proofs.Ytdcekfbejjjkkaa
