
/- Is each of some texts a label? -/
import Derived.Test.YtogmkdhljifbpaaDoorLV
namespace Go.Proofs.YtogmkdhljifbpaaDoor
open Go.RowKit

def labE (t : ByteArray) : Bool := decide (t = ByteArray.empty) || labB t

theorem heap_new1 (W : World) (c : Value) : (W.alloc (.cells #[c] 9)).heap[W.heap.size]? = some (.cells #[c] 9 (0, 0)) := by
  have h := heap_alloc_new W (.cells #[c] 9)
  simpa using h

end Go.Proofs.YtogmkdhljifbpaaDoor
