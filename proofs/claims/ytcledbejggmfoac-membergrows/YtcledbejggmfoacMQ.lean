
/- The document's own Hear: a newer rumor of one that is known. -/
import Derived.Test.YtcledbejggmfoacMP
namespace Go.Proofs.Ytcledbejggmfoac
open Go.RowKit

end Go.Proofs.Ytcledbejggmfoac
