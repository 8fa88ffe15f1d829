
/- services: what they must be beside an errno. -/
import Derived.Test.YtjpcngkddejdjafSK9
namespace Go.Proofs.Ytjpcngkddejdjaf
namespace Sv
open Go.RowKit

end Sv
end Go.Proofs.Ytjpcngkddejdjaf
