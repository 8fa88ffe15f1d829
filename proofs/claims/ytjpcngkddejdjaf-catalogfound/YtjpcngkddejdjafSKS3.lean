
/- The document's own Check of services. -/
import Derived.Test.YtjpcngkddejdjafSKS2
namespace Go.Proofs.Ytjpcngkddejdjaf
namespace Sv
open Go.RowKit

theorem e_if (m : Svc) : m.e = if labB m.node = true then (if labB m.idn = true then (if labB m.name = true then (if tagB m.tag = true then (if within m.addr 0 4294967295 = true then (if within m.port 0 65535 = true then (if within m.version 1 1000000 = true then 0 else 3) else 3) else 3) else 1) else 1) else 1) else 1 := by
  unfold Svc.e
  cases labB m.node <;> cases labB m.idn <;> cases labB m.name <;> cases tagB m.tag <;> cases within m.addr 0 4294967295 <;> cases within m.port 0 65535 <;> cases within m.version 1 1000000 <;> rfl

end Sv
end Go.Proofs.Ytjpcngkddejdjaf
