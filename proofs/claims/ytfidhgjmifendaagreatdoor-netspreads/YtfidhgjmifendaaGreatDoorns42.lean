import Derived.Test.YtfidhgjmifendaaGreatDoorns38
import Derived.Test.YtfidhgjmifendaaGreatDoorns41
import Derived.Test.YtfidhgjmifendaaGreatDoorns23
namespace Go.Proofs.YtfidhgjmifendaaGreatDoor
namespace Gw
open Go.RowKit
end Gw
namespace Gw
open Go.RowKit
end Gw
end Go.Proofs.YtfidhgjmifendaaGreatDoor
namespace Go.Proofs.YtfidhgjmifendaaGreatDoor
open Go.RowKit
namespace Sv
end Sv
namespace Gw
end Gw
abbrev Vr(s:Sv.aY):Value:=.agg #[.string s.node,.string s.bP,.string s.name,.string s.tag,.int .i64 s.addr,.int .i64 s.port,.bool s.an,.int .i64 s.version,.bool s.gone]
theorem Ti{ms:List Sv.aY}(h:∀x∈ms,x.ok)(p:Nat)(f:Bool):(Sv.rC ms p f).ok:=by
 have hd:(Sv.dm).ok:=by simp[Sv.dm,Sv.aY.ok]
 have hg:(Sv.eC ms p f).ok:=by
  unfold Sv.eC;split
  .exact Sv.cy h p
  .exact hd
 exact hg
end Go.Proofs.YtfidhgjmifendaaGreatDoor
