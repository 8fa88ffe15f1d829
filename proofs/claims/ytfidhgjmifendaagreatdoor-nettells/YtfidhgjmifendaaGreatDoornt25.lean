import Derived.Test.YtfidhgjmifendaaGreatDoornt20
namespace Go.Proofs.YtfidhgjmifendaaGreatDoor
namespace Gw
open Go.RowKit
theorem jU{a b:List bK}(h:aE a b=0):bj a=0/\bj b=0/\(av a b).length<=6:=by
 by_cases ha:bj a=0
 .by_cases hb:bj b=0
  .rw[ik ha hb] at h
   refine⟨ha,hb,?_⟩;split at h
   .cases h
   .omega
  .rw[lH ha hb] at h;exact absurd h hb
 .rw[oq ha] at h;exact absurd h ha
theorem mP{a b:List bK}(h:aE a b=0):bj (av a b)=0:=by
 obtain⟨ha,hb,hl⟩:=jU h;have za:=af ha;have zb:=af hb;exact jV hl (dE b a za.2.1) λm hm=>by
  rcases dS b a m hm with h|h
  .exact bc a za.2.2 m h
  .exact bc b zb.2.2 m h
end Gw
namespace Gw
open Go.RowKit
end Gw
namespace Gw
open Go.RowKit
end Gw
namespace Gw
open Go.RowKit
end Gw
namespace Gw
open Go.RowKit
end Gw
namespace Gw
open Go.RowKit
end Gw
end Go.Proofs.YtfidhgjmifendaaGreatDoor
