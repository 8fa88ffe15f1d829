import Derived.Test.YtfidhgjmifendaaGreatDoorns17
namespace Go.Proofs.YtfidhgjmifendaaGreatDoor
namespace Gw
open Go.RowKit
theorem kt{a b:List bL}(h:aE a b=0):bl a=0/\bl b=0/\(av a b).length<=6:=by
 by_cases ha:bl a=0
 .by_cases hb:bl b=0
  .rw[iF ha hb] at h
   refine⟨ha,hb,?_⟩;split at h
   .cases h
   .omega
  .rw[lV ha hb] at h;exact absurd h hb
 .rw[oN ha] at h;exact absurd h ha
theorem nr{a b:List bL}(h:aE a b=0):bl (av a b)=0:=by
 obtain⟨ha,hb,hl⟩:=kt h;have za:=af ha;have zb:=af hb;exact ki hl (dF b a za.2.1) λm hm=>by
  rcases dW b a m hm with h|h
  .exact bf a za.2.2 m h
  .exact bf b zb.2.2 m h
end Gw
namespace Gw
open Go.RowKit
end Gw
namespace Gw
open Go.RowKit
end Gw
namespace Gw
open Go.RowKit
end Gw
end Go.Proofs.YtfidhgjmifendaaGreatDoor
