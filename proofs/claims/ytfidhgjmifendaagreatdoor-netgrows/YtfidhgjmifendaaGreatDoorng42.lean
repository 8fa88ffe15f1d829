import Derived.Test.YtfidhgjmifendaaGreatDoorng23
namespace Go.Proofs.YtfidhgjmifendaaGreatDoor
namespace Gw
open Go.RowKit
theorem jQ{a b:List bC}(h:aE a b=0):bj a=0/\bj b=0/\(av a b).length<=6:=by
 by_cases ha:bj a=0
 .by_cases hb:bj b=0
  .rw[il ha hb] at h
   refine⟨ha,hb,?_⟩;split at h
   .cases h
   .omega
  .rw[lJ ha hb] at h;exact absurd h hb
 .rw[oj ha] at h;exact absurd h ha
theorem mJ{a b:List bC}(h:aE a b=0):bj (av a b)=0:=by
 obtain⟨ha,hb,hl⟩:=jQ h;have za:=af ha;have zb:=af hb;exact jR hl (dD b a za.2.1) λm hm=>by
  rcases eB b a m hm with h|h
  .exact bb a za.2.2 m h
  .exact bb b zb.2.2 m h
end Gw
namespace Gw
open Go.RowKit
end Gw
namespace Gw
open Go.RowKit
def Ns(ms:List bC)(t:ByteArray)(r:Int):Prop:=
 (∃k:Nat,k<ms.length/\r=k/\(ms.getD k dm).aC=t)\/(r = -1/\∀j,j<ms.length->(ms.getD j dm).aC≠t)
set_option maxHeartbeats 800000 in
theorem qM(ms:List bC)(v:Value)(t:ByteArray)(w:World)(hv:Sl w v ms)(hn:ms.length<=9223372036854775807) :
 aF 28 #[v,.string t] w λe w'=>∃r:Int,e=.returned (.int .i64 r)/\Hid (Ns ms t r)/\w'=w:=by
 obtain⟨pa,ca,rfl,_,ha⟩:=hv;have HA:Hid _:=ha;clear ha;generalize Dk:ms.length=n at *;have HN:Hid _:=Dk;clear Dk;go_enter Tryz.func28,Tryz.ntmps28;go_wp2_with fail;go_loop [5] (λi=>∃k:Nat,k<=n/\i=.int .i64 k/\Hid (∀j,j<k->(ms.getD j dm).aC≠t)) (λi=>n-(intOf i).toNat)
 case atStart=>exact⟨0,Nat.zero_le _,rfl,λj h=>absurd h (Nat.not_lt_zero _)⟩
 case round=>
  obtain⟨k,hk,rfl,hz⟩:=hrel;by_cases aR:k<n
  .obtain⟨b1,o1,sX,Av,lg⟩:∃b off,pa=some ⟨b,off,none⟩/\b<w.heap.size/\Row w b off ms:=by
    rcases HA.out with h|h
    .have:=HN.out;rw[h] at this;simp at this;omega
    .exact h
   subst sX;obtain⟨c0,_,_⟩:=lg k (by rw[HN.out];exact aR);clear lg;have HF:Hid ((ms.getD k dm).aC=t->Ns ms t (k:Int)):=λh=>.inl ⟨k,by rw[HN.out];exact aR,rfl,h⟩;have HZ:Hid ((ms.getD k dm).aC≠t->∀j,j<k+1->(ms.getD j dm).aC≠t):=λh j hj=>by
    rcases Nat.lt_succ_iff_lt_or_eq.1 hj with h2|rfl
    .exact hz.out j h2
    .exact h
   generalize(ms.getD k dm).aC=nm at *;by_cases he:nm=t
   .subst he
    have rY:Hid (Ns _ _ _):=HF.out rfl;clear HF HZ;go_wp2_with fail;go_ret;exact⟨k,rfl,rY,rfl⟩
   .obtain⟨h1,h2⟩:=fP he
    have HE:Hid _:=he;clear he;go_wp2_with fail;go_round
    case rel=>exact⟨k+1,by omega,by go_num,HZ.out HE.out⟩
    case measure=>simp[intOf];omega
  .go_wp2_with fail
   go_ret;exact⟨-1,rfl,.inr ⟨rfl,λj hj=>hz.out j (by have:=HN.out;omega)⟩,rfl⟩
theorem B3{ms:List bC}{t:bC}{r:Int}{p:Nat}{f:Bool}(hi:Ns ms t.aC r)(ha:At ms t p f)(hr:bl ms):(f=true->r=p)/\(f=false->r = -1):=by
 rcases hi with⟨k,hk,rfl,hn⟩|⟨rfl,hn⟩
 .obtain⟨rfl,rfl⟩:=ed ha (RL.yj ord dm keyed hr hk ((bR _ _).2 hn))
  exact⟨λ_=>rfl,λh=>by cases h⟩
 .refine⟨λh=>?_,λ_=>rfl⟩
  have:=ha.is.1 h;exact absurd ((bR _ _).1 this.2) (hn p this.1)
end Gw
namespace Gw
open Go.RowKit
end Gw
namespace Gw
open Go.RowKit
end Gw
namespace Gw
open Go.RowKit
end Gw
end Go.Proofs.YtfidhgjmifendaaGreatDoor
