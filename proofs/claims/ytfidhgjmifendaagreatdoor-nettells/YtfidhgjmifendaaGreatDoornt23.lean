import Derived.Test.YtfidhgjmifendaaGreatDoornt22
namespace Go.Proofs.YtfidhgjmifendaaGreatDoor
namespace Sv
open Go.RowKit
theorem RW(m:aT):m.e=if bb m.node=true then(if bb m.bu=true then(if bb m.name=true then(if lO m.tag=true then(if within m.addr 0 4294967295=true then(if within m.port 0 65535=true then(if within m.version 1 1000000=true then 0 else 3) else 3) else 3) else 1) else 1) else 1) else 1:=by
 unfold aT.e;cases bb m.node<;>cases bb m.bu<;>cases bb m.name<;>cases lO m.tag<;>cases within m.addr 0 4294967295<;>cases within m.port 0 65535<;>cases within m.version 1 1000000<;>rfl
end Sv
namespace Sv
open Go.RowKit
end Sv
namespace Sv
open Go.RowKit
end Sv
namespace Sv
open Go.RowKit
def AtI(ms:List aT)(node bu:ByteArray)(r:Int):Prop:=
 (∃k:Nat,k<ms.length/\r=k/\(ms.getD k dm).node=node/\(ms.getD k dm).bu=bu)\/(r = -1/\∀j,j<ms.length->¬ ((ms.getD j dm).node=node/\(ms.getD j dm).bu=bu))
set_option maxHeartbeats 800000 in
theorem Ed(ms:List aT)(v:Value)(node bu:ByteArray)(w:World)(hv:Sl w v ms)(hn:ms.length<=1000000) :
 Calls Tryz.prog 14 #[v,.string node,.string bu] w λe w'=>∃r:Int,e=.returned (.int .i64 r)/\Hid (AtI ms node bu r)/\w'=w:=by
 obtain⟨pa,ca,rfl,_,ha⟩:=hv;have HA:Hid _:=ha;clear ha;generalize Ho:ms.length=n at *;have HN:Hid _:=Ho;clear Ho;go_enter Tryz.func14,Tryz.ntmps14;go_wp2_with fail;go_loop [7] (λi=>∃k:Nat,k<=n/\i=.int .i64 k/\Hid (∀j,j<k->¬ ((ms.getD j dm).node=node/\(ms.getD j dm).bu=bu))) (λi=>n-(intOf i).toNat)
 case atStart=>exact⟨0,Nat.zero_le _,rfl,λj h=>absurd h (Nat.not_lt_zero _)⟩
 case round=>
  obtain⟨k,hk,rfl,hz⟩:=hrel;by_cases aW:k<n
  .obtain⟨b1,o1,uP,Bd,mj⟩:∃b off,pa=some ⟨b,off,none⟩/\b<w.heap.size/\Row w b off ms:=by
    rcases HA.out with h|h
    .have:=HN.out;rw[h] at this;simp at this;omega
    .exact h
   subst uP;obtain⟨c0,c1,c2,c3,c4,c5,c6,c7,c8⟩:=mj k (by rw[HN.out];exact aW);clear mj;have HF:Hid ((ms.getD k dm).node=node->(ms.getD k dm).bu=bu->AtI ms node bu (k:Int)):=λh h2=>.inl ⟨k,by rw[HN.out];exact aW,rfl,h,h2⟩;have HZ:Hid (¬ ((ms.getD k dm).node=node/\(ms.getD k dm).bu=bu)->∀j,j<k+1->¬ ((ms.getD j dm).node=node/\(ms.getD j dm).bu=bu)):=λh j hj=>by
    rcases Nat.lt_succ_iff_lt_or_eq.1 hj with h2|rfl
    .exact hz.out j h2
    .exact h
   generalize ms.getD k dm=m at *;obtain⟨mn,mi,m2,m3,m4,m5,m6,m7,m8⟩:=m;simp only at c0 c1;by_cases he:mn=node
   .subst he
    by_cases he2:mi=bu
    .subst he2
     have uj:Hid (AtI _ _ _ _):=HF.out rfl rfl;clear HF HZ;go_wp2_with fail;go_ret;exact⟨k,rfl,uj,rfl⟩
    .obtain⟨h1,h2⟩:=jG he2
     have HE:Hid _:=he2;clear he2;go_wp2_with fail;go_round
     case rel=>exact⟨k+1,by omega,by go_num,HZ.out (λh=>HE.out h.2)⟩
     case measure=>simp[intOf];omega
   .obtain⟨h1,h2⟩:=jG he
    have HE:Hid _:=he;clear he;go_wp2_with fail;go_round
    case rel=>exact⟨k+1,by omega,by go_num,HZ.out (λh=>HE.out h.1)⟩
    case measure=>simp[intOf];omega
  .go_wp2_with fail
   go_ret;exact⟨-1,rfl,.inr ⟨rfl,λj hj=>hz.out j (by have:=HN.out;omega)⟩,rfl⟩
theorem tp{a b:aT}:ord a b=0↔a.node=b.node/\a.bu=b.bu:=by
 constructor
 .intro h
  obtain⟨h1,h2⟩:=RL.fo h;exact⟨(bT _ _).1 h1,(bT _ _).1 h2⟩
 .rintro⟨h1,h2⟩
  show(if bO a.node b.node=0 then bO a.bu b.bu else bO a.node b.node)=0;rw[if_pos ((bT _ _).2 h1)];exact(bT _ _).2 h2
theorem RX{ms:List aT}{t:aT}{r:Int}{p:Nat}{f:Bool}(hi:AtI ms t.node t.bu r)(ha:At ms t p f)(hr:bn ms):(f=true->r=p)/\(f=false->r = -1):=by
 rcases hi with⟨k,hk,rfl,hn⟩|⟨rfl,hn⟩
 .obtain⟨rfl,rfl⟩:=ey ha (RL.yB ord dm keyed hr hk (tp.2 hn))
  exact⟨λ_=>rfl,λh=>by cases h⟩
 .refine⟨λh=>?_,λ_=>rfl⟩
  have:=ha.is.1 h;exact absurd (tp.1 this.2) (hn p this.1)
theorem Hp{ms:List aT}{m:aT}{p:Nat}{f:Bool}(h:At ms m p f)(hn:f=true->bP m (ms.getD p dm)=true):RL.put ms m p f=aP ms m:=(RL.Gz ord bP dm h hn).symm
end Sv
end Go.Proofs.YtfidhgjmifendaaGreatDoor
