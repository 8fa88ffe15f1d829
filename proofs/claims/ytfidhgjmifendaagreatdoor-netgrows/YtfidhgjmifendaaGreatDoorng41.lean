import Derived.Test.YtfidhgjmifendaaGreatDoorng40
set_option maxHeartbeats 1600000
open Go.Value renaming string→Y,int→U,bool→Ia
open Go.IntKind renaming i64→O
open Go.Proofs.Tryz renaming prog→AS,func27→Ub,ntmps27→QO
namespace Go.Proofs.YtfidhgjmifendaaGreatDoor
namespace Sv
open Go.RowKit
end Sv
namespace Sv
open Go.RowKit
theorem zE(f:Nat)(hf:f=27)(a_node:ByteArray)(a_idn:ByteArray)(a_name:ByteArray)(a_tag:ByteArray)(a_addr:Int)(a_port:Int)(a_passing:Bool)(a_version:Int)(a_gone:Bool)(b_node:ByteArray)(b_idn:ByteArray)(b_name:ByteArray)(b_tag:ByteArray)(b_addr:Int)(b_port:Int)(b_passing:Bool)(b_version:Int)(b_gone:Bool)(w:World) :
 Calls AS f #[.agg #[Y a_node,Y a_idn,Y a_name,Y a_tag,U O a_addr,U O a_port,Ia a_passing,U O a_version,Ia a_gone],.agg #[Y b_node,Y b_idn,Y b_name,Y b_tag,U O b_addr,U O b_port,Ia b_passing,U O b_version,Ia b_gone]] w λe w'=>e=.returned (Ia (bN ⟨a_node,a_idn,a_name,a_tag,a_addr,a_port,a_passing,a_version,a_gone⟩ ⟨b_node,b_idn,b_name,b_tag,b_addr,b_port,b_passing,b_version,b_gone⟩))/\Below w.heap.size w w':=by
 subst hf;have hB:Hid (Below w.heap.size w ((w.alloc (.cells #[Y a_node,Y a_idn,Y a_name,Y a_tag,U O a_addr,U O a_port,Ia a_passing,U O a_version,Ia a_gone] 46)).alloc (.cells #[Y b_node,Y b_idn,Y b_name,Y b_tag,U O b_addr,U O b_port,Ia b_passing,U O b_version,Ia b_gone] 46))):=((Below.refl _ _).alloc (Nat.le_refl _) _).alloc (by simp) _;by_cases h1:a_version=b_version
 .subst h1
  by_cases h2:a_gone=b_gone
  .subst h2
   by_cases h3:a_name=b_name
   .subst h3
    by_cases h4:a_tag=b_tag
    .subst h4
     by_cases h5:a_addr=b_addr
     .subst h5
      by_cases h6:a_port=b_port
      .subst h6
       cases a_passing
       all_goals
        go_enter Ub,QO;go_wp2;go_ret;exact⟨aL (by rw[dW];simp),hB.out⟩
      .have h6':(a_port !=b_port)=true:=by simpa using h6
       go_enter Ub,QO;go_wp2;go_ret;exact⟨aL (by rw[dW];simp[h6]),hB.out⟩
     .have h5':(a_addr !=b_addr)=true:=by simpa using h5
      go_enter Ub,QO;go_wp2;go_ret;exact⟨aL (by rw[dW];simp[h5]),hB.out⟩
    .obtain⟨g1,g2⟩:=fP h4
     have H4:Hid (¬ a_tag=b_tag):=h4;clear h4;go_enter Ub,QO;go_wp2;go_ret;exact⟨aL (by rw[dW];simp[H4.out,less];exact pN H4.out),hB.out⟩
   .obtain⟨g1,g2⟩:=fP h3
    have H3:Hid (¬ a_name=b_name):=h3;clear h3;go_enter Ub,QO;go_wp2;go_ret;exact⟨aL (by rw[dW];simp[H3.out,less];exact pN H3.out),hB.out⟩
  .have hg:b_gone = !a_gone:=by cases a_gone<;>cases b_gone<;>simp at h2 ⊢
   subst hg;clear h2;cases a_gone
   all_goals
    go_enter Ub,QO;go_wp2;go_ret;exact⟨aL (by rw[dW];simp),hB.out⟩
 .have L2:(a_version !=b_version)=true:=by simpa using h1
  go_enter Ub,QO;go_wp2;go_ret;exact⟨aL (by rw[dW];simp[h1]),hB.out⟩
theorem B1(a b:aW)(w:World) :
 Calls AS 27 #[.agg #[Y a.node,Y a.bq,Y a.name,Y a.tag,U O a.addr,U O a.port,Ia a.aj,U O a.version,Ia a.gone],.agg #[Y b.node,Y b.bq,Y b.name,Y b.tag,U O b.addr,U O b.port,Ia b.aj,U O b.version,Ia b.gone]] w λe w'=>e=.returned (Ia (bN a b))/\Below w.heap.size w w':=
 zE _ rfl a.node a.bq a.name a.tag a.addr a.port a.aj a.version a.gone b.node b.bq b.name b.tag b.addr b.port b.aj b.version b.gone w
def Ns(ms:List aW)(node bq:ByteArray)(r:Int):Prop:=
 (∃k:Nat,k<ms.length/\r=k/\(ms.getD k dm).node=node/\(ms.getD k dm).bq=bq)\/(r = -1/\∀j,j<ms.length->¬ ((ms.getD j dm).node=node/\(ms.getD j dm).bq=bq))
theorem qM(ms:List aW)(v:Value)(node bq:ByteArray)(w:World)(hv:Sl w v ms)(hn:ms.length<=1000000) :
 Calls AS 14 #[v,Y node,Y bq] w λe w'=>∃r:Int,e=.returned (U O r)/\Hid (Ns ms node bq r)/\w'=w:=by
 obtain⟨pa,ca,rfl,_,ha⟩:=hv;have HA:Hid _:=ha;clear ha;generalize Dk:ms.length=n at *;have HN:Hid _:=Dk;clear Dk;go_enter Tryz.func14,Tryz.ntmps14;go_wp2_with fail;go_loop [7] (λi=>∃k:Nat,k<=n/\i=U O k/\Hid (∀j,j<k->¬ ((ms.getD j dm).node=node/\(ms.getD j dm).bq=bq))) (λi=>n-(intOf i).toNat)
 case atStart=>exact⟨0,Nat.zero_le _,rfl,λj h=>absurd h (Nat.not_lt_zero _)⟩
 case round=>
  obtain⟨k,hk,rfl,hz⟩:=hrel;by_cases aR:k<n
  .obtain⟨b1,o1,sX,Av,lg⟩:∃b off,pa=some ⟨b,off,none⟩/\b<w.heap.size/\Row w b off ms:=by
    rcases HA.out with h|h
    .have:=HN.out;rw[h] at this;simp at this;omega
    .exact h
   subst sX;obtain⟨c0,c1,c2,c3,c4,c5,c6,c7,c8⟩:=lg k (by rw[HN.out];exact aR);clear lg;have HF:Hid ((ms.getD k dm).node=node->(ms.getD k dm).bq=bq->Ns ms node bq (k:Int)):=λh h2=>.inl ⟨k,by rw[HN.out];exact aR,rfl,h,h2⟩;have HZ:Hid (¬ ((ms.getD k dm).node=node/\(ms.getD k dm).bq=bq)->∀j,j<k+1->¬ ((ms.getD j dm).node=node/\(ms.getD j dm).bq=bq)):=λh j hj=>by
    rcases Nat.lt_succ_iff_lt_or_eq.1 hj with h2|rfl
    .exact hz.out j h2
    .exact h
   generalize ms.getD k dm=m at *;obtain⟨mn,mi,m2,m3,m4,m5,m6,m7,m8⟩:=m;simp only at c0 c1;by_cases he:mn=node
   .subst he
    by_cases he2:mi=bq
    .subst he2
     have rY:Hid (Ns _ _ _ _):=HF.out rfl rfl;clear HF HZ;go_wp2_with fail;go_ret;exact⟨k,rfl,rY,rfl⟩
    .obtain⟨h1,h2⟩:=fP he2
     have HE:Hid _:=he2;clear he2;go_wp2_with fail;go_round
     case rel=>exact⟨k+1,by omega,by go_num,HZ.out (λh=>HE.out h.2)⟩
     case measure=>simp[intOf];omega
   .obtain⟨h1,h2⟩:=fP he
    have HE:Hid _:=he;clear he;go_wp2_with fail;go_round
    case rel=>exact⟨k+1,by omega,by go_num,HZ.out (λh=>HE.out h.1)⟩
    case measure=>simp[intOf];omega
  .go_wp2_with fail
   go_ret;exact⟨-1,rfl,.inr ⟨rfl,λj hj=>hz.out j (by have:=HN.out;omega)⟩,rfl⟩
theorem tO{a b:aW}:ord a b=0↔a.node=b.node/\a.bq=b.bq:=by
 constructor
 .intro h
  obtain⟨h1,h2⟩:=RL.fT h;exact⟨(bR _ _).1 h1,(bR _ _).1 h2⟩
 .rintro⟨h1,h2⟩
  show(if bO a.node b.node=0 then bO a.bq b.bq else bO a.node b.node)=0;rw[if_pos ((bR _ _).2 h1)];exact(bR _ _).2 h2
theorem B3{ms:List aW}{t:aW}{r:Int}{p:Nat}{f:Bool}(hi:Ns ms t.node t.bq r)(ha:At ms t p f)(hr:bl ms):(f=true->r=p)/\(f=false->r = -1):=by
 rcases hi with⟨k,hk,rfl,hn⟩|⟨rfl,hn⟩
 .obtain⟨rfl,rfl⟩:=ed ha (RL.yj ord dm keyed hr hk (tO.2 hn))
  exact⟨λ_=>rfl,λh=>by cases h⟩
 .refine⟨λh=>?_,λ_=>rfl⟩
  have:=ha.is.1 h;exact absurd (tO.1 this.2) (hn p this.1)
def atV(p:Nat)(f:Bool):Int:=if f=true then(p:Int) else -1
theorem S9(ms:List aW)(v:Value)(t:aW)(w:World)(hv:Sl w v ms)(hn:ms.length<=1000000)(hr:bl ms)(p:Nat)(f:Bool)(ha:At ms t p f) :
 Calls AS 14 #[v,Y t.node,Y t.bq] w λe w'=>e=.returned (U O (atV p f))/\Below w.heap.size w w':=by
 refine(qM ms v t.node t.bq w hv hn).mono ?_;rintro e w' ⟨r,rfl,hI,rfl⟩;have h:=B3 hI.out ha hr;refine⟨?_,Below.refl _ _⟩;cases f
 .rw[h.2 rfl];rfl
 .rw[h.1 rfl];rfl
theorem KP{ms:List aW}{m:aW}{p:Nat}{f:Bool}(h:At ms m p f)(hn:f=true->bN m (ms.getD p dm)=true):RL.put ms m p f=aQ ms m:=(RL.GG ord bN dm h hn).symm
end Sv
namespace Sv
open Go.RowKit
theorem Ta{ms:List aW}{m:aW}{p:Nat}{f:Bool}(h:∀x∈ms,x.ok)(hm:m.ok):∀x∈RL.put ms m p f,x.ok:=λx hx=>by
 unfold RL.put at hx;rcases List.mem_append.1 hx with hx|hx
 .exact h x (List.mem_of_mem_take hx)
 .rcases List.mem_cons.1 hx with rfl|hx
  .exact hm
  .exact h x (List.mem_of_mem_drop hx)
def Wz(ms:List aW)(p:Nat)(f:Bool)(s:aW):aW:={ s with version:=(ev ms p f).version+1 }
def xD(ms:List aW)(p:Nat)(f:Bool)(s:aW):Int:=
 if(ev ms p f).version+1<=1000000 then(if 40<(RL.put ms (Wz ms p f s) p f).length then 2 else 0) else 3
end Sv
namespace Sv
open Go.RowKit
def zF(s:aW):aW:={ s with version:=1,gone:=false }
theorem WA(ms:List aW)(p:Nat)(f:Bool)(s:aW)(hv:0<=(ev ms p f).version):(Az ms p f s).e=if(zF s).e=0 then(if(ev ms p f).version+1<=1000000 then 0 else 3) else(zF s).e:=by
 have h:(within ((ev ms p f).version+1) 1 1000000=true)↔(ev ms p f).version+1<=1000000:=by simp[within];omega
 have h1:within (1:Int) 1 1000000=true:=by decide
 rw[S8,S8];show(if ba s.node=true then(if ba s.bq=true then(if ba s.name=true then(if lE s.tag=true then(if within s.addr 0 4294967295=true then(if within s.port 0 65535=true then(if within ((ev ms p f).version+1) 1 1000000=true then(0:Int) else 3) else 3) else 3) else 1) else 1) else 1) else 1)=(if(if ba s.node=true then(if ba s.bq=true then(if ba s.name=true then(if lE s.tag=true then(if within s.addr 0 4294967295=true then(if within s.port 0 65535=true then(if within (1:Int) 1 1000000=true then(0:Int) else 3) else 3) else 3) else 1) else 1) else 1) else 1)=0 then(if(ev ms p f).version+1<=1000000 then 0 else 3) else(if ba s.node=true then(if ba s.bq=true then(if ba s.name=true then(if lE s.tag=true then(if within s.addr 0 4294967295=true then(if within s.port 0 65535=true then(if within (1:Int) 1 1000000=true then(0:Int) else 3) else 3) else 3) else 1) else 1) else 1) else 1));rw[h1];by_cases h3:(ev ms p f).version+1<=1000000
 .rw[h.2 h3]
  cases ba s.node<;>cases ba s.bq<;>cases ba s.name<;>cases lE s.tag<;>cases within s.addr 0 4294967295<;>cases within s.port 0 65535<;>simp[h3]
 .have h4:within ((ev ms p f).version+1) 1 1000000=false:=by
   cases hw:within ((ev ms p f).version+1) 1 1000000
   .rfl
   .exact absurd (h.1 hw) h3
  rw[h4];cases ba s.node<;>cases ba s.bq<;>cases ba s.name<;>cases lE s.tag<;>cases within s.addr 0 4294967295<;>cases within s.port 0 65535<;>simp[h3]
theorem Tb{ms:List aW}{p:Nat}{f:Bool}{m:aW}(hf:f=true)(hm:m.version=(ev ms p f).version+1):bN m (ms.getD p dm)=true:=by
 rw[dW];have hv:m.version=(ms.getD p dm).version+1:=by rw[hm,ev,if_pos hf]
 rw[if_neg (by omega)];exact decide_eq_true (by omega)
end Sv
end Go.Proofs.YtfidhgjmifendaaGreatDoor
