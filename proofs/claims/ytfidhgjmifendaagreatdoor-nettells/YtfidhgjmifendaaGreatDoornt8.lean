import Derived.Test.YtfidhgjmifendaaGreatDoornt6
set_option maxHeartbeats 800000
set_option maxRecDepth 100000
open List renaming getD_cons_zero→I2,getD_cons_succ→JA,getD→Ip,getElem?_eq_getElem→If,range→JD,any_eq_true→Qj
open Go.Value renaming agg→Ij,string→Y,int→U,bool→Ia,slice→J,func→IQ,tuple→Ik
open Go.IntKind renaming i64→O
open Go.Ending renaming returned→By
open Go.RowKit.Below renaming refl→Ib
open Nat renaming le_refl→Ic,not_lt_zero→Jq
open Go.Proofs.Tryz renaming prog→AS
open Go.Sort renaming grow→Io
open Go renaming redrawn→Iz,Regrown→JW,wp_region_quiet_below→IJ,below_drewN→I8
open Go.Calls renaming regrown_of→I3
namespace Go.Proofs.YtfidhgjmifendaaGreatDoor
namespace Gw
open Go.RowKit
def ord(a b:bK):Int:=bO a.aD b.aD
theorem keyed:RL.Keyed ord:=RL.jD bK.aD
def xy:bK->bK->Int:=RL.lex (λa b=>a.version-b.version) (λa b=>a.addr-b.addr)
theorem BD:RL.Keyed xy:=RL.gA (RL.iz bK.version) (RL.iz bK.addr)
def bP(a b:bK):Bool:=decide (0<xy a b)
theorem iA:RL.qj ord bP:=RL.vR BD λa b h1 h2=>by
 obtain⟨h3,h4⟩:=RL.fo h2;have e1:a.aD=b.aD:=(bT _ _).1 h1;have e2:a.version=b.version:=by omega
 have e3:a.addr=b.addr:=by omega
 obtain⟨a_centre,a_addr,a_version⟩:=a;obtain⟨b_centre,b_addr,b_version⟩:=b;simp only at e1 e2 e3;subst e1 e2 e3;rfl
abbrev bn(ms:List bK):Prop:=RL.bn ord ms
abbrev aP(ms:List bK)(m:bK):List bK:=RL.fJ ord bP ms m
abbrev av(a b:List bK):List bK:=RL.join ord bP a b
abbrev At(ms:List bK)(t:bK)(p:Nat)(f:Bool):Prop:=RL.At ord dm ms t p f
abbrev aL(ms:List bK):Bool:=RL.aL ord ms
theorem dP{ms:List bK}(h:bn ms)(t:bK):∀i j,i<=j->j<ms.length->ord (ms.getD j dm) t<0->ord (ms.getD i dm) t<0:=RL.dP ord dm keyed h t
theorem fp(ms:List bK)(h:∀j,j+1<ms.length->ord (ms.getD j dm) (ms.getD (j+1) dm)<0):aL ms=true:=RL.gq ord dm ms h
theorem fq(ms:List bK)(h:aL ms=true):∀j,j+1<ms.length->ord (ms.getD j dm) (ms.getD (j+1) dm)<0:=RL.ia ord dm ms h
theorem jI(ms:List bK)(hr:bn ms)(t:bK):∃p f,At ms t p f:=RL.jI ord dm keyed ms hr t
theorem ey{ms:List bK}{t:bK}{p q:Nat}{f e:Bool}(h:At ms t p f)(k:At ms t q e):p=q/\f=e:=RL.ey ord dm h k
theorem dd(ms:List bK)(m:bK)(p:Nat)(f:Bool)(h:At ms m p f) :
 aP ms m=if f=true then(if bP m (ms.getD p dm)=true then ms.set p m else ms) else ms.take p++m::ms.drop p:=RL.oR ord bP dm ms m p f h
theorem dE(b a:List bK)(h:bn a):bn (av a b):=RL.kM ord bP keyed b a h
theorem di(b a:List bK):(av a b).length<=a.length+b.length:=RL.oT ord bP b a
theorem dS(b a:List bK)(x:bK)(h:x∈av a b):x∈a\/x∈b:=RL.oU ord bP b a x h
theorem gd(a b:List bK)(j:Nat)(hj:j<b.length):av a (b.take (j+1))=aP (av a (b.take j)) (b.getD j dm):=RL.ql ord bP dm a b j hj
theorem iq(b:List bK)(h:bn b):av [] b=b:=RL.join_nil ord bP b h
theorem iI(b a:List bK)(ha:∀m∈a,m.ok)(hb:∀m∈b,m.ok):∀x∈av a b,x.ok:=by
 intro x hx;rcases dS b a x hx with h|h
 .exact ha x h
 .exact hb x h
def bK.e(m:bK):Int:=if bb m.aD=true then(if within m.addr 0 4294967295=true then(if within m.version 1 1000000=true then 0 else 3) else 3) else 1
def aR:List bK->Int
 |[]=>0
 |m::r=>if m.e=0 then aR r else m.e
theorem cE:∀(ms:List bK),(∀j,j<ms.length->(ms.getD j dm).e=0)->aR ms=0
 |[],_=>rfl
 |m::r,h=>by
  have h0:=h 0 (by simp);simp only[I2] at h0;rw[aR,if_pos h0];exact cE r λj hj=>by have:=h (j+1) (by simpa using hj);simpa using this
theorem dU:∀(ms:List bK) (k:Nat),k<ms.length->(∀j,j<k->(ms.getD j dm).e=0)->(ms.getD k dm).e≠0->aR ms=(ms.getD k dm).e
 |[],k,h,_,_=>by simp at h
 |m::r,0,_,_,aM=>by
  simp only[I2] at aM ⊢;rw[aR,if_neg aM]
 |m::r,k+1,h,hz,aM=>by
  have h0:=hz 0 (by omega);simp only[I2] at h0;rw[aR,if_pos h0,JA];rw[JA] at aM;exact dU r k (by simpa using h) (λj hj=>by have:=hz (j+1) (by omega);simpa using this) aM
theorem bc:∀(ms:List bK),aR ms=0->∀m∈ms,m.e=0
 |[],_,m,hm=>by simp at hm
 |x::r,h,m,hm=>by
  rw[aR] at h;split at h
  .rename_i hx
   rcases List.mem_cons.1 hm with rfl|hm
   .exact hx
   .exact bc r h m hm
  .rename_i hx;exact absurd h hx
theorem ft:∀(ms:List bK),(∀m∈ms,m.e=0)->aR ms=0
 |[],_=>rfl
 |x::r,h=>by rw[aR,if_pos (h x (by simp))];exact ft r λm hm=>h m (by simp[hm])
def bj(ms:List bK):Int:=if 6<ms.length then 2 else if aR ms=0 then(if aL ms=true then 0 else 4) else aR ms
theorem tD(ms:List bK)(k:Nat)(hn:ms.length<=6)(hk:k<ms.length)(hz:∀j,j<k->(ms.getD j dm).e=0)(aM:(ms.getD k dm).e≠0):bj ms=(ms.getD k dm).e:=by
 have h:=dU ms k hk hz aM;rw[bj,if_neg (by omega),h,if_neg aM]
theorem ry(ms:List bK)(hn:ms.length<=6)(hz:∀j,j<ms.length->(ms.getD j dm).e=0):bj ms=if aL ms=true then 0 else 4:=by
 rw[bj,if_neg (by omega),cE ms hz,if_pos rfl]
theorem af{ms:List bK}(h:bj ms=0):ms.length<=6/\bn ms/\aR ms=0:=by
 unfold bj at h;split at h
 .omega
 .split at h
  .rename_i h1 h2
   split at h
   .rename_i h3
    exact⟨by omega,RL.lq ord keyed ms h3,h2⟩
   .omega
  .rename_i h1 h2;exact absurd h h2
theorem jV{ms:List bK}(h1:ms.length<=6)(h2:bn ms)(h3:∀m∈ms,m.e=0):bj ms=0:=by
 rw[bj,if_neg (by omega),ft ms h3,if_pos rfl,if_pos (RL.jH ord ms h2)]
def aO(a b:List bK):Int:=if bj a=0 then bj b else bj a
def dF(a b:List bK)(k:Nat):List bK:=if k=0 then[] else if k=1 then a else av a b
def aE(a b:List bK):Int:=if aO a b=0 then(if 6<(av a b).length then 2 else 0) else aO a b
end Gw
end Go.Proofs.YtfidhgjmifendaaGreatDoor
namespace Go.Proofs.YtfidhgjmifendaaGreatDoor
open Go.RowKit
def cI(ms:List Mem)(t:ByteArray):Option Mem:=ms.find? λm=>decide (m.name=t)
def eV(ms:List Mem)(t:ByteArray):Mem:=(cI ms t).getD dm
theorem qC{ms:List Mem}{t:ByteArray}(h:∀j,j<ms.length->(ms.getD j dm).name≠t):cI ms t=none:=by
 unfold cI;rw[List.find?_eq_none];intro x hx;obtain⟨j,hj,rfl⟩:=List.getElem_of_mem hx;have:=h j hj;rw[show ms.getD j dm=ms[j] by simp[Ip,If hj]] at this;simpa using this
theorem ny{ms:List Mem}{t:ByteArray}{k:Nat}(hk:k<ms.length)(h1:∀j,j<k->(ms.getD j dm).name≠t)(h2:(ms.getD k dm).name=t):cI ms t=some (ms.getD k dm):=by
 unfold cI;rw[show ms.getD k dm=ms[k] by simp[Ip,If hk]] at h2 ⊢;rw[List.find?_eq_some_iff_getElem];refine⟨by simpa using h2,k,hk,rfl,λj hj=>?_⟩;have:=h1 j hj;rw[show ms.getD j dm=ms[j]'(by omega) by simp[Ip,If (show j<ms.length by omega)]] at this;simpa using this
theorem iQ{ms:List Mem}{t:ByteArray}{m:Mem}(h:cI ms t=some m):m∈ms/\m.name=t:=by
 unfold cI at h;exact⟨List.mem_of_find?_eq_some h,by simpa using List.find?_some h⟩
def mC(ms:List Mem):Prop:=∀i j,i<j->j<ms.length->(ms.getD i dm).name≠(ms.getD j dm).name
def apB(ms:List Mem):Bool:=(JD ms.length).all λj=>(JD j).all λi=>decide ((ms.getD i dm).name≠(ms.getD j dm).name)
theorem yj(ms:List Mem):apB ms=true↔mC ms:=by
 simp only[apB,List.all_eq_true,List.mem_range,decide_eq_true_eq];exact⟨λh i j iY hj=>h j hj i iY,λh j hj i iY=>h i j iY hj⟩
def lA(ms:List Mem):Int:=if 5<ms.length then 2 else if aR ms=0 then(if apB ms=true then 0 else 6) else aR ms
theorem DL{ms:List Mem}(h:5<ms.length):lA ms=2:=if_pos h
theorem Rl{ms:List Mem}{k:Nat}(hn:ms.length<=5)(hk:k<ms.length)(hz:∀j,j<k->(ms.getD j dm).e=0)(aM:(ms.getD k dm).e≠0):lA ms=(ms.getD k dm).e:=by
 have h:=dU ms k hk hz aM;rw[lA,if_neg (by omega),h,if_neg aM]
theorem AL{ms:List Mem}(hn:ms.length<=5)(hz:∀j,j<ms.length->(ms.getD j dm).e=0)(hd:¬ mC ms):lA ms=6:=by
 rw[lA,if_neg (by omega),if_pos (cE ms hz),if_neg (λh=>hd ((yj ms).1 h))]
theorem CE{ms:List Mem}(hn:ms.length<=5)(hz:∀j,j<ms.length->(ms.getD j dm).e=0)(hd:mC ms):lA ms=0:=by
 rw[lA,if_neg (by omega),if_pos (cE ms hz),if_pos ((yj ms).2 hd)]
theorem vQ{ms:List Mem}(h:lA ms=0):ms.length<=5/\aR ms=0/\mC ms:=by
 unfold lA at h;split at h
 .cases h
 .split at h
  .rename_i h1 h2
   split at h
   .rename_i h3;exact⟨by omega,h2,(yj ms).1 h3⟩
   .cases h
  .rename_i h1 h2;exact absurd h h2
structure Pk where
 cU:ByteArray
 whole:Bool
 ms:List Mem
 sv:List Sv.aT
 gw:List Gw.bK
 wh:List Wh.bE
def Pk.alone(p:Pk):Bool:=p.sv.isEmpty&&(p.gw.isEmpty&&p.wh.isEmpty)
def Pk.mE(p:Pk):Int:=if p.whole=true then bj p.ms else lA p.ms
def Pk.e(p:Pk):Int:=
 if(bb p.cU&&(p.whole||p.alone))=true then
  (if p.mE=0 then(if Sv.bj p.sv=0 then(if Gw.bj p.gw=0 then Wh.bj p.wh else Gw.bj p.gw) else Sv.bj p.sv) else p.mE)
 else 1
structure Nd where
 name:ByteArray
 aD:ByteArray
 ms:List Mem
 rs:List bL
 sv:List Sv.aT
 gw:List Gw.bK
 p:Pl
 wh:List Wh.bE
def fk(ms:List Mem)(r:bL):Bool:=match cI ms r.m.name with
 |none=>true
 |some k=>eB r.m k
def Nd.wE(n:Nd):Int:=match cI n.ms n.name with
 |none=>5
 |some m=>if m.state=2\/m.state=3 then 4 else if n.rs.any (fk n.ms)=true then 4 else 0
def Nd.pE(n:Nd):Int:=
 if(bb n.name&&bb n.aD)=true then
  (if bj n.ms=0 then(if dW n.rs=0 then(if Sv.bj n.sv=0 then(if Gw.bj n.gw=0 then(if dZ n.p=0 then Wh.bj n.wh else dZ n.p) else Gw.bj n.gw) else Sv.bj n.sv) else dW n.rs) else bj n.ms)
 else 1
def Nd.e(n:Nd):Int:=if n.pE=0 then n.wE else n.pE
structure Nd.nP(n:Nd):Prop where
 name:bb n.name=true
 aD:bb n.aD=true
 ms:bj n.ms=0
 rs:dW n.rs=0
 sv:Sv.bj n.sv=0
 gw:Gw.bj n.gw=0
 p:dZ n.p=0
 wh:Wh.bj n.wh=0
theorem Nd.parts{n:Nd}(h:n.pE=0):n.nP:=by
 unfold Nd.pE at h;split at h
 .rename_i h0
  rw[Bool.and_eq_true] at h0;split at h
  .rename_i h1
   split at h
   .rename_i h2
    split at h
    .rename_i h3
     split at h
     .rename_i h4
      split at h
      .rename_i h5;exact⟨h0.1,h0.2,h1,h2,h3,h4,h5,h⟩
      .rename_i h5;exact absurd h h5
     .rename_i h4;exact absurd h h4
    .rename_i h3;exact absurd h h3
   .rename_i h2;exact absurd h h2
  .rename_i h1;exact absurd h h1
 .cases h
theorem Nd.aU{n:Nd}(h:n.e=0):n.pE=0/\n.wE=0:=by
 unfold Nd.e at h;split at h
 .rename_i h1;exact⟨h1,h⟩
 .rename_i h1;exact absurd h h1
theorem Nd.ko{n:Nd}(h:n.wE=0):∃m,cI n.ms n.name=some m/\m.state≠2/\m.state≠3/\∀r∈n.rs,fk n.ms r=false:=by
 unfold Nd.wE at h;split at h
 .cases h
 .rename_i m hm
  split at h
  .cases h
  .rename_i h1
   split at h
   .cases h
   .rename_i h2
    refine⟨m,hm,λe=>h1 (.inl e),λe=>h1 (.inr e),λr hr=>?_⟩;rcases h3:fk n.ms r with _|_
    .rfl
    .exact absurd (Qj.2 ⟨r,hr,h3⟩) h2
theorem Nd.Db{n:Nd}{m:Mem}(h1:cI n.ms n.name=some m)(h2:m.state≠2)(h3:m.state≠3)(h4:∀r∈n.rs,fk n.ms r=false):n.wE=0:=by
 unfold Nd.wE;rw[h1];simp only;rw[if_neg (by rintro(h|h)<;>contradiction),if_neg];rw[Qj];rintro⟨r,hr,h⟩;rw[h4 r hr] at h;cases h
theorem Nd.Sq{n:Nd}(h1:n.pE=0)(h2:n.wE=0):n.e=0:=by unfold Nd.e;rw[if_pos h1,h2]
end Go.Proofs.YtfidhgjmifendaaGreatDoor
namespace Go.Proofs.YtfidhgjmifendaaGreatDoor
namespace Gw
open Go.RowKit
theorem dj(a b:bK)(w:World) :
 aF 160 #[Ij #[Y a.aD,U O a.addr,U O a.version],Ij #[Y b.aD,U O b.addr,U O b.version]] w λe w'=>e=By (U O (ord a b))/\Below w.heap.size w w':=by
 go_enter Tryz.func160,Tryz.ntmps160;go_wp2_with (go_at_call 49;refine(gn _ _ _).mono ?_;rintro e w' ⟨rfl,rfl⟩);go_ret;exact⟨rfl,((Ib _ _).alloc (Ic _) _).alloc (by simp) _⟩
theorem gf(a b:bK)(w:World) :
 aF 175 #[Ij #[Y a.aD,U O a.addr,U O a.version],Ij #[Y b.aD,U O b.addr,U O b.version]] w λe w'=>e=By (Ia (bP a b))/\Below w.heap.size w w':=by
 have hd:∀a b:bK,bP a b=if a.version=b.version then decide (b.addr<a.addr) else decide (b.version<a.version):=λa b=>by
  simp only[bP,xy,RL.lex];by_cases h:a.version=b.version
  .rw[if_pos (by omega),if_pos h];congr 1;apply propext;omega
  .rw[if_neg (by omega),if_neg h];congr 1;apply propext;omega
 have HD:Hid (bP a b=if a.version=b.version then decide (b.addr<a.addr) else decide (b.version<a.version)):=hd a b;clear hd;obtain⟨ca,aa,va⟩:=a;obtain⟨cb,ab,vb⟩:=b;by_cases h1:va=vb
 .subst h1
  go_enter Tryz.func175,Tryz.ntmps175;go_wp2;go_ret;exact⟨ba (by rw[HD.out];simp),((Ib _ _).alloc (Ic _) _).alloc (by simp) _⟩
 .have PF:(va !=vb)=true:=by simpa using h1
  go_enter Tryz.func175,Tryz.ntmps175;go_wp2;go_ret;exact⟨ba (by rw[HD.out];simp[h1]),((Ib _ _).alloc (Ic _) _).alloc (by simp) _⟩
end Gw
namespace Gw
open Go.RowKit
theorem jF(ms:List bK)(b off cap:Nat)(w:World)(hr:Row w b off ms)(hb:b<w.heap.size)(hn:ms.length<=6) :
 Calls AS 159 #[J (some ⟨b,off,none⟩) ms.length cap,IQ (.func 160) #[] #[]] w λe w'=>e=By (Ia (aL ms))/\Below w.heap.size w w':=by
 have HR:Hid (Row w b off ms):=hr;clear hr;have H4:Hid (∀k,k+1<ms.length->0<=ord (ms.getD k dm) (ms.getD (k+1) dm)->aL ms=false):=λk hk hl=>by
  rcases h:aL ms with _|_
  .rfl
  .have:=fq ms h k hk;omega
 have H0:Hid ((∀j,j+1<ms.length->ord (ms.getD j dm) (ms.getD (j+1) dm)<0)->aL ms=true):=fp ms;generalize hN:ms.length=n at *;have HN:Hid (ms.length=n):=hN;clear hN;generalize hC:aL ms=res at *;have HC:Hid (aL ms=res):=hC;clear hC;go_enter Tryz.func159,Tryz.ntmps159;go_wp2_with fail;go_loopw [5] (λi w'=>∃k:Nat,(k+1<=n\/k=0)/\i=U O (k+1)/\Below w.heap.size w w'/\Hid (∀j,j<k->ord (ms.getD j dm) (ms.getD (j+1) dm)<0)) (λi _=>n-(intOf i).toNat)
 case atStart=>exact⟨0,.inr rfl,rfl,Ib _ _,λj h=>absurd h (Jq _)⟩
 case round=>
  obtain⟨q,hq,rfl,aN,hz⟩:=hrel;obtain⟨eG,nz⟩:=cz aN;have cF:=aN.size;by_cases aW:q+1<n
  .have F:=((HR.out q (by rw[HN.out];omega)).eq (λo=>eG b o hb)).re
   have G:=((HR.out (q+1) (by rw[HN.out];exact aW)).eq (λo=>eG b o hb)).re;have HK:Hid (0<=ord (ms.getD q dm) (ms.getD (q+1) dm)->res=false):=λh=>H4.out q aW h;have HZ:Hid (ord (ms.getD q dm) (ms.getD (q+1) dm)<0->∀j,j<q+1->ord (ms.getD j dm) (ms.getD (j+1) dm)<0):=λh j hj=>by
    rcases Nat.lt_succ_iff_lt_or_eq.1 hj with h2|rfl
    .exact hz.out j h2
    .exact h
   generalize ms.getD q dm=m1 at *;generalize ms.getD (q+1) dm=m2 at *;have hN:∀d os,Calls AS 160 #[Ij #[Y m1.aD,U O m1.addr,U O m1.version],Ij #[Y m2.aD,U O m2.addr,U O m2.version]] (Io (Iz wr d) os) λe gD=>e=By (U O (ord m1 m2))/\∃p:JW,gD=Io (Iz wr p.d) p.os:=λd os=>I3 (dj m1 m2 _);simp only[As] at F G;clear eG nz;generalize ord m1 m2=r at *;have Gl:IntKind.i64.wrap (q:Int)=(q:Int):=by rw[IntKind.wrap_i64];omega
   have Eg:q<n:=by omega
   have TW:(q:Int)+1<(n:Int):=by omega
   have TX:(0:Int)<=(q:Int)+1:=by omega
   have DZ:((q:Int)+1).toNat=q+1:=by omega
   go_wp2_with fail;refine IJ (by kernel_rfl) (by kernel_rfl) ?_;repeat(quiet_step (exact hN _ _))
   refine bN λdq kj ed=>?_;clear hN F G;by_cases hl:r<0
   .have mB:¬ (0<=r):=by omega
    go_wp2_with fail;go_roundw
    case rel=>exact⟨q+1,.inl (by omega),by go_num,aN.trans (ed.out.mono cF),HZ.out hl⟩
    case measure=>simp[intOf];omega
   .have mB:0<=r:=by omega
    have h4:Hid (res=false):=HK.out mB;go_wp2_with fail;go_ret;exact⟨ba h4.out.symm,aN.trans (ed.out.mono cF)⟩
  .have h0:Hid (res=true):=H0.out λj hj=>hz.out j (by omega)
   go_wp2_with fail;go_ret;exact⟨ba h0.out.symm,aN⟩
theorem gj(a:Option Addr)(cap:Nat)(fv:Value)(w:World) :
 Calls AS 159 #[J a 0 cap,fv] w λe w'=>e=By (Ia true)/\w'=w:=by
 go_enter Tryz.func159,Tryz.ntmps159;go_wp2_with fail;go_loop [5] (λi=>i=U O 1) (λ_=>0)
 case atStart=>rfl
 case round=>
  subst hrel;go_wp2_with fail;go_ret;exact⟨rfl,rfl⟩
theorem gk(ms:List bK)(b off cap:Nat)(lk:bK)(w:World)(hr:Row w b off ms)(hb:b<w.heap.size)(hn:ms.length<=12)(gV:∀i j,i<=j->j<ms.length->ord (ms.getD j dm) lk<0->ord (ms.getD i dm) lk<0) :
 Calls AS 247 #[J (some ⟨b,off,none⟩) ms.length cap,Ij #[Y lk.aD,U O lk.addr,U O lk.version],IQ (.func 160) #[] #[]] w λe w'=>∃(p:Nat) (f:Bool),e=By (Ik #[U O p,Ia f])/\Below w.heap.size w w' /\
  p<=ms.length/\(∀j,j<p->ord (ms.getD j dm) lk<0)/\(∀j,p<=j->j<ms.length->0<=ord (ms.getD j dm) lk)/\(f=true↔p<ms.length/\ord (ms.getD p dm) lk=0):=by
 have HR:Hid (Row w b off ms):=hr;clear hr;have HM:Hid _:=gV;clear gV;generalize hN:ms.length=n at *;have HN:Hid (ms.length=n):=hN;clear hN;go_enter Tryz.func247,Tryz.ntmps247;go_wp2_with fail;obtain⟨W0,bJ,bM,eE,dG⟩:=bW w #[Y lk.aD,U O lk.addr,U O lk.version] 77;have Es:Hid (Row W0 b off ms):=HR.out.later bM hb;have HT:Hid (As W0 w.heap.size 0 lk):=⟨ae dG 0,ae dG 1,ae dG 2⟩;have da:Hid (Below w.heap.size w W0):=bM;have sJ:Hid (W0=w.alloc (.cells #[Y lk.aD,U O lk.addr,U O lk.version] 77)):=bJ;clear dG bM HR bJ;have wG:b<w.heap.size+1:=by omega
 go_loopw [9,10] (λi j w'=>∃k l:Nat,k<=l/\l<=n/\i=U O k/\j=U O l/\Below (w.heap.size+1) W0 w'/\Hid (∀j,j<k->ord (ms.getD j dm) lk<0)/\Hid (∀j,l<=j->j<n->0<=ord (ms.getD j dm) lk)) (λi j _=>(intOf j).toNat-(intOf i).toNat)
 case atStart=>exact⟨0,n,Nat.zero_le _,Ic _,rfl,rfl,by rw[sJ.out];exact Ib _ _,λj h=>absurd h (Jq _),λj h1 h2=>by omega⟩
 case round=>
  obtain⟨k,l,iH,Ks,rfl,rfl,aN,yq,yr⟩:=hrel;have cF:=aN.size;have eG:∀b o,b<w.heap.size+1->wr.cell? ⟨b,o,none⟩=W0.cell? ⟨b,o,none⟩:=λb o h=>aN.cell (p:=⟨b,o,none⟩) h;have G:=(HT.out.eq (λo=>eG w.heap.size o (by omega))).re;simp only[As,Nat.zero_add] at G;by_cases aW:k<l
  .obtain⟨h,hh,h1,h2⟩:∃h:Nat,((k:Int)+(l:Int))/2=(h:Int)/\k<=h/\h<l:=⟨(k+l)/2,by omega,by omega,by omega⟩
   have F:=((Es.out h (by rw[HN.out];omega)).eq (λo=>eG b o wG)).re;have pF:=HM.out;have HK:Hid (ord (ms.getD h dm) lk<0->∀j,j<h+1->ord (ms.getD j dm) lk<0):=λhx j hj=>pF j h (by omega) (by omega) hx;have HL:Hid (0<=ord (ms.getD h dm) lk->∀j,h<=j->j<n->0<=ord (ms.getD j dm) lk):=λhx j hj CB=>by
    apply Int.not_lt.1;intro hq;have:=pF h j hj CB hq;omega
   clear pF;have hhn:h<n:=by omega
   generalize ms.getD h dm=m at *;have hO:∀d os,Calls AS 160 #[Ij #[Y m.aD,U O m.addr,U O m.version],Ij #[Y lk.aD,U O lk.addr,U O lk.version]] (Io (Iz wr d) os) λe gD=>e=By (U O (ord m lk))/\∃p:JW,gD=Io (Iz wr p.d) p.os:=λd os=>I3 (dj m lk _);simp only[As] at F;clear eG;generalize ord m lk=r at *;go_wp2_with fail;refine IJ (by kernel_rfl) (by kernel_rfl) ?_;repeat(quiet_step (exact hO _ _))
   refine bN λdq kj ed=>?_;clear hO F G;by_cases mW:r<0
   .go_wp2_with fail
    exact⟨⟨h+1,l,by omega,by omega,by go_num,rfl,aN.trans (ed.out.mono (by omega)),HK.out mW,yr⟩,by simp[intOf];omega⟩
   .have rT:0<=r:=by omega
    go_wp2_with fail;exact⟨⟨k,h,by omega,by omega,rfl,rfl,aN.trans (ed.out.mono (by omega)),yq,HL.out rT⟩,by simp[intOf];omega⟩
  .have BS:l=k:=by omega
   subst BS;by_cases fQ:l<n
   .have F:=((Es.out l (by rw[HN.out];omega)).eq (λo=>eG b o wG)).re
    generalize hm:ms.getD l dm=m at *;have Hm:Hid (ms.getD l dm=m):=hm;clear hm;have hO:∀d os,Calls AS 160 #[Ij #[Y m.aD,U O m.addr,U O m.version],Ij #[Y lk.aD,U O lk.addr,U O lk.version]] (Io (Iz wr d) os) λe gD=>e=By (U O (ord m lk))/\∃p:JW,gD=Io (Iz wr p.d) p.os:=λd os=>I3 (dj m lk _);simp only[As] at F;clear eG;generalize EU:ord m lk=r at *;have Hr:Hid (ord m lk=r):=EU;clear EU;go_wp2_with fail;refine IJ (by kernel_rfl) (by kernel_rfl) ?_;repeat(quiet_step (exact hO _ _))
    refine bN λdq kj ed=>?_;clear hO F G;go_wp2_with fail;go_ret2;refine⟨l,_,rfl,da.out.trans ((aN.trans (ed.out.mono (by omega))).mono (by omega)),by omega,yq.out,yr.out,?_⟩;rw[Hm.out,Hr.out];simp[fQ]
   .clear G
    have hkd:decide ((l:Int)<(n:Int))=false:=by simp;omega
    go_wp2_with fail;go_quiet (fail)
    go_wp2_with fail;go_ret2;refine⟨l,_,rfl,da.out.trans ((I8 aN _).mono (by omega)),by omega,yq.out,yr.out,?_⟩;simp[fQ]
theorem fw(a:Option Addr)(cap:Nat)(lk:bK)(fv:Value)(w:World) :
 Calls AS 247 #[J a 0 cap,Ij #[Y lk.aD,U O lk.addr,U O lk.version],fv] w λe w'=>e=By (Ik #[U O 0,Ia false])/\Below w.heap.size w w':=by
 go_enter Tryz.func247,Tryz.ntmps247;go_wp2_with fail;go_loop [9,10] (λi j=>i=U O 0/\j=U O 0) (λ_ _=>0)
 case atStart=>exact⟨rfl,rfl⟩
 case round=>
  obtain⟨rfl,rfl⟩:=hrel;go_wp2_with fail;go_quiet (fail)
  go_wp2_with fail;go_ret2;exact⟨rfl,I8 ((Ib _ _).alloc (Ic _) _) _⟩
theorem fx(ms:List bK)(v:Value)(lk:bK)(w:World)(h:Sl w v ms)(hn:ms.length<=12)(gV:∀i j,i<=j->j<ms.length->ord (ms.getD j dm) lk<0->ord (ms.getD i dm) lk<0) :
 Calls AS 247 #[v,Ij #[Y lk.aD,U O lk.addr,U O lk.version],IQ (.func 160) #[] #[]] w λe w'=>∃(p:Nat) (f:Bool),e=By (Ik #[U O p,Ia f])/\Below w.heap.size w w'/\At ms lk p f:=by
 obtain⟨a,cap,rfl,hs,h⟩:=h;rcases h with rfl|⟨b,off,rfl,hb,hr⟩
 .refine(fw a cap lk _ w).mono ?_
  rintro e w' ⟨rfl,hb⟩;exact⟨0,false,rfl,hb,⟨by simp,λj h=>by omega,λj h h2=>by simp at h2,by simp⟩⟩
 .refine(gk ms b off cap lk w hr hb hn gV).mono ?_
  rintro e w' ⟨p,f,rfl,aN,g1,g2,g3,g4⟩;exact⟨p,f,rfl,aN,⟨g1,g2,g3,g4⟩⟩
theorem ff(ms:List bK)(v:Value)(lk:bK)(w:World)(h:Sl w v ms)(hn:ms.length<=12)(hr:bn ms) :
 Calls AS 215 #[v,Ij #[Y lk.aD,U O lk.addr,U O lk.version],IQ (.func 160) #[] #[]] w λe w'=>∃(p:Nat) (f:Bool),e=By (Ik #[U O p,Ia f])/\Below w.heap.size w w'/\At ms lk p f:=by
 have HC:Hid (∀w',Below w.heap.size w w'->Calls AS 247 #[v,Ij #[Y lk.aD,U O lk.addr,U O lk.version],IQ (.func 160) #[] #[]] w' λe gD=>∃(p:Nat) (f:Bool),e=By (Ik #[U O p,Ia f])/\Below w'.heap.size w' gD/\At ms lk p f):=
  λw' hb=>fx ms v lk w' (h.below hb) hn (dP hr lk)
 clear h hn hr;go_enter Tryz.func215,Tryz.ntmps215;go_wp2_with (go_at_call 247;refine(HC.out _ ?hb).mono ?_)
 case hb=>exact(Ib _ _).alloc (Ic _) _
 rintro e w' ⟨p,f,rfl,aN,cv⟩;have fS:Hid (At ms lk p f):=cv;clear cv;go_wp2_with fail;go_ret2;exact⟨p,f,rfl,((Ib _ _).alloc (Ic _) _).trans (aN.mono (by simp)),fS.out⟩
end Gw
end Go.Proofs.YtfidhgjmifendaaGreatDoor
