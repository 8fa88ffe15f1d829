import Derived.Test.YtfidhgjmifendaaGreatDoorng6
set_option maxHeartbeats 4000000
set_option maxRecDepth 100000
open List renaming getD_cons_zero→I2,getD_cons_succ→Jz,range→JC,all_eq_true→OH,any_eq_true→Qg,getElem_of_mem→I3,getD→Iq,getElem?_eq_getElem→Ie,getElem_mem→IG
open Option renaming some→AI,none→be
open Go.Value renaming string→Y,slice→J,bool→Ia,int→U,agg→Ik,func→IP,tuple→Im
open ByteArray renaming empty→Iw
open Go renaming maxLen→Io,redrawn→Iv,Regrown→JI,wp_region_quiet_below→IA,below_drewN→Jc
open Go.Ending renaming returned→AT
open Go.IntKind renaming i64→O
open Nat renaming zero_le→IH,not_lt_zero→Jl,lt_succ_iff_lt_or_eq→I8,le_refl→Ic,zero_add→ID,lt_of_lt_of_le→IJ
open Go.RowKit.Below renaming refl→Ib
open Go.Proofs.Tryz renaming prog→AS
open Go.Sort renaming grow→Ij
open Go.Calls renaming regrown_of→IU
namespace Go.Proofs.YtfidhgjmifendaaGreatDoor
namespace Gw
open Go.RowKit
def ord(a b:bC):Int:=bO a.aC b.aC
theorem keyed:RL.Keyed ord:=RL.jC bC.aC
def xp:bC->bC->Int:=RL.lex (λa b=>a.version-b.version) (λa b=>a.addr-b.addr)
theorem BH:RL.Keyed xp:=RL.gD (RL.iA bC.version) (RL.iA bC.addr)
def bN(a b:bC):Bool:=decide (0<xp a b)
theorem iB:RL.qe ord bN:=RL.vP BH λa b h1 h2=>by
 obtain⟨h3,h4⟩:=RL.fT h2;have e1:a.aC=b.aC:=(bR _ _).1 h1;have e2:a.version=b.version:=by omega
 have e3:a.addr=b.addr:=by omega
 obtain⟨a_centre,a_addr,a_version⟩:=a;obtain⟨b_centre,b_addr,b_version⟩:=b;simp only at e1 e2 e3;subst e1 e2 e3;rfl
abbrev bl(ms:List bC):Prop:=RL.bl ord ms
abbrev aQ(ms:List bC)(m:bC):List bC:=RL.fQ ord bN ms m
abbrev av(a b:List bC):List bC:=RL.join ord bN a b
abbrev At(ms:List bC)(t:bC)(p:Nat)(f:Bool):Prop:=RL.At ord dm ms t p f
abbrev aK(ms:List bC):Bool:=RL.aK ord ms
theorem dO{ms:List bC}(h:bl ms)(t:bC):∀i j,i<=j->j<ms.length->ord (ms.getD j dm) t<0->ord (ms.getD i dm) t<0:=RL.dO ord dm keyed h t
theorem fp(ms:List bC)(h:∀j,j+1<ms.length->ord (ms.getD j dm) (ms.getD (j+1) dm)<0):aK ms=true:=RL.gv ord dm ms h
theorem fq(ms:List bC)(h:aK ms=true):∀j,j+1<ms.length->ord (ms.getD j dm) (ms.getD (j+1) dm)<0:=RL.ib ord dm ms h
theorem ku(ms:List bC)(hr:bl ms)(t:bC):∃p f,At ms t p f:=RL.ku ord dm keyed ms hr t
theorem ed{ms:List bC}{t:bC}{p q:Nat}{f e:Bool}(h:At ms t p f)(k:At ms t q e):p=q/\f=e:=RL.ed ord dm h k
theorem da(ms:List bC)(m:bC)(p:Nat)(f:Bool)(h:At ms m p f) :
 aQ ms m=if f=true then(if bN m (ms.getD p dm)=true then ms.set p m else ms) else ms.take p++m::ms.drop p:=RL.oM ord bN dm ms m p f h
theorem dD(b a:List bC)(h:bl a):bl (av a b):=RL.kH ord bN keyed b a h
theorem df(b a:List bC):(av a b).length<=a.length+b.length:=RL.oO ord bN b a
theorem eB(b a:List bC)(x:bC)(h:x∈av a b):x∈a\/x∈b:=RL.oP ord bN b a x h
theorem gj(a b:List bC)(j:Nat)(hj:j<b.length):av a (b.take (j+1))=aQ (av a (b.take j)) (b.getD j dm):=RL.qf ord bN dm a b j hj
theorem iu(b:List bC)(h:bl b):av [] b=b:=RL.join_nil ord bN b h
theorem iJ(b a:List bC)(ha:∀m∈a,m.ok)(hb:∀m∈b,m.ok):∀x∈av a b,x.ok:=by
 intro x hx;rcases eB b a x hx with h|h
 .exact ha x h
 .exact hb x h
def bC.e(m:bC):Int:=if ba m.aC=true then(if within m.addr 0 4294967295=true then(if within m.version 1 1000000=true then 0 else 3) else 3) else 1
def aU:List bC->Int
 |[]=>0
 |m::r=>if m.e=0 then aU r else m.e
theorem cB:∀(ms:List bC),(∀j,j<ms.length->(ms.getD j dm).e=0)->aU ms=0
 |[],_=>rfl
 |m::r,h=>by
  have h0:=h 0 (by simp);simp only[I2] at h0;rw[aU,if_pos h0];exact cB r λj hj=>by have:=h (j+1) (by simpa using hj);simpa using this
theorem dQ:∀(ms:List bC) (k:Nat),k<ms.length->(∀j,j<k->(ms.getD j dm).e=0)->(ms.getD k dm).e≠0->aU ms=(ms.getD k dm).e
 |[],k,h,_,_=>by simp at h
 |m::r,0,_,_,aT=>by
  simp only[I2] at aT ⊢;rw[aU,if_neg aT]
 |m::r,k+1,h,hz,aT=>by
  have h0:=hz 0 (by omega);simp only[I2] at h0;rw[aU,if_pos h0,Jz];rw[Jz] at aT;exact dQ r k (by simpa using h) (λj hj=>by have:=hz (j+1) (by omega);simpa using this) aT
theorem bb:∀(ms:List bC),aU ms=0->∀m∈ms,m.e=0
 |[],_,m,hm=>by simp at hm
 |x::r,h,m,hm=>by
  rw[aU] at h;split at h
  .rename_i hx
   rcases List.mem_cons.1 hm with rfl|hm
   .exact hx
   .exact bb r h m hm
  .rename_i hx;exact absurd h hx
theorem ft:∀(ms:List bC),(∀m∈ms,m.e=0)->aU ms=0
 |[],_=>rfl
 |x::r,h=>by rw[aU,if_pos (h x (by simp))];exact ft r λm hm=>h m (by simp[hm])
def bj(ms:List bC):Int:=if 6<ms.length then 2 else if aU ms=0 then(if aK ms=true then 0 else 4) else aU ms
theorem tC(ms:List bC)(k:Nat)(hn:ms.length<=6)(hk:k<ms.length)(hz:∀j,j<k->(ms.getD j dm).e=0)(aT:(ms.getD k dm).e≠0):bj ms=(ms.getD k dm).e:=by
 have h:=dQ ms k hk hz aT;rw[bj,if_neg (by omega),h,if_neg aT]
theorem qZ(ms:List bC)(hn:ms.length<=6)(hz:∀j,j<ms.length->(ms.getD j dm).e=0):bj ms=if aK ms=true then 0 else 4:=by
 rw[bj,if_neg (by omega),cB ms hz,if_pos rfl]
theorem af{ms:List bC}(h:bj ms=0):ms.length<=6/\bl ms/\aU ms=0:=by
 unfold bj at h;split at h
 .omega
 .split at h
  .rename_i h1 h2
   split at h
   .rename_i h3
    exact⟨by omega,RL.lp ord keyed ms h3,h2⟩
   .omega
  .rename_i h1 h2;exact absurd h h2
theorem jR{ms:List bC}(h1:ms.length<=6)(h2:bl ms)(h3:∀m∈ms,m.e=0):bj ms=0:=by
 rw[bj,if_neg (by omega),ft ms h3,if_pos rfl,if_pos (RL.jF ord ms h2)]
def aO(a b:List bC):Int:=if bj a=0 then bj b else bj a
def dE(a b:List bC)(k:Nat):List bC:=if k=0 then[] else if k=1 then a else av a b
def aE(a b:List bC):Int:=if aO a b=0 then(if 6<(av a b).length then 2 else 0) else aO a b
end Gw
end Go.Proofs.YtfidhgjmifendaaGreatDoor
namespace Go.Proofs.YtfidhgjmifendaaGreatDoor
open Go.RowKit
def mq(ms:List Mem):Prop:=∀i j,i<j->j<ms.length->(ms.getD i dm).name≠(ms.getD j dm).name
def apB(ms:List Mem):Bool:=(JC ms.length).all λj=>(JC j).all λi=>decide ((ms.getD i dm).name≠(ms.getD j dm).name)
theorem xY(ms:List Mem):apB ms=true↔mq ms:=by
 simp only[apB,OH,List.mem_range,decide_eq_true_eq];exact⟨λh i j jG hj=>h j hj i jG,λh j hj i jG=>h i j jG hj⟩
def lx(ms:List Mem):Int:=if 5<ms.length then 2 else if aU ms=0 then(if apB ms=true then 0 else 6) else aU ms
theorem DL{ms:List Mem}(h:5<ms.length):lx ms=2:=if_pos h
theorem RM{ms:List Mem}{k:Nat}(hn:ms.length<=5)(hk:k<ms.length)(hz:∀j,j<k->(ms.getD j dm).e=0)(aT:(ms.getD k dm).e≠0):lx ms=(ms.getD k dm).e:=by
 have h:=dQ ms k hk hz aT;rw[lx,if_neg (by omega),h,if_neg aT]
theorem AL{ms:List Mem}(hn:ms.length<=5)(hz:∀j,j<ms.length->(ms.getD j dm).e=0)(hd:¬ mq ms):lx ms=6:=by
 rw[lx,if_neg (by omega),if_pos (cB ms hz),if_neg (λh=>hd ((xY ms).1 h))]
theorem CC{ms:List Mem}(hn:ms.length<=5)(hz:∀j,j<ms.length->(ms.getD j dm).e=0)(hd:mq ms):lx ms=0:=by
 rw[lx,if_neg (by omega),if_pos (cB ms hz),if_pos ((xY ms).2 hd)]
theorem vy{ms:List Mem}(h:lx ms=0):ms.length<=5/\aU ms=0/\mq ms:=by
 unfold lx at h;split at h
 .cases h
 .split at h
  .rename_i h1 h2
   split at h
   .rename_i h3;exact⟨by omega,h2,(xY ms).1 h3⟩
   .cases h
  .rename_i h1 h2;exact absurd h h2
structure Pk where
 cT:ByteArray
 whole:Bool
 ms:List Mem
 sv:List Sv.aW
 gw:List Gw.bC
 wh:List Wh.bJ
def Pk.alone(p:Pk):Bool:=p.sv.isEmpty&&(p.gw.isEmpty&&p.wh.isEmpty)
def Pk.mE(p:Pk):Int:=if p.whole=true then bj p.ms else lx p.ms
def Pk.e(p:Pk):Int:=
 if(ba p.cT&&(p.whole||p.alone))=true then
  (if p.mE=0 then(if Sv.bj p.sv=0 then(if Gw.bj p.gw=0 then Wh.bj p.wh else Gw.bj p.gw) else Sv.bj p.sv) else p.mE)
 else 1
structure Nd where
 name:ByteArray
 aC:ByteArray
 ms:List Mem
 rs:List bK
 sv:List Sv.aW
 gw:List Gw.bC
 p:Pl
 wh:List Wh.bJ
def fM(ms:List Mem)(r:bK):Bool:=match cK ms r.m.name with
 |none=>true
 |some k=>eH r.m k
def Nd.wE(n:Nd):Int:=match cK n.ms n.name with
 |none=>5
 |some m=>if m.state=2\/m.state=3 then 4 else if n.rs.any (fM n.ms)=true then 4 else 0
def Nd.pE(n:Nd):Int:=
 if(ba n.name&&ba n.aC)=true then
  (if bj n.ms=0 then(if dV n.rs=0 then(if Sv.bj n.sv=0 then(if Gw.bj n.gw=0 then(if dZ n.p=0 then Wh.bj n.wh else dZ n.p) else Gw.bj n.gw) else Sv.bj n.sv) else dV n.rs) else bj n.ms)
 else 1
def Nd.e(n:Nd):Int:=if n.pE=0 then n.wE else n.pE
structure Nd.mL(n:Nd):Prop where
 name:ba n.name=true
 aC:ba n.aC=true
 ms:bj n.ms=0
 rs:dV n.rs=0
 sv:Sv.bj n.sv=0
 gw:Gw.bj n.gw=0
 p:dZ n.p=0
 wh:Wh.bj n.wh=0
theorem Nd.parts{n:Nd}(h:n.pE=0):n.mL:=by
 unfold Nd.pE at h;split at h
 .rename_i h0
  rw[Bool.and_eq_true] at h0;split at h
  .rename_i h1
   split at h
   .rename_i h2
    split at h
    .rename_i h3
     split at h
     .rename_i h4
      split at h
      .rename_i h5;exact⟨h0.1,h0.2,h1,h2,h3,h4,h5,h⟩
      .rename_i h5;exact absurd h h5
     .rename_i h4;exact absurd h h4
    .rename_i h3;exact absurd h h3
   .rename_i h2;exact absurd h h2
  .rename_i h1;exact absurd h h1
 .cases h
theorem Nd.bc{n:Nd}(h:n.e=0):n.pE=0/\n.wE=0:=by
 unfold Nd.e at h;split at h
 .rename_i h1;exact⟨h1,h⟩
 .rename_i h1;exact absurd h h1
theorem Nd.pK{n:Nd}(h:n.wE=0):∃m,cK n.ms n.name=AI m/\m.state≠2/\m.state≠3/\∀r∈n.rs,fM n.ms r=false:=by
 unfold Nd.wE at h;split at h
 .cases h
 .rename_i m hm
  split at h
  .cases h
  .rename_i h1
   split at h
   .cases h
   .rename_i h2
    refine⟨m,hm,λe=>h1 (.inl e),λe=>h1 (.inr e),λr hr=>?_⟩;rcases h3:fM n.ms r with _|_
    .rfl
    .exact absurd (Qg.2 ⟨r,hr,h3⟩) h2
theorem Nd.Da{n:Nd}{m:Mem}(h1:cK n.ms n.name=AI m)(h2:m.state≠2)(h3:m.state≠3)(h4:∀r∈n.rs,fM n.ms r=false):n.wE=0:=by
 unfold Nd.wE;rw[h1];simp only;rw[if_neg (by rintro(h|h)<;>contradiction),if_neg];rw[Qg];rintro⟨r,hr,h⟩;rw[h4 r hr] at h;cases h
theorem Nd.SE{n:Nd}(h1:n.pE=0)(h2:n.wE=0):n.e=0:=by unfold Nd.e;rw[if_pos h1,h2]
theorem om(ss:List ByteArray)(b cap:Nat)(w:World)(hb:∀j,j<ss.length->w.cell? ⟨b,j,be⟩=AI (Y (ss.getD j Iw)))(hs:∀j,(ss.getD j Iw).size<=Io)(hn:ss.length<=1000) :
 aF 34 #[J (AI ⟨b,0,be⟩) ss.length cap] w λe w'=>e=AT (Ia (ss.all ba))/\w'=w:=by
 have HB:Hid _:=hb;have HS:Hid _:=hs;have H0:Hid ((∀j,j<ss.length->ba (ss.getD j Iw)=true)->ss.all ba=true):=λh=>by
  rw[OH];intro x hx;obtain⟨j,hj,rfl⟩:=I3 hx;have:=h j hj;simpa[Iq,Ie hj] using this
 have H1:Hid (∀j,j<ss.length->ba (ss.getD j Iw)=false->ss.all ba=false):=λj hj h=>by
  rw[List.all_eq_false];refine⟨ss[j],IG hj,?_⟩;rw[show ss.getD j Iw=ss[j] by simp[Iq,Ie hj]] at h;simp[h]
 clear hb hs;generalize ss.all ba=res at *;generalize hN:ss.length=n at *;clear hN;go_enter Tryz.func34,Tryz.ntmps34;go_wp2_with fail;go_loop [7] (λi=>∃k:Nat,k<=n/\i=U O k/\Hid (∀j,j<k->ba (ss.getD j Iw)=true)) (λi=>n-(intOf i).toNat)
 case atStart=>exact⟨0,IH _,rfl,λj h=>absurd h (Jl _)⟩
 case round=>
  obtain⟨k,hk,rfl,hz⟩:=hrel;by_cases aR:k<n
  .have hc:=HB.out k aR
   have Pf:=HS.out k;have HZ:Hid (ba (ss.getD k Iw)=true->∀j,j<k+1->ba (ss.getD j Iw)=true):=λh j hj=>by
    rcases I8.1 hj with h2|rfl
    .exact hz.out j h2
    .exact h
   have HF:Hid (ba (ss.getD k Iw)=false->res=false):=λh=>H1.out k aR h;generalize ss.getD k Iw=s at *;rcases hl:ba s with _|_
   .have HR:Hid _:=HF.out hl
    go_wp2_with (go_at_call 53;refine(bQ _ _ Pf).mono ?_;rintro e w' ⟨rfl,rfl⟩;rw[hl]);go_ret;exact⟨aL HR.out.symm,rfl⟩
   .go_wp2_with (go_at_call 53;refine(bQ _ _ Pf).mono ?_;rintro e w' ⟨rfl,rfl⟩;rw[hl])
    go_round
    case rel=>exact⟨k+1,by omega,by go_num,HZ.out hl⟩
    case measure=>simp[intOf];omega
  .have HR:Hid _:=H0.out λj hj=>hz.out j (by omega)
   go_wp2_with fail;go_ret;exact⟨aL HR.out.symm,rfl⟩
def oF(t:ByteArray):Bool:=decide (t=Iw)||ba t
theorem Ak(ss:List ByteArray)(b cap:Nat)(w:World)(hb:∀j,j<ss.length->w.cell? ⟨b,j,be⟩=AI (Y (ss.getD j Iw)))(hs:∀j,(ss.getD j Iw).size<=Io)(hn:ss.length<=1000) :
 aF 205 #[J (AI ⟨b,0,be⟩) ss.length cap] w λe w'=>e=AT (Ia (ss.all oF))/\w'=w:=by
 have HB:Hid _:=hb;have HS:Hid _:=hs;have H0:Hid ((∀j,j<ss.length->oF (ss.getD j Iw)=true)->ss.all oF=true):=λh=>by
  rw[OH];intro x hx;obtain⟨j,hj,rfl⟩:=I3 hx;have:=h j hj;simpa[Iq,Ie hj] using this
 have H1:Hid (∀j,j<ss.length->oF (ss.getD j Iw)=false->ss.all oF=false):=λj hj h=>by
  rw[List.all_eq_false];refine⟨ss[j],IG hj,?_⟩;rw[show ss.getD j Iw=ss[j] by simp[Iq,Ie hj]] at h;simp[h]
 clear hb hs;generalize ss.all oF=res at *;generalize hN:ss.length=n at *;clear hN;go_enter Tryz.func205,Tryz.ntmps205;go_wp2_with fail;go_loop [7] (λi=>∃k:Nat,k<=n/\i=U O k/\Hid (∀j,j<k->oF (ss.getD j Iw)=true)) (λi=>n-(intOf i).toNat)
 case atStart=>exact⟨0,IH _,rfl,λj h=>absurd h (Jl _)⟩
 case round=>
  obtain⟨k,hk,rfl,hz⟩:=hrel;by_cases aR:k<n
  .have hc:=HB.out k aR
   have Pf:=HS.out k;have HZ:Hid (oF (ss.getD k Iw)=true->∀j,j<k+1->oF (ss.getD j Iw)=true):=λh j hj=>by
    rcases I8.1 hj with h2|rfl
    .exact hz.out j h2
    .exact h
   have HF:Hid (oF (ss.getD k Iw)=false->res=false):=λh=>H1.out k aR h;generalize ss.getD k Iw=s at *;by_cases hse:s=Iw
   .subst hse
    have ly:Hid _:=HZ.out (by simp[oF]);clear HZ HF;go_wp2_with fail;go_round
    case rel=>exact⟨k+1,by omega,by go_num,ly.out⟩
    case measure=>simp[intOf];omega
   .have HE:Hid (oF s=ba s):=(show oF s=ba s by simp[oF,hse])
    obtain⟨h1,h2⟩:=fP hse;have h3:¬ s.toList=[]:=λe=>h2 (by rw[e,Lib.toList_data];rfl);have h4:(s.toList==[])=false:=by simpa using h3
    clear hse;rcases hl:ba s with _|_
    .have HR:Hid _:=HF.out (by rw[HE.out,hl])
     go_wp2_with (go_at_call 53;refine(bQ _ _ Pf).mono ?_;rintro e w' ⟨rfl,rfl⟩;rw[hl]);go_ret;exact⟨aL HR.out.symm,rfl⟩
    .have ly:Hid _:=HZ.out (by rw[HE.out,hl])
     clear HZ HF;go_wp2_with (go_at_call 53;refine(bQ _ _ Pf).mono ?_;rintro e w' ⟨rfl,rfl⟩;rw[hl]);go_round
     case rel=>exact⟨k+1,by omega,by go_num,ly.out⟩
     case measure=>simp[intOf];omega
  .have HR:Hid _:=H0.out λj hj=>hz.out j (by omega)
   go_wp2_with fail;go_ret;exact⟨aL HR.out.symm,rfl⟩
theorem LJ(t:ByteArray)(W:World)(g:Nat)(hs:t.size<=Io)(hg:W.heap[g]?=AI (.cells #[Y t] 9 (0,0))) :
 aF 205 #[J (AI ⟨g,0,be⟩) 1 1] W λe w'=>e=AT (Ia (oF t))/\w'=W:=by
 have h:=Ak [t] g 1 W (λj hj=>by
  rw[ae hg]
  have:j=0:=by simp at hj;omega
  subst this;rfl) (λj=>by
  match j with
  |0=>exact hs
  |_+1=>simp[Iq]) (by simp)
 simpa using h
end Go.Proofs.YtfidhgjmifendaaGreatDoor
namespace Go.Proofs.YtfidhgjmifendaaGreatDoor
namespace Gw
open Go.RowKit
theorem dh(a b:bC)(w:World) :
 aF 160 #[Ik #[Y a.aC,U O a.addr,U O a.version],Ik #[Y b.aC,U O b.addr,U O b.version]] w λe w'=>e=AT (U O (ord a b))/\Below w.heap.size w w':=by
 go_enter Tryz.func160,Tryz.ntmps160;go_wp2_with (go_at_call 49;refine(gr _ _ _).mono ?_;rintro e w' ⟨rfl,rfl⟩);go_ret;exact⟨rfl,((Ib _ _).alloc (Ic _) _).alloc (by simp) _⟩
theorem gk(a b:bC)(w:World) :
 aF 175 #[Ik #[Y a.aC,U O a.addr,U O a.version],Ik #[Y b.aC,U O b.addr,U O b.version]] w λe w'=>e=AT (Ia (bN a b))/\Below w.heap.size w w':=by
 have hd:∀a b:bC,bN a b=if a.version=b.version then decide (b.addr<a.addr) else decide (b.version<a.version):=λa b=>by
  simp only[bN,xp,RL.lex];by_cases h:a.version=b.version
  .rw[if_pos (by omega),if_pos h];congr 1;apply propext;omega
  .rw[if_neg (by omega),if_neg h];congr 1;apply propext;omega
 have HD:Hid (bN a b=if a.version=b.version then decide (b.addr<a.addr) else decide (b.version<a.version)):=hd a b;clear hd;obtain⟨ca,aa,va⟩:=a;obtain⟨cb,ab,vb⟩:=b;by_cases h1:va=vb
 .subst h1
  go_enter Tryz.func175,Tryz.ntmps175;go_wp2;go_ret;exact⟨aL (by rw[HD.out];simp),((Ib _ _).alloc (Ic _) _).alloc (by simp) _⟩
 .have L2:(va !=vb)=true:=by simpa using h1
  go_enter Tryz.func175,Tryz.ntmps175;go_wp2;go_ret;exact⟨aL (by rw[HD.out];simp[h1]),((Ib _ _).alloc (Ic _) _).alloc (by simp) _⟩
end Gw
namespace Gw
open Go.RowKit
theorem jE(ms:List bC)(b off cap:Nat)(w:World)(hr:Row w b off ms)(hb:b<w.heap.size)(hn:ms.length<=6) :
 Calls AS 159 #[J (AI ⟨b,off,be⟩) ms.length cap,IP (.func 160) #[] #[]] w λe w'=>e=AT (Ia (aK ms))/\Below w.heap.size w w':=by
 have HR:Hid (Row w b off ms):=hr;clear hr;have H4:Hid (∀k,k+1<ms.length->0<=ord (ms.getD k dm) (ms.getD (k+1) dm)->aK ms=false):=λk hk hl=>by
  rcases h:aK ms with _|_
  .rfl
  .have:=fq ms h k hk;omega
 have H0:Hid ((∀j,j+1<ms.length->ord (ms.getD j dm) (ms.getD (j+1) dm)<0)->aK ms=true):=fp ms;generalize hN:ms.length=n at *;have HN:Hid (ms.length=n):=hN;clear hN;generalize hC:aK ms=res at *;have HC:Hid (aK ms=res):=hC;clear hC;go_enter Tryz.func159,Tryz.ntmps159;go_wp2_with fail;go_loopw [5] (λi w'=>∃k:Nat,(k+1<=n\/k=0)/\i=U O (k+1)/\Below w.heap.size w w'/\Hid (∀j,j<k->ord (ms.getD j dm) (ms.getD (j+1) dm)<0)) (λi _=>n-(intOf i).toNat)
 case atStart=>exact⟨0,.inr rfl,rfl,Ib _ _,λj h=>absurd h (Jl _)⟩
 case round=>
  obtain⟨q,hq,rfl,aN,hz⟩:=hrel;obtain⟨eG,nt⟩:=cj aN;have cC:=aN.size;by_cases aR:q+1<n
  .have F:=((HR.out q (by rw[HN.out];omega)).eq (λo=>eG b o hb)).re
   have G:=((HR.out (q+1) (by rw[HN.out];exact aR)).eq (λo=>eG b o hb)).re;have HK:Hid (0<=ord (ms.getD q dm) (ms.getD (q+1) dm)->res=false):=λh=>H4.out q aR h;have HZ:Hid (ord (ms.getD q dm) (ms.getD (q+1) dm)<0->∀j,j<q+1->ord (ms.getD j dm) (ms.getD (j+1) dm)<0):=λh j hj=>by
    rcases I8.1 hj with h2|rfl
    .exact hz.out j h2
    .exact h
   generalize ms.getD q dm=m1 at *;generalize ms.getD (q+1) dm=m2 at *;have hN:∀d os,Calls AS 160 #[Ik #[Y m1.aC,U O m1.addr,U O m1.version],Ik #[Y m2.aC,U O m2.addr,U O m2.version]] (Ij (Iv wr d) os) λe fD=>e=AT (U O (ord m1 m2))/\∃p:JI,fD=Ij (Iv wr p.d) p.os:=λd os=>IU (dh m1 m2 _);simp only[As] at F G;clear eG nt;generalize ord m1 m2=r at *;have Gt:IntKind.i64.wrap (q:Int)=(q:Int):=by rw[IntKind.wrap_i64];omega
   have Ea:q<n:=by omega
   have hq1:(q:Int)+1<(n:Int):=by omega
   have hq0:(0:Int)<=(q:Int)+1:=by omega
   have DW:((q:Int)+1).toNat=q+1:=by omega
   go_wp2_with fail;refine IA (by kernel_rfl) (by kernel_rfl) ?_;repeat(quiet_step (exact hN _ _))
   refine bE λdq gT dR=>?_;clear hN F G;by_cases hl:r<0
   .have mo:¬ (0<=r):=by omega
    go_wp2_with fail;go_roundw
    case rel=>exact⟨q+1,.inl (by omega),by go_num,aN.trans (dR.out.mono cC),HZ.out hl⟩
    case measure=>simp[intOf];omega
   .have mo:0<=r:=by omega
    have h4:Hid (res=false):=HK.out mo;go_wp2_with fail;go_ret;exact⟨aL h4.out.symm,aN.trans (dR.out.mono cC)⟩
  .have h0:Hid (res=true):=H0.out λj hj=>hz.out j (by omega)
   go_wp2_with fail;go_ret;exact⟨aL h0.out.symm,aN⟩
theorem gm(a:Option Addr)(cap:Nat)(fv:Value)(w:World) :
 Calls AS 159 #[J a 0 cap,fv] w λe w'=>e=AT (Ia true)/\w'=w:=by
 go_enter Tryz.func159,Tryz.ntmps159;go_wp2_with fail;go_loop [5] (λi=>i=U O 1) (λ_=>0)
 case atStart=>rfl
 case round=>
  subst hrel;go_wp2_with fail;go_ret;exact⟨rfl,rfl⟩
theorem gn(ms:List bC)(b off cap:Nat)(lk:bC)(w:World)(hr:Row w b off ms)(hb:b<w.heap.size)(hn:ms.length<=12)(gW:∀i j,i<=j->j<ms.length->ord (ms.getD j dm) lk<0->ord (ms.getD i dm) lk<0) :
 Calls AS 247 #[J (AI ⟨b,off,be⟩) ms.length cap,Ik #[Y lk.aC,U O lk.addr,U O lk.version],IP (.func 160) #[] #[]] w λe w'=>∃(p:Nat) (f:Bool),e=AT (Im #[U O p,Ia f])/\Below w.heap.size w w' /\
  p<=ms.length/\(∀j,j<p->ord (ms.getD j dm) lk<0)/\(∀j,p<=j->j<ms.length->0<=ord (ms.getD j dm) lk)/\(f=true↔p<ms.length/\ord (ms.getD p dm) lk=0):=by
 have HR:Hid (Row w b off ms):=hr;clear hr;have HM:Hid _:=gW;clear gW;generalize hN:ms.length=n at *;have HN:Hid (ms.length=n):=hN;clear hN;go_enter Tryz.func247,Tryz.ntmps247;go_wp2_with fail;obtain⟨W0,bA,bM,eE,dF⟩:=bV w #[Y lk.aC,U O lk.addr,U O lk.version] 77;have El:Hid (Row W0 b off ms):=HR.out.later bM hb;have HT:Hid (As W0 w.heap.size 0 lk):=⟨ae dF 0,ae dF 1,ae dF 2⟩;have cY:Hid (Below w.heap.size w W0):=bM;have sI:Hid (W0=w.alloc (.cells #[Y lk.aC,U O lk.addr,U O lk.version] 77)):=bA;clear dF bM HR bA;have wA:b<w.heap.size+1:=by omega
 go_loopw [9,10] (λi j w'=>∃k l:Nat,k<=l/\l<=n/\i=U O k/\j=U O l/\Below (w.heap.size+1) W0 w'/\Hid (∀j,j<k->ord (ms.getD j dm) lk<0)/\Hid (∀j,l<=j->j<n->0<=ord (ms.getD j dm) lk)) (λi j _=>(intOf j).toNat-(intOf i).toNat)
 case atStart=>exact⟨0,n,IH _,Ic _,rfl,rfl,by rw[sI.out];exact Ib _ _,λj h=>absurd h (Jl _),λj h1 h2=>by omega⟩
 case round=>
  obtain⟨k,l,iI,KG,rfl,rfl,aN,yd,ye⟩:=hrel;have cC:=aN.size;have eG:∀b o,b<w.heap.size+1->wr.cell? ⟨b,o,be⟩=W0.cell? ⟨b,o,be⟩:=λb o h=>aN.cell (p:=⟨b,o,be⟩) h;have G:=(HT.out.eq (λo=>eG w.heap.size o (by omega))).re;simp only[As,ID] at G;by_cases aR:k<l
  .obtain⟨h,hh,h1,h2⟩:∃h:Nat,((k:Int)+(l:Int))/2=(h:Int)/\k<=h/\h<l:=⟨(k+l)/2,by omega,by omega,by omega⟩
   have F:=((El.out h (by rw[HN.out];omega)).eq (λo=>eG b o wA)).re;have po:=HM.out;have HK:Hid (ord (ms.getD h dm) lk<0->∀j,j<h+1->ord (ms.getD j dm) lk<0):=λhx j hj=>po j h (by omega) (by omega) hx;have HL:Hid (0<=ord (ms.getD h dm) lk->∀j,h<=j->j<n->0<=ord (ms.getD j dm) lk):=λhx j hj Cz=>by
    apply Int.not_lt.1;intro hq;have:=po h j hj Cz hq;omega
   clear po;have hhn:h<n:=by omega
   generalize ms.getD h dm=m at *;have hO:∀d os,Calls AS 160 #[Ik #[Y m.aC,U O m.addr,U O m.version],Ik #[Y lk.aC,U O lk.addr,U O lk.version]] (Ij (Iv wr d) os) λe fD=>e=AT (U O (ord m lk))/\∃p:JI,fD=Ij (Iv wr p.d) p.os:=λd os=>IU (dh m lk _);simp only[As] at F;clear eG;generalize ord m lk=r at *;go_wp2_with fail;refine IA (by kernel_rfl) (by kernel_rfl) ?_;repeat(quiet_step (exact hO _ _))
   refine bE λdq gT dR=>?_;clear hO F G;by_cases uV:r<0
   .go_wp2_with fail
    exact⟨⟨h+1,l,by omega,by omega,by go_num,rfl,aN.trans (dR.out.mono (by omega)),HK.out uV,ye⟩,by simp[intOf];omega⟩
   .have zv:0<=r:=by omega
    go_wp2_with fail;exact⟨⟨k,h,by omega,by omega,rfl,rfl,aN.trans (dR.out.mono (by omega)),yd,HL.out zv⟩,by simp[intOf];omega⟩
  .have BZ:l=k:=by omega
   subst BZ;by_cases gK:l<n
   .have F:=((El.out l (by rw[HN.out];omega)).eq (λo=>eG b o wA)).re
    generalize hm:ms.getD l dm=m at *;have Hm:Hid (ms.getD l dm=m):=hm;clear hm;have hO:∀d os,Calls AS 160 #[Ik #[Y m.aC,U O m.addr,U O m.version],Ik #[Y lk.aC,U O lk.addr,U O lk.version]] (Ij (Iv wr d) os) λe fD=>e=AT (U O (ord m lk))/\∃p:JI,fD=Ij (Iv wr p.d) p.os:=λd os=>IU (dh m lk _);simp only[As] at F;clear eG;generalize EY:ord m lk=r at *;have Hr:Hid (ord m lk=r):=EY;clear EY;go_wp2_with fail;refine IA (by kernel_rfl) (by kernel_rfl) ?_;repeat(quiet_step (exact hO _ _))
    refine bE λdq gT dR=>?_;clear hO F G;go_wp2_with fail;go_ret2;refine⟨l,_,rfl,cY.out.trans ((aN.trans (dR.out.mono (by omega))).mono (by omega)),by omega,yd.out,ye.out,?_⟩;rw[Hm.out,Hr.out];simp[gK]
   .clear G
    have hkd:decide ((l:Int)<(n:Int))=false:=by simp;omega
    go_wp2_with fail;go_quiet (fail)
    go_wp2_with fail;go_ret2;refine⟨l,_,rfl,cY.out.trans ((Jc aN _).mono (by omega)),by omega,yd.out,ye.out,?_⟩;simp[gK]
theorem fw(a:Option Addr)(cap:Nat)(lk:bC)(fv:Value)(w:World) :
 Calls AS 247 #[J a 0 cap,Ik #[Y lk.aC,U O lk.addr,U O lk.version],fv] w λe w'=>e=AT (Im #[U O 0,Ia false])/\Below w.heap.size w w':=by
 go_enter Tryz.func247,Tryz.ntmps247;go_wp2_with fail;go_loop [9,10] (λi j=>i=U O 0/\j=U O 0) (λ_ _=>0)
 case atStart=>exact⟨rfl,rfl⟩
 case round=>
  obtain⟨rfl,rfl⟩:=hrel;go_wp2_with fail;go_quiet (fail)
  go_wp2_with fail;go_ret2;exact⟨rfl,Jc ((Ib _ _).alloc (Ic _) _) _⟩
theorem fx(ms:List bC)(v:Value)(lk:bC)(w:World)(h:Sl w v ms)(hn:ms.length<=12)(gW:∀i j,i<=j->j<ms.length->ord (ms.getD j dm) lk<0->ord (ms.getD i dm) lk<0) :
 Calls AS 247 #[v,Ik #[Y lk.aC,U O lk.addr,U O lk.version],IP (.func 160) #[] #[]] w λe w'=>∃(p:Nat) (f:Bool),e=AT (Im #[U O p,Ia f])/\Below w.heap.size w w'/\At ms lk p f:=by
 obtain⟨a,cap,rfl,hs,h⟩:=h;rcases h with rfl|⟨b,off,rfl,hb,hr⟩
 .refine(fw a cap lk _ w).mono ?_
  rintro e w' ⟨rfl,hb⟩;exact⟨0,false,rfl,hb,⟨by simp,λj h=>by omega,λj h h2=>by simp at h2,by simp⟩⟩
 .refine(gn ms b off cap lk w hr hb hn gW).mono ?_
  rintro e w' ⟨p,f,rfl,aN,g1,g2,g3,g4⟩;exact⟨p,f,rfl,aN,⟨g1,g2,g3,g4⟩⟩
theorem fm(ms:List bC)(v:Value)(lk:bC)(w:World)(h:Sl w v ms)(hn:ms.length<=12)(hr:bl ms) :
 Calls AS 215 #[v,Ik #[Y lk.aC,U O lk.addr,U O lk.version],IP (.func 160) #[] #[]] w λe w'=>∃(p:Nat) (f:Bool),e=AT (Im #[U O p,Ia f])/\Below w.heap.size w w'/\At ms lk p f:=by
 have HC:Hid (∀w',Below w.heap.size w w'->Calls AS 247 #[v,Ik #[Y lk.aC,U O lk.addr,U O lk.version],IP (.func 160) #[] #[]] w' λe fD=>∃(p:Nat) (f:Bool),e=AT (Im #[U O p,Ia f])/\Below w'.heap.size w' fD/\At ms lk p f):=
  λw' hb=>fx ms v lk w' (h.below hb) hn (dO hr lk)
 clear h hn hr;go_enter Tryz.func215,Tryz.ntmps215;go_wp2_with (go_at_call 247;refine(HC.out _ ?hb).mono ?_)
 case hb=>exact(Ib _ _).alloc (Ic _) _
 rintro e w' ⟨p,f,rfl,aN,cH⟩;have fb:Hid (At ms lk p f):=cH;clear cH;go_wp2_with fail;go_ret2;exact⟨p,f,rfl,((Ib _ _).alloc (Ic _) _).trans (aN.mono (by simp)),fb.out⟩
end Gw
namespace Gw
open Go.RowKit
theorem lM{a b:List bC}(gH:a.length<=6)(gE:b.length<=6)(k:Nat):(dE a b k).length<=12:=by
 unfold dE;split
 .simp
 .split
  .omega
  .have:=df b a;omega
structure Bn(w:World)(pb:Nat)(a b:List bC)(k:Nat)(l:List bC)(pk:Option Addr)(ck:Nat):Prop where
 cell:w.cell? ⟨pb,k,be⟩=AI (J pk l.length ck)
 row:l=[]\/∃b off,pk=AI ⟨b,off,be⟩/\b<w.heap.size/\Row w b off l
 H8:∀m∈l,(m).ok
 len:l.length<=6
 Bo:(dE a b k).length<=6
 tm:bl (dE a b k)
 Bp:∀m∈dE a b k,(m).ok
 step:dE a b (k+1)=av (dE a b k) l
theorem oq{a b:List bC}{va vb:Value}{pb:Nat}{w:World}(ha:Sl w va a)(hb:Sl w vb b)(hc0:w.cell? ⟨pb,0,be⟩=AI va)(hc1:w.cell? ⟨pb,1,be⟩=AI vb)(gH:a.length<=6)(gE:b.length<=6)(ra:bl a)(k:Nat)(hk:k<2) :
 ∃l pk ck,Bn w pb a b k l pk ck:=by
 obtain⟨pa,ca,rfl,Ka,ha⟩:=ha;obtain⟨pv,cb,rfl,Sj,hb⟩:=hb;have gi:k=0\/k=1:=by omega
 rcases gi with rfl|rfl
 .exact⟨a,pa,ca,hc0,ha,dt Ka,gH,by simp[dE],by simp[dE],by simp[dE],(iu a ra).symm⟩
 .exact⟨b,pv,cb,hc1,hb,dt Sj,gE,gH,ra,dt Ka,rfl⟩
theorem iv(a b:List bC)(va vb:Value)(pb cap:Nat)(w:World)(ha:Sl w va a)(hb:Sl w vb b)(hpb:pb<w.heap.size)(hc0:w.cell? ⟨pb,0,be⟩=AI va)(hc1:w.cell? ⟨pb,1,be⟩=AI vb)(gH:a.length<=6)(gE:b.length<=6)(ra:bl a) :
 Calls AS 174 #[IP (.func 160) #[] #[],IP (.func 175) #[] #[],J (AI ⟨pb,0,be⟩) 2 cap] w λe w'=>∃v',e=AT v'/\Own w.heap.size w' v' (av a b)/\Below w.heap.size w w':=by
 have HK:Hid (∀k,k<2->∃l pk ck,Bn w pb a b k l pk ck):=λk hk=>oq ha hb hc0 hc1 gH gE ra k hk;have uG:Hid (∀k,(dE a b k).length<=12):=lM gH gE;clear ha hb hc0 hc1 gH gE ra;go_enter Tryz.func174,Tryz.ntmps174;go_wp2_with fail;go_loopw [7,16] (λkn i w'=>∃k:Nat,k<=2/\i=U O k/\Below w.heap.size w w'/\Hid (Own w.heap.size w' kn (dE a b k))) (λ_ i _=>2-(intOf i).toNat)
 case atStart=>exact⟨0,by omega,rfl,Ib _ _,bX _ _⟩
 case round=>
  obtain⟨k,hk,rfl,aN,HO⟩:=hrel;obtain⟨eG,nt⟩:=cj aN;have cC:=aN.size;by_cases jd:k<2
  .obtain⟨l,pk,ck,ot⟩:=HK.out k jd
   have ou:Hid (Bn w pb a b k l pk ck):=ot;have fS:=ot.cell;clear ot;generalize qW:l.length=nl at *;have jZ:Hid (l.length=nl):=qW;clear qW;have Kb:nl<=6:=by have:=ou.out.len;have:=jZ.out;omega
   have Sk:(k:Int)<2:=by omega
   go_wp2_with fail;go_loopw [7,22] (λkn j w'=>∃q:Nat,q<=nl/\j=U O q/\Below w.heap.size w w'/\Hid (Own w.heap.size w' kn (av (dE a b k) (l.take q)))) (λ_ j _=>nl-(intOf j).toNat)
   case atStart=>exact⟨0,IH _,rfl,aN,HO⟩
   case round=>
    clear eG nt cC aN HO fS;obtain⟨q,hq,rfl,aN,HO⟩:=hrel;obtain⟨eG,nt⟩:=cj aN;have cC:=aN.size;by_cases aR:q<nl
    .obtain⟨b2,off,Bq,PC,cO⟩:∃wY off,pk=AI ⟨wY,off,be⟩/\wY<w.heap.size/\Row w wY off l:=by
      rcases ou.out.row with h|h
      .have:=jZ.out;rw[h] at this;simp at this;omega
      .exact h
     subst Bq;obtain⟨c0,c1,c2⟩:=cO q (by rw[jZ.out];exact aR);clear cO;have HJ:Hid (av (dE a b k) (l.take (q+1))=aQ (av (dE a b k) (l.take q)) (l.getD q dm)):=gj (dE a b k) l q (by rw[jZ.out];exact aR);have HR:Hid (bl (av (dE a b k) (l.take q))):=dD _ _ ou.out.tm;have ML:Hid (∀j,((av (dE a b k) (l.take q)).getD j dm).ok):=cy (iJ _ _ ou.out.Bp (λx hx=>ou.out.H8 x (List.mem_of_mem_take hx)));have HL:Hid ((av (dE a b k) (l.take q)).length<=12):=by
      have h1:=df (l.take q) (dE a b k);have h2:(l.take q).length<=q:=List.length_take_le _ _;have h3:=ou.out.Bo;show(av (dE a b k) (l.take q)).length<=12;omega
     generalize l.getD q dm=m at *;generalize av (dE a b k) (l.take q)=known at *;have D9:known.length<=12:=HL.out;obtain⟨W1,cQ,aB,fh,cI⟩:=bV wr #[Y m.aC,U O m.addr,U O m.version] 77;have lz:Hid (Own w.heap.size W1 u7 known):=HO.out.below aB;have HF:Hid (Calls AS 215 #[u7,Ik #[Y m.aC,U O m.addr,U O m.version],IP (.func 160) #[] #[]] W1 λe w'=>∃(p:Nat) (f:Bool),e=AT (Im #[U O p,Ia f])/\Below W1.heap.size W1 w'/\At known m p f):=
      fm known u7 m W1 (lz.out.sl ML.out) HL.out HR.out
     have aY:Hid (Below w.heap.size w W1):=aN.trans (aB.mono cC);have HT:Hid (As W1 wr.heap.size 0 m):=⟨ae cI 0,ae cI 1,ae cI 2⟩;have nV:Hid _:=cQ;have uP:w.heap.size<=W1.heap.size:=by omega
     clear cI aB HO HL HR cQ;go_wp2_with fail;rw[<- nV.out];refine HF.out.mono ?_;rintro e w2 ⟨p,f,rfl,aI,cH⟩;have fb:Hid _:=cH;have Sm:=cH.le;have Sn:=aI.size;have gZ:Hid (Own _ _ _ _):=lz.out.below aI;have bp:Hid _:=aY.out.trans (aI.mono uP);have wM:Hid (As w2 wr.heap.size 0 m):=HT.out.eq (λo=>aI.cell (p:=⟨wr.heap.size,o,be⟩) (by show wr.heap.size<W1.heap.size;omega));obtain⟨t0,t1,t2⟩:w2.cell? ⟨wr.heap.size,0,be⟩=AI (Y m.aC)/\w2.cell? ⟨wr.heap.size,1,be⟩=AI (U O m.addr)/\w2.cell? ⟨wr.heap.size,2,be⟩=AI (U O m.version):=wM.out;have iU:w.heap.size<=w2.heap.size:=by omega
     have Br:wr.heap.size<w2.heap.size:=by omega
     clear cH HF eG nt c0 c1 c2 aI lz aY HT;cases f
     .have aT:Hid (u7.ownBlock≠AI w2.heap.size):=λe=>by have:=gZ.out.lt _ e;omega
      have dY:Hid (Own w.heap.size (w2.alloc (.cells #[Y m.aC,U O m.addr,U O m.version] 77)) u7 known):=gZ.out.below ((Ib _ _).alloc (Ic _) _);have o5:Hid ((w2.alloc (.cells #[Y m.aC,U O m.addr,U O m.version] 77)).heap[w2.heap.size]?=AI (.cells m.cs.toArray 77 (0,0))):=heap_alloc_new w2 _;go_wp2_with (go_at_call 216;refine(fk w.heap.size p w2.heap.size u7 known m _ dY.out fb.out.le (by omega) (by simp;omega) o5.out aT.out).mono ?_;rintro e w4 ⟨v',rfl,g1,g2⟩);go_roundw
      case rel=>
       have ja:∃ov:Nat,ov<=nl/\U O ((q:Int)+1)=U O ov/\Below w.heap.size w w4/\Hid (Own w.heap.size w4 v' (av (dE a b k) (l.take ov))):=⟨q+1,by omega,by go_num,fe (bp.out.alloc iU _) dY.out g2 (by simp;omega),by rw[HJ.out,da known m p false fb.out];exact g1⟩;first|exact ja|((repeat apply Exists.intro);exact⟨ja,rfl⟩)
      case measure=>simp[intOf];omega
     .have hp:p<known.length:=(fb.out.is.1 rfl).1
      obtain⟨g,c,hu⟩:=jH gZ.out p hp;subst hu;have F:=(ez gZ.out p hp).re;have di:=gZ.out.lt g rfl;have MN:g<w2.heap.size:=di.2;generalize hm:known.getD p dm=m2 at *;have Hm:Hid _:=hm;clear hm;have hN:∀d os,Calls AS 175 #[Ik #[Y m.aC,U O m.addr,U O m.version],Ik #[Y m2.aC,U O m2.addr,U O m2.version]] (Ij (Iv w2 d) os) λe fD=>e=AT (Ia (bN m m2))/\∃p:JI,fD=Ij (Iv w2 p.d) p.os:=λd os=>IU (gk m m2 _);have G:=wM.out.re;simp only[As,ID] at F G;have qT:∀o,w2.frozen? ⟨g,o,be⟩=false:=λo=>World.ownsRow.frozenAt gZ.out o;have TR:Hid _:=qT;clear qT t0 t1 t2;generalize Kc:bN m m2=nw at *;have Kd:Hid _:=Kc;clear Kc;go_wp2_with fail;refine IA (by kernel_rfl) (by kernel_rfl) ?_;repeat(quiet_step (exact hN _ _))
      refine bE λdq gT dR=>?_;clear hN F G;cases nw
      .go_wp2_with fail
       go_roundw
       case rel=>
        have ja:∃ov:Nat,ov<=nl/\U O ((q:Int)+1)=U O ov/\Below w.heap.size w (Ij (Iv w2 dq) gT)/\Hid (Own w.heap.size (Ij (Iv w2 dq) gT) (J (AI ⟨g,0,be⟩) known.length c) (av (dE a b k) (l.take ov))):=⟨q+1,by omega,by go_num,bp.out.trans (dR.out.mono iU),by rw[HJ.out,da known m p true fb.out,if_pos rfl,Hm.out,if_neg (λh=>Bool.false_ne_true (Kd.out.symm.trans h))];exact gZ.out.below dR.out⟩;first|exact ja|((repeat apply Exists.intro);exact⟨ja,rfl⟩)
       case measure=>simp[intOf];omega
      .generalize Ij (Iv w2 dq) gT=w3 at *
       have dY:Hid (Own _ _ _ _):=gZ.out.below dR.out;obtain⟨c0,c1,c2⟩:=ez dY.out p hp;rw[Hm.out] at c0 c1 c2;have lh:=(dY.out.lt g rfl).2;have qT:∀o,w3.frozen? ⟨g,o,be⟩=false:=λo=>World.ownsRow.frozenAt dY.out o;obtain⟨s0,s1,s2⟩:w3.cell? ⟨wr.heap.size,0,be⟩=AI (Y m.aC)/\w3.cell? ⟨wr.heap.size,1,be⟩=AI (U O m.addr)/\w3.cell? ⟨wr.heap.size,2,be⟩=AI (U O m.version):=wM.out.eq (λo=>dR.out.cell (p:=⟨wr.heap.size,o,be⟩) Br);go_wp2_with fail;refine⟨⟨q+1,by omega,by go_num,?_,?_⟩,by simp[intOf];omega⟩
       .exact((((bp.out.trans (dR.out.mono iU)).setCell (p:=⟨g,p*3,be⟩) di.1 (Y m.aC)).setCell (p:=⟨g,p*3+1,be⟩) di.1 (U O m.addr)).setCell (p:=⟨g,p*3+2,be⟩) di.1 (U O m.version))
       .rw[HJ.out,da known m p true fb.out,if_pos rfl,Hm.out,if_pos Kd.out]
        exact lq dY.out hp m
    .have Ea:q=nl:=by omega
     subst Ea;have dY:Hid (Own w.heap.size wr u7 (dE a b (k+1))):=by
      have h:=HO.out;rw[List.take_of_length_le (by rw[jZ.out];exact Ic _)] at h;rw[ou.out.step];exact h
     go_wp2_with fail;go_roundw
     case rel=>exact⟨k+1,by omega,by go_num,aN,dY⟩
     case measure=>simp[intOf];omega
  .have jw:k=2:=by omega
   subst jw;go_wp2_with fail;go_ret;exact⟨_,rfl,HO.out,aN⟩
end Gw
namespace Gw
open Go.RowKit
theorem fV(m:bC)(w:World)(hm:m.ok) :
 Calls AS 158 #[Ik #[Y m.aC,U O m.addr,U O m.version]] w λe w'=>e=AT (U O m.e)/\Below w.heap.size w w':=by
 have hs:m.aC.size<=Io:=hm;have hB:Hid (Below w.heap.size w (w.alloc (.cells #[Y m.aC,U O m.addr,U O m.version] 77))):=(Ib _ _).alloc (Ic _) _;clear hm;rcases h1:ba m.aC with _|_
 .go_enter Tryz.func158,Tryz.ntmps158
  go_wp2_with (go_at_call 53;refine(bQ _ _ hs).mono ?_;rintro e w' ⟨rfl,rfl⟩;rw[h1]);go_ret;exact⟨ai (by simp[bC.e,h1]),hB.out⟩
 .rcases h2:within m.addr 0 4294967295 with _|_
  .go_enter Tryz.func158,Tryz.ntmps158
   go_wp2_with (first|(go_at_call 53;refine(bQ _ _ hs).mono ?_;rintro e w' ⟨rfl,rfl⟩;rw[h1])|(go_at_call 35;refine(eF _ _).mono ?_;rintro e w' ⟨rfl,rfl⟩;rw[h2]));go_ret;exact⟨ai (by simp[bC.e,h1,h2]),hB.out⟩
  .rcases h3:within m.version 1 1000000 with _|_
   all_goals
    go_enter Tryz.func158,Tryz.ntmps158;go_wp2_with (first|(go_at_call 53;refine(bQ _ _ hs).mono ?_;rintro e w' ⟨rfl,rfl⟩;rw[h1])|(go_at_call 35;refine(eF _ _).mono ?_;rintro e w' ⟨rfl,rfl⟩;rw[h2])|(go_at_call 54;refine(cf _ _ _ _).mono ?_;rintro e w' ⟨rfl,rfl⟩;rw[h3]));go_ret;exact⟨ai (by simp[bC.e,h1,h2,h3]),hB.out⟩
theorem iG(ms:List bC)(b off cap:Nat)(w:World)(hr:Row w b off ms)(hb:b<w.heap.size)(hn:ms.length<=6)(hs:∀j,(ms.getD j dm).ok) :
 Calls AS 100 #[J (AI ⟨b,off,be⟩) ms.length cap] w λe w'=>e=AT (U O (bj ms))/\Below w.heap.size w w':=by
 have HR:Hid (Row w b off ms):=hr;have HE:Hid (∀k,k<ms.length->(∀j,j<k->(ms.getD j dm).e=0)->(ms.getD k dm).e≠0->bj ms=(ms.getD k dm).e):=λk h1 h2 h3=>tC ms k hn h1 h2 h3;have H4:Hid ((∀j,j<ms.length->(ms.getD j dm).e=0)->bj ms=if aK ms=true then 0 else 4):=λh1=>qZ ms hn h1;have KL:Hid (∀w',Below w.heap.size w w'->Calls _ _ _ _ _):=λw' Ay=>jE ms b off cap w' (hr.later Ay hb) (IJ hb Ay.size) hn;clear hr;generalize hN:ms.length=n at *;have HN:Hid _:=hN;clear hN;have HS:Hid _:=hs;clear hs;generalize hC:bj ms=res at *;have HC:Hid _:=hC;clear hC;generalize KM:aK ms=rb at *;have L8:Hid _:=KM;clear KM;go_enter Tryz.func100,Tryz.ntmps100;go_wp2_with fail;go_loopw [11] (λi w'=>∃k:Nat,k<=n/\i=U O k/\Below w.heap.size w w'/\Hid (∀j,j<k->(ms.getD j dm).e=0)) (λi _=>n-(intOf i).toNat)
 case atStart=>exact⟨0,IH _,rfl,Ib _ _,λj h=>absurd h (Jl _)⟩
 case round=>
  obtain⟨k,hk,rfl,aN,hz⟩:=hrel;obtain⟨eG,nt⟩:=cj aN;have cC:=aN.size;by_cases aR:k<n
  .obtain⟨c0,c1,c2⟩:=HR.out k (by rw[HN.out];exact aR)
   have Dl:Hid _:=HS.out k;have HK:Hid ((ms.getD k dm).e≠0->res=(ms.getD k dm).e):=λh=>HE.out k aR hz.out h;have HZ:Hid ((ms.getD k dm).e=0->∀j,j<k+1->(ms.getD j dm).e=0):=λh j hj=>by
    rcases I8.1 hj with h2|rfl
    .exact hz.out j h2
    .exact h
   generalize ms.getD k dm=m at *;have HO:Hid (∀w,Calls _ _ _ _ _):=λw=>fV m w Dl.out;generalize m.e=me at *;rcases he:decide (me=0) with _|_
   .have kG:(me !=0)=true:=by simpa using he
    clear he;go_wp2_with (go_at_call 158;refine(HO.out _).mono ?_;rintro e w' ⟨rfl,aI⟩);go_ret;have aT:me≠0:=by simpa using kG
    have sL:=HK.out aT;exact⟨ai sL.symm,(aN.alloc cC _).trans (aI.mono (by simp;omega))⟩
   .have kG:(me !=0)=false:=by simpa using he
    clear he;go_wp2_with (go_at_call 158;refine(HO.out _).mono ?_;rintro e w' ⟨rfl,aI⟩);go_roundw
    case rel=>
     have P0:me=0:=by simpa using kG
     exact⟨k+1,by omega,by go_num,(aN.alloc cC _).trans (aI.mono (by simp;omega)),HZ.out P0⟩
    case measure=>simp[intOf];omega
  .have kp:Hid (∀j,j<n->(ms.getD j dm).e=0):=λj hj=>hz.out j (by omega)
   have oB:Hid _:=H4.out kp.out;clear hz kp H4 HE HC L8;cases rb
   .go_wp2_with (go_at_call 159;refine(KL.out _ aN).mono ?_;rintro e w' ⟨rfl,aI⟩)
    go_ret;exact⟨ai (by rw[oB.out];rfl),aN.trans (aI.mono cC)⟩
   .go_wp2_with (go_at_call 159;refine(KL.out _ aN).mono ?_;rintro e w' ⟨rfl,aI⟩)
    go_ret;exact⟨ai (by rw[oB.out];rfl),aN.trans (aI.mono cC)⟩
theorem gp(a:Option Addr)(n cap:Nat)(w:World)(hn:6<n) :
 Calls AS 100 #[J a n cap] w λe w'=>e=AT (U O 2)/\w'=w:=by
 go_enter Tryz.func100,Tryz.ntmps100;go_wp2_with fail;go_ret;exact⟨rfl,rfl⟩
theorem gq(a:Option Addr)(cap:Nat)(w:World) :
 Calls AS 100 #[J a 0 cap] w λe w'=>e=AT (U O 0)/\w'=w:=by
 go_enter Tryz.func100,Tryz.ntmps100;go_wp2_with fail;go_loop [11] (λi=>i=U O 0) (λ_=>0)
 case atStart=>rfl
 case round=>
  subst hrel;go_wp2_with (go_at_call 159;refine(gm _ _ _ _).mono ?_;rintro e w' ⟨rfl,rfl⟩);go_ret;exact⟨rfl,rfl⟩
theorem bo(ms:List bC)(v:Value)(w:World)(h:Sl w v ms) :
 Calls AS 100 #[v] w λe w'=>e=AT (U O (bj ms))/\Below w.heap.size w w':=by
 obtain⟨a,cap,rfl,hs,h⟩:=h;by_cases hn:6<ms.length
 .refine(gp a ms.length cap w hn).mono ?_
  rintro e w' ⟨rfl,rfl⟩;exact⟨ai (by rw[bj,if_pos hn]),Ib _ _⟩
 .rcases h with rfl|⟨b,off,rfl,hb,hr⟩
  .refine(gq a cap w).mono ?_
   rintro e w' ⟨rfl,rfl⟩;exact⟨rfl,Ib _ _⟩
  .exact iG ms b off cap w hr hb (by omega) hs
theorem dJ(a b:List bC)(va vb:Value)(pb cap:Nat)(w:World)(ha:Sl w va a)(hb:Sl w vb b)(hpb:pb<w.heap.size)(hc0:w.cell? ⟨pb,0,be⟩=AI va)(hc1:w.cell? ⟨pb,1,be⟩=AI vb) :
 Calls AS 173 #[J (AI ⟨pb,0,be⟩) 2 cap] w λe w'=>e=AT (U O (aO a b))/\Below w.heap.size w w':=by
 have HA:Hid (Sl w va a):=ha;have HB:Hid (Sl w vb b):=hb;clear ha hb;go_enter Tryz.func173,Tryz.ntmps173;go_wp2_with fail;go_loopw [8] (λi w'=>∃k:Nat,k<=2/\i=U O k/\Below w.heap.size w w'/\Hid (0<k->bj a=0)/\Hid (1<k->bj b=0)) (λi _=>2-(intOf i).toNat)
 case atStart=>exact⟨0,by omega,rfl,Ib _ _,λh=>by omega,λh=>by omega⟩
 case round=>
  obtain⟨k,hk,rfl,aN,dd,cX⟩:=hrel;obtain⟨eG,nt⟩:=cj aN;have cC:=aN.size;have Gn:Hid (Sl wr va a):=HA.out.below aN;have Gp:Hid (Sl wr vb b):=HB.out.below aN;have gi:k=0\/k=1\/k=2:=by omega
  rcases gi with rfl|rfl|rfl
  .rcases he:decide (bj a=0) with _|_
   .have kG:(bj a !=0)=true:=by simpa using he
    clear he;go_wp2_with (go_at_call 100;refine(bo a _ _ Gn.out).mono ?_;rintro e w' ⟨rfl,aI⟩);go_ret;exact⟨ai (by have h0:bj a≠0:=(by simpa using kG);rw[aO,if_neg h0]),aN.trans (aI.mono cC)⟩
   .have kG:(bj a !=0)=false:=by simpa using he
    clear he;go_wp2_with (go_at_call 100;refine(bo a _ _ Gn.out).mono ?_;rintro e w' ⟨rfl,aI⟩);go_roundw
    case rel=>exact⟨1,by omega,by go_num,aN.trans (aI.mono cC),λ_=>(by simpa using kG),λh=>by omega⟩
    case measure=>simp[intOf]
  .have h0:Hid _:=dd.out (by omega)
   rcases he:decide (bj b=0) with _|_
   .have kG:(bj b !=0)=true:=by simpa using he
    clear he;go_wp2_with (go_at_call 100;refine(bo b _ _ Gp.out).mono ?_;rintro e w' ⟨rfl,aI⟩);go_ret;exact⟨ai (by rw[aO,if_pos h0.out]),aN.trans (aI.mono cC)⟩
   .have kG:(bj b !=0)=false:=by simpa using he
    clear he;go_wp2_with (go_at_call 100;refine(bo b _ _ Gp.out).mono ?_;rintro e w' ⟨rfl,aI⟩);go_roundw
    case rel=>exact⟨2,by omega,by go_num,aN.trans (aI.mono cC),λ_=>h0.out,λ_=>(by simpa using kG)⟩
    case measure=>simp[intOf]
  .go_wp2_with fail
   go_ret;exact⟨ai (by rw[aO,if_pos (dd.out (by omega)),cX.out (by omega)]),aN⟩
theorem mI(a b:List bC)(va vb:Value)(pb cap:Nat)(w:World)(ha:Sl w va a)(hb:Sl w vb b)(hpb:pb<w.heap.size)(hc0:w.cell? ⟨pb,0,be⟩=AI va)(hc1:w.cell? ⟨pb,1,be⟩=AI vb)(aT:aO a b≠0) :
 Calls AS 110 #[J (AI ⟨pb,0,be⟩) 2 cap] w λe w'=>e=AT (Im #[J be 0 0,U O (aE a b)])/\Below w.heap.size w w':=by
 have he:(aO a b !=0)=true:=by simpa using aT
 have HE:Hid (aE a b=aO a b):=if_neg aT;have pM:=dJ a b va vb pb cap w ha hb hpb hc0 hc1;have HC:Hid (Calls _ _ _ _ _):=pM;clear pM ha hb aT;go_enter Tryz.func110,Tryz.ntmps110;go_wp2_with (go_at_call 173;refine HC.out.mono ?_;rintro e w' ⟨rfl,aI⟩);go_ret2;exact⟨by rw[HE.out];rfl,aI⟩
theorem kN(a b:List bC)(va vb:Value)(pb cap:Nat)(w:World)(ha:Sl w va a)(hb:Sl w vb b)(hpb:pb<w.heap.size)(hc0:w.cell? ⟨pb,0,be⟩=AI va)(hc1:w.cell? ⟨pb,1,be⟩=AI vb)(h0:aO a b=0) :
 Calls AS 110 #[J (AI ⟨pb,0,be⟩) 2 cap] w λe w'=>∃v',e=AT (Im #[v',U O (aE a b)])/\Below w.heap.size w w' /\
  (6<(av a b).length->v'=J be 0 0)/\((av a b).length<=6->Own w.heap.size w' v' (av a b)):=by
 have he:(aO a b !=0)=false:=by simpa using h0
 have Dn:bj a=0:=by unfold aO at h0;split at h0<;>assumption
 have P1:bj b=0:=by unfold aO at h0;rw[if_pos Dn] at h0;exact h0
 have za:=af Dn;have zb:=af P1;have HE:Hid (aE a b=if 6<(av a b).length then 2 else 0):=if_pos h0;have HC:Hid (Calls _ _ _ _ _):=dJ a b va vb pb cap w ha hb hpb hc0 hc1;have HJ:Hid (∀w1,Below w.heap.size w w1->Calls AS 174 #[IP (.func 160) #[] #[],IP (.func 175) #[] #[],J (AI ⟨pb,0,be⟩) 2 cap] w1 λe w'=>∃v',e=AT v'/\Own w1.heap.size w' v' (av a b)/\Below w1.heap.size w1 w'):=λw1 aB=>
  iv a b va vb pb cap w1 (ha.below aB) (hb.below aB) (IJ hpb aB.size) ((cj aB).1 pb 0 hpb |>.trans hc0) ((cj aB).1 pb 1 hpb |>.trans hc1) za.1 zb.1 za.2.1
 have D9:(av a b).length<=12:=by have h1:=df b a;have h2:=za.1;have h3:=zb.1;omega
 clear h0 Dn P1 za zb ha hb hc0 hc1;generalize av a b=jl at *;generalize GV:jl.length=n at *;have Ww:Hid _:=GV;clear GV;go_enter Tryz.func110,Tryz.ntmps110;go_wp2_with (go_at_call 173;refine HC.out.mono ?_;rintro e w1 ⟨rfl,aB⟩);refine(HJ.out w1 aB).mono ?_;rintro e w2 ⟨v',rfl,ho,aI⟩;have zD:∃p c,v'=J p n c:=by
  have hn:=Ww.out;rcases ho.2 with⟨h,h0⟩|⟨g,c,cur,h,_⟩
  .exact⟨be,0,by rw[h];congr 1;omega⟩
  .exact⟨_,c,by rw[h,hn]⟩
 obtain⟨p,c,rfl⟩:=zD;have P2:Hid _:=aB.trans (aI.mono aB.size);have dY:Hid (Own _ _ _ _):=ho.mono aB.size;clear ho aB aI HC HJ;by_cases aR:6<n
 .go_wp2_with fail
  go_ret2;refine⟨_,by rw[HE.out,if_pos aR];rfl,P2.out,λ_=>rfl,λh=>by omega⟩
 .go_wp2_with fail
  go_ret2;refine⟨J p n c,by rw[HE.out,if_neg aR];rfl,P2.out,λh=>by omega,λ_=>dY.out⟩
end Gw
end Go.Proofs.YtfidhgjmifendaaGreatDoor
