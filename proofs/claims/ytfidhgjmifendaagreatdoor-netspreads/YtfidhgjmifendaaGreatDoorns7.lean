import Derived.Test.YtfidhgjmifendaaGreatDoorns6
set_option maxHeartbeats 1000000
set_option maxRecDepth 100000
open Go.Value renaming agg→Ij,string→Y,int→U,slice→J,bool→Ia,func→IT,tuple→Ik
open Go.IntKind renaming i64→O,wrap_i64→IW
open Option renaming some→AI,none→be
open Go renaming info_parts→I6,maxLen→Il,redrawn→Iz,Regrown→JT,wp_region_quiet_below→IG
open Go.Proofs.Tryz renaming prog→AS,underlying40→J7
open Go.Obj renaming cells→By
open Go.Ending renaming returned→AT
open Go.Act renaming eval→No,put→Oq
open List renaming length_take→IA,append_assoc→Io,getD_cons_zero→I4,getD_cons_succ→JB,mem_cons→IQ,range→Jx,any_eq_true→Qg
open Array renaming length_toList→IU
open Nat renaming zero_add→IC,le_refl→Ic,not_lt_zero→Jv
open Go.RowKit.Below renaming refl→Ib
open Go.Sort renaming grow→Im
open Go.Calls renaming regrown_of→IZ
namespace Go.Proofs.YtfidhgjmifendaaGreatDoor
namespace Wh
open Go.RowKit
theorem Tryz.nO:(Tryz.prog.info? 116).map (λi=>(i.zero,i.size,i.bytes))=AI (AI (Ij #[Y ⟨#[]⟩,U O 0,U O 0,U O 0,U O 0,U O 0]),6,56):=by kernel_rfl
theorem D2:(Tryz.prog.info? 116).map (·.size)=AI 6:=by
 obtain⟨i,hi,h1,h2,h3⟩:=I6 Tryz.nO;rw[hi];simp[h2]
theorem sizeOf116(w:World):(Go.sizeOf 116).run AS w=.ok 6 w:=by
 obtain⟨i,hi,h1,h2,h3⟩:=I6 Tryz.nO;simp[Go.sizeOf,typeInfo,hi,h2]
theorem eP(w:World)(g vb o lb cb:Nat)(cur vs:Array Value)(hg:w.heap[g]?=AI (By cur 116 (0,0)))(hv:w.heap[vb]?=AI (By vs 116 (0,0)))(aQ:vb≠g)(hk:cur.size≠0) : (callFunc 177 #[J (AI ⟨vb,0,be⟩) 1 1,J (AI ⟨g,o,be⟩) lb cb]).run AS w=.ok (.value (Ia false)) w:=by
 rw[run_callFunc_extern Tryz.func177 (by kernel_rfl) (by kernel_rfl) (by kernel_rfl) (e:=Extern.SlicesOverlaps.overlaps #[40,40] #[4]) (by kernel_rfl),
  Lib.run_overlaps_apart w 40 4 116 J7 6 sizeOf116 ⟨vb,0,be⟩ ⟨g,o,be⟩ 1 1 lb cb aQ 116 116 vs.size cur.size (by simp[World.shape?,hv]) (by simp[World.shape?,hg]) hk (by simp[World.frozen?,hv]) (by simp[World.frozen?,hv])]
 rfl
theorem fA(g n c i vb:Nat)(cur:Array Value)(vs:List Value)(w:World)(hg:w.heap[g]?=AI (By cur 116 (0,0)))(cf:cur.size=c*6)(hi:i<n)(dz:n+1<=c)(BG:c<=9223372036854775807)(qf:vb≠g)(hv:w.heap[vb]?=AI (By vs.toArray 116 (0,0)))(kB:vs.length=6)(l9:∀v∈cur.toList.take (n*6),v.oneCell'=true)(mW:∀v∈vs,v.oneCell'=true) :
 aI 113 #[J (AI ⟨g,0,be⟩) n c,U O i,J (AI ⟨vb,0,be⟩) 1 1] w λe w'=>e=AT (J (AI ⟨g,0,be⟩) (n+1) c) /\
  ∃dV:Array Value,w'.heap[g]?=AI (By dV 116 (0,0))/\dV.size=c*6/\dV.toList.take ((n+1)*6)=cur.toList.take (i*6)++vs++(cur.toList.take (n*6)).drop (i*6)/\w.grownBy w' (AI g):=by
 have Sk:=λo lb cb=>eP w g vb o lb cb cur vs.toArray hg hv qf (by omega);have nW:¬ ((i:Int)=(n:Int)):=by omega
 have aK:¬ (c=i+1):=by omega
 have eU:¬ (c=i):=by omega
 have bX:(i:Int)<=(n:Int)+1:=by omega
 obtain⟨W1,W2,oS,tH,HF⟩:=qe J7 D2 hg cf hi dz qf hv kB l9 mW;have HF:Hid _:=HF;clear l9 mW hg hv;have MY:IntKind.i64.wrap ((i:Int)+1)=(i:Int)+1:=by rw[IW];omega
 have aB:(0:Int)<=(i:Int)+1:=by omega
 have mI:i<=n:=by omega
 have Et:((i:Int)+1).toNat=i+1:=by omega
 go_enter Tryz.func113,Tryz.ntmps113;go_wp2_with (simp only[Sk]);go_region_law (refine dw rfl _ _ 40 40 rfl _ _ (by simp[No,Oq]) (by simp[No,Oq]) (oS _ _ _) ?_)
 go_wp2_with fail;go_ret;exact⟨rfl,HF.out⟩
theorem fB(g n c i vb:Nat)(cur:Array Value)(vs:List Value)(w:World)(hg:w.heap[g]?=AI (By cur 116 (0,0)))(cf:cur.size=c*6)(hi:i<n)(fP:n<=c)(dz:c<n+1)(BG:n<=1000)(hv:w.heap[vb]?=AI (By vs.toArray 116 (0,0)))(kB:vs.length=6)(l9:∀v∈cur.toList.take (n*6),v.oneCell'=true)(mW:∀v∈vs,v.oneCell'=true) :
 aI 113 #[J (AI ⟨g,0,be⟩) n c,U O i,J (AI ⟨vb,0,be⟩) 1 1] w λe w'=>∃G,e=AT (J (AI ⟨w.heap.size,0,be⟩) (n+1) G)/\n+1<=G/\G<=Il /\
  ∃dV:Array Value,w'.heap[w.heap.size]?=AI (By dV 116 (0,0))/\dV.size=G*6/\dV.toList.take ((n+1)*6)=cur.toList.take (i*6)++vs++(cur.toList.take (n*6)).drop (i*6)/\w.grownBy w' be:=by
 obtain⟨i0,fV,di,il,gT⟩:=I6 Tryz.nO;have BH:c=n:=by omega
 subst BH;have nW:¬ ((i:Int)=(c:Int)):=by omega
 have qL:(c:Int)<(c:Int)+1:=by omega
 have rj:(c:Int)+1-(i:Int)=((c+1-i:Nat):Int):=by omega
 have BI:i+(c+1-i)=c+1:=by omega
 have hold:(Builtin.firstCells i0.size i (J (AI ⟨g,0,be⟩) i c)).run AS w.drew=.ok (cur.toList.take (i*6)).toArray w.drew:=by
  rw[il];exact run_firstCells_some w.drew 6 i ⟨g,0,be⟩ i c (cur.toList.take (i*6)) (by rw[IA,IU];omega) (λj v hj=>by
   have e:w.drew.cell? ((⟨g,0,be⟩:Addr).add j)=cur[j]?:=by rw[Addr.add_lit,IC];exact ae hg _
   rw[e];rw[List.getElem?_take] at hj;split at hj
   .simpa using hj
   .cases hj)
 have xF:∀ty,∃G mG,c+1<=G/\G<=Il/\mG.size=G*6/\mG.toList.take (i*6)=cur.toList.take (i*6)/\(Builtin.append_ #[40,3] ty #[J (AI ⟨g,0,be⟩) i c,U O ((c:Int)+1-(i:Int))]).run AS w =
  .ok (J (AI ⟨w.heap.size,0,be⟩) (c+1) G) (w.drew.alloc (By mG 116)):=λty=>by
  have h:=Lib.run_append_grow_zeros w 40 3 ty 116 i0 _ O O J7 Tryz.underlying3 fV di (AI ⟨g,0,be⟩) i c (cur.toList.take (i*6)) hold (c+1-i) (by omega) (by omega) (by omega) (by omega) (by rw[gT];omega) (by rw[gT,BI];exact growslice_fits dz (by omega));rw[BI] at h;rw[rj];have h1:=grownCap_ge w (c+1) c 116;refine⟨_,_,h1,grownCap_le_maxLen w (c+1) c 116 (by unfold Il;omega),?_,?_,h⟩
  .simp only[Array.size_append,List.size_toArray,size_zeroCells,IA,IU,cf,Value.cells]
   simp;omega
  .simp only[Array.toList_append,Io]
   exact List.take_left' (by simp only[IA,IU,cf];omega)
 obtain⟨G,mG,zG,xG,AV,Eu,xF⟩:=xF 40;have Sm:G<=9223372036854775807:=by unfold Il at xG;omega
 obtain⟨W2,W3,oS,tH,HF⟩:=qg J7 D2 hg cf hi hv kB l9 mW zG AV Eu;obtain⟨W1,cT⟩:∃W1,W1=(w.alloc (By mG 116)).drew:=⟨_,rfl⟩;have Kh:w.drew.alloc (By mG 116)=W1:=by rw[cT];rfl
 rw[Kh] at xF;rw[<- cT] at oS;have HF:Hid _:=HF;have MY:IntKind.i64.wrap ((i:Int)+1)=(i:Int)+1:=by rw[IW];omega
 have aB:(0:Int)<=(i:Int)+1:=by omega
 have mI:i<=c:=by omega
 have Et:((i:Int)+1).toNat=i+1:=by omega
 have hGi:¬ (G=i):=by omega
 have Sn:¬ (G=i+1):=by omega
 have hci:¬ (c=i):=by omega
 clear cT l9 mW Kh AV Eu rj BI hold hg hv fV di il gT;go_enter Tryz.func113,Tryz.ntmps113;go_wp2_with (at_builtin;refine Lib.wpList_append_run _ rfl _ _ _ _ rfl _ _ rfl rfl _ _ xF ?_);go_region_law (refine dw rfl _ _ 40 40 rfl _ _ (by simp[No,Oq]) (by simp[No,Oq]) (tH _ _ _) ?_)
 go_wp2_with fail;go_ret;exact⟨G,rfl,zG,xG,HF.out⟩
theorem gk(base n vb:Nat)(v:Value)(xs vs:List Value)(w:World)(hown:w.ownsRow base 116 6 v n xs)(hn:n<=1000)(hbase:base<=w.heap.size)(hv:w.heap[vb]?=AI (By vs.toArray 116 (0,0)))(kB:vs.length=6)(mW:∀v∈vs,v.oneCell'=true) :
 aI 113 #[v,U O n,J (AI ⟨vb,0,be⟩) 1 1] w λe w'=>∃v',e=AT v'/\w'.ownsRow base 116 6 v' (n+1) (xs++vs)/\w.grownBy w' v.ownBlock:=by
 obtain⟨i0,fV,di,il,gT⟩:=I6 Tryz.nO;have hnews:∀j u,vs[j]?=AI u->w.cell? ((⟨vb,0,be⟩:Addr).add j)=AI u:=λj v hj=>by rw[Addr.add_lit,ae hv];simpa using hj
 have HO:Hid (w.ownsRow base 116 6 v n xs):=hown;rcases hown.2 with⟨rfl,rfl⟩|⟨g,c,cur,rfl,_,_,fP,dR,_,_⟩;rotate_left;unfold Il at dR;by_cases BH:c=n;subst BH;all_goals
  clear hown hv;go_enter Tryz.func113,Tryz.ntmps113;go_wp2_with (at_builtin;refine wpList_append_own _ rfl _ _ 40 rfl base 116 i0 _ 6 56 J7 fV di il gT rfl (by omega) _ _ xs rfl HO.out ⟨vb,0,be⟩ 1 1 vs rfl (by omega) hnews mW (by unfold Il;omega) (by omega) hbase ?_);intro v' w' r1 r2 r3;go_wp2_with fail;go_ret;exact⟨v',rfl,r1,r2⟩
theorem fC(base i vb:Nat)(v:Value)(ms:List bK)(m:bK)(w:World)(hown:Own base w v ms)(hi:i<=ms.length)(hn:ms.length<=1000)(hbase:base<=w.heap.size)(hv:w.heap[vb]?=AI (By m.cs.toArray 116 (0,0)))(aQ:v.ownBlock≠AI vb) :
 aI 113 #[v,U O i,J (AI ⟨vb,0,be⟩) 1 1] w λe w'=>∃v',e=AT v'/\Own base w' v' (ms.take i++m::ms.drop i)/\w.grownBy w' v.ownBlock:=by
 have hlen:(ms.take i++m::ms.drop i).length=ms.length+1:=by simp;omega
 have Hq:fl (ms.take i++m::ms.drop i)=(fl ms).take (i*6)++m.cs++(fl ms).drop (i*6):=by rw[cK,bb,fk,fm,Io]
 by_cases mI:i=ms.length
 .subst mI
  refine(gk base ms.length vb v (fl ms) m.cs w hown hn hbase hv rfl (dh m)).mono ?_;rintro e w' ⟨v',rfl,h1,h2⟩;refine⟨v',rfl,?_,h2⟩;have e1:ms.take ms.length++m::ms.drop ms.length=ms++[m]:=by simp
  have e2:fl (ms++[m])=fl ms++m.cs:=by rw[cK,bb];simp[fl]
  rw[e1];show w'.ownsRow base 116 6 v' (ms++[m]).length (fl (ms++[m]));rw[e2,show(ms++[m]).length=ms.length+1 by simp];exact h1
 .rcases hown.2 with⟨_,h0⟩|⟨g,c,cur,rfl,eD,hg,fP,dR,cf,bj⟩
  .omega
  .have qf:vb≠g:=λe=>aQ (by simp[Value.ownBlock,e])
   have l9:∀v∈cur.toList.take (ms.length*6),v.oneCell'=true:=by rw[bj];exact gV ms
   have MZ:cur.toList.take (i*6)=(fl ms).take (i*6):=by rw[<- bj,List.take_take];congr 1;omega
   have key:∀l:List Value,l=cur.toList.take (i*6)++m.cs++(cur.toList.take (ms.length*6)).drop (i*6)->l=fl (ms.take i++m::ms.drop i):=λl hl=>by rw[hl,Hq,bj,MZ]
   by_cases dz:ms.length+1<=c
   .refine(fA g ms.length c i vb cur m.cs w hg cf (by omega) dz (by unfold Il at dR;omega) qf hv rfl l9 (dh m)).mono ?_
    rintro e w' ⟨rfl,dV,h1,h2,h3,h4⟩;refine⟨_,rfl,?_,h4⟩;rw[<- hlen];exact iC eD h1 h2 (by omega) dR (key _ (by rw[hlen];exact h3))
   .refine(fB g ms.length c i vb cur m.cs w hg cf (by omega) fP (by omega) hn hv rfl l9 (dh m)).mono ?_
    rintro e w' ⟨G,rfl,zG,xG,dV,h1,h2,h3,h4⟩;refine⟨_,rfl,?_,nE h4 _⟩;rw[<- hlen];exact iC hbase h1 h2 (by omega) xG (key _ (by rw[hlen];exact h3))
end Wh
namespace Wh
open Go.RowKit
def ord(a b:bK):Int:=bR a.node b.node
theorem keyed:RL.Keyed ord:=RL.jN bK.node
def bT(_ _:bK):Bool:=true
abbrev bp(ms:List bK):Prop:=RL.bp ord ms
abbrev aO(ms:List bK)(m:bK):List bK:=RL.fS ord bT ms m
abbrev av(a b:List bK):List bK:=RL.join ord bT a b
abbrev At(ms:List bK)(t:bK)(p:Nat)(f:Bool):Prop:=RL.At ord dm ms t p f
abbrev aM(ms:List bK):Bool:=RL.aM ord ms
theorem dU{ms:List bK}(h:bp ms)(t:bK):∀i j,i<=j->j<ms.length->ord (ms.getD j dm) t<0->ord (ms.getD i dm) t<0:=RL.dU ord dm keyed h t
theorem fD(ms:List bK)(h:∀j,j+1<ms.length->ord (ms.getD j dm) (ms.getD (j+1) dm)<0):aM ms=true:=RL.gF ord dm ms h
theorem fE(ms:List bK)(h:aM ms=true):∀j,j+1<ms.length->ord (ms.getD j dm) (ms.getD (j+1) dm)<0:=RL.iB ord dm ms h
theorem jS(ms:List bK)(hr:bp ms)(t:bK):∃p f,At ms t p f:=RL.jS ord dm keyed ms hr t
theorem eN{ms:List bK}{t:bK}{p q:Nat}{f e:Bool}(h:At ms t p f)(k:At ms t q e):p=q/\f=e:=RL.eN ord dm h k
theorem df(ms:List bK)(m:bK)(p:Nat)(f:Bool)(h:At ms m p f) :
 aO ms m=if f=true then(if bT m (ms.getD p dm)=true then ms.set p m else ms) else ms.take p++m::ms.drop p:=RL.pI ord bT dm ms m p f h
theorem dn(ms:List bK)(m x:bK)(h:x∈aO ms m):x=m\/x∈ms:=RL.pJ ord bT ms m x h
theorem gq(ms:List bK)(m:bK)(h:bp ms):bp (aO ms m):=RL.nF ord bT keyed ms m h
theorem lu(ms:List bK)(m:bK):ms.length<=(aO ms m).length/\(aO ms m).length<=ms.length+1:=RL.sY ord bT ms m
theorem dF(b a:List bK)(h:bp a):bp (av a b):=RL.kY ord bT keyed b a h
theorem dj(b a:List bK):(av a b).length<=a.length+b.length:=RL.pK ord bT b a
theorem dW(b a:List bK)(x:bK)(h:x∈av a b):x∈a\/x∈b:=RL.pL ord bT b a x h
theorem gl(a b:List bK)(j:Nat)(hj:j<b.length):av a (b.take (j+1))=aO (av a (b.take j)) (b.getD j dm):=RL.qS ord bT dm a b j hj
theorem iJ(b:List bK)(h:bp b):av [] b=b:=RL.join_nil ord bT b h
theorem qo{ms:List bK}{m:bK}(h:∀m∈ms,m.ok)(hm:m.ok):∀x∈aO ms m,x.ok:=by
 intro x hx;rcases dn ms m x hx with rfl|hx
 .exact hm
 .exact h x hx
theorem iU(b a:List bK)(ha:∀m∈a,m.ok)(hb:∀m∈b,m.ok):∀x∈av a b,x.ok:=by
 intro x hx;rcases dW b a x hx with h|h
 .exact ha x h
 .exact hb x h
def bK.e(m:bK):Int:=if bc m.node=true then ed ⟨m.x,m.y,m.z,m.h,m.s⟩ else 1
def aU:List bK->Int
 |[]=>0
 |m::r=>if m.e=0 then aU r else m.e
theorem cG:∀(ms:List bK),(∀j,j<ms.length->(ms.getD j dm).e=0)->aU ms=0
 |[],_=>rfl
 |m::r,h=>by
  have h0:=h 0 (by simp);simp only[I4] at h0;rw[aU,if_pos h0];exact cG r λj hj=>by have:=h (j+1) (by simpa using hj);simpa using this
theorem dX:∀(ms:List bK) (k:Nat),k<ms.length->(∀j,j<k->(ms.getD j dm).e=0)->(ms.getD k dm).e≠0->aU ms=(ms.getD k dm).e
 |[],k,h,_,_=>by simp at h
 |m::r,0,_,_,aQ=>by
  simp only[I4] at aQ ⊢;rw[aU,if_neg aQ]
 |m::r,k+1,h,hz,aQ=>by
  have h0:=hz 0 (by omega);simp only[I4] at h0;rw[aU,if_pos h0,JB];rw[JB] at aQ;exact dX r k (by simpa using h) (λj hj=>by have:=hz (j+1) (by omega);simpa using this) aQ
theorem bf:∀(ms:List bK),aU ms=0->∀m∈ms,m.e=0
 |[],_,m,hm=>by simp at hm
 |x::r,h,m,hm=>by
  rw[aU] at h;split at h
  .rename_i hx
   rcases IQ.1 hm with rfl|hm
   .exact hx
   .exact bf r h m hm
  .rename_i hx;exact absurd h hx
theorem fF:∀(ms:List bK),(∀m∈ms,m.e=0)->aU ms=0
 |[],_=>rfl
 |x::r,h=>by rw[aU,if_pos (h x (by simp))];exact fF r λm hm=>h m (by simp[hm])
def bl(ms:List bK):Int:=if 20<ms.length then 2 else if aU ms=0 then(if aM ms=true then 0 else 4) else aU ms
theorem tI(ms:List bK)(k:Nat)(hn:ms.length<=20)(hk:k<ms.length)(hz:∀j,j<k->(ms.getD j dm).e=0)(aQ:(ms.getD k dm).e≠0):bl ms=(ms.getD k dm).e:=by
 have h:=dX ms k hk hz aQ;rw[bl,if_neg (by omega),h,if_neg aQ]
theorem rM(ms:List bK)(hn:ms.length<=20)(hz:∀j,j<ms.length->(ms.getD j dm).e=0):bl ms=if aM ms=true then 0 else 4:=by
 rw[bl,if_neg (by omega),cG ms hz,if_pos rfl]
theorem af{ms:List bK}(h:bl ms=0):ms.length<=20/\bp ms/\aU ms=0:=by
 unfold bl at h;split at h
 .omega
 .split at h
  .rename_i h1 h2
   split at h
   .rename_i h3
    exact⟨by omega,RL.lI ord keyed ms h3,h2⟩
   .omega
  .rename_i h1 h2;exact absurd h h2
theorem ki{ms:List bK}(h1:ms.length<=20)(h2:bp ms)(h3:∀m∈ms,m.e=0):bl ms=0:=by
 rw[bl,if_neg (by omega),fF ms h3,if_pos rfl,if_pos (RL.jR ord ms h2)]
def dG(a b:List bK)(k:Nat):List bK:=if k=0 then[] else if k=1 then a else av a b
end Wh
namespace Gw
open Go.RowKit
def ord(a b:bL):Int:=bR a.aD b.aD
theorem keyed:RL.Keyed ord:=RL.jN bL.aD
def xH:bL->bL->Int:=RL.lex (λa b=>a.version-b.version) (λa b=>a.addr-b.addr)
theorem BJ:RL.Keyed xH:=RL.gJ (RL.iH bL.version) (RL.iH bL.addr)
def bT(a b:bL):Bool:=decide (0<xH a b)
theorem iI:RL.qR ord bT:=RL.wu BJ λa b h1 h2=>by
 obtain⟨h3,h4⟩:=RL.fy h2;have e1:a.aD=b.aD:=(bQ _ _).1 h1;have e2:a.version=b.version:=by omega
 have e3:a.addr=b.addr:=by omega
 obtain⟨a_centre,a_addr,a_version⟩:=a;obtain⟨b_centre,b_addr,b_version⟩:=b;simp only at e1 e2 e3;subst e1 e2 e3;rfl
abbrev bp(ms:List bL):Prop:=RL.bp ord ms
abbrev aO(ms:List bL)(m:bL):List bL:=RL.fS ord bT ms m
abbrev av(a b:List bL):List bL:=RL.join ord bT a b
abbrev At(ms:List bL)(t:bL)(p:Nat)(f:Bool):Prop:=RL.At ord dm ms t p f
abbrev aM(ms:List bL):Bool:=RL.aM ord ms
theorem dU{ms:List bL}(h:bp ms)(t:bL):∀i j,i<=j->j<ms.length->ord (ms.getD j dm) t<0->ord (ms.getD i dm) t<0:=RL.dU ord dm keyed h t
theorem fD(ms:List bL)(h:∀j,j+1<ms.length->ord (ms.getD j dm) (ms.getD (j+1) dm)<0):aM ms=true:=RL.gF ord dm ms h
theorem fE(ms:List bL)(h:aM ms=true):∀j,j+1<ms.length->ord (ms.getD j dm) (ms.getD (j+1) dm)<0:=RL.iB ord dm ms h
theorem jS(ms:List bL)(hr:bp ms)(t:bL):∃p f,At ms t p f:=RL.jS ord dm keyed ms hr t
theorem eN{ms:List bL}{t:bL}{p q:Nat}{f e:Bool}(h:At ms t p f)(k:At ms t q e):p=q/\f=e:=RL.eN ord dm h k
theorem df(ms:List bL)(m:bL)(p:Nat)(f:Bool)(h:At ms m p f) :
 aO ms m=if f=true then(if bT m (ms.getD p dm)=true then ms.set p m else ms) else ms.take p++m::ms.drop p:=RL.pI ord bT dm ms m p f h
theorem dF(b a:List bL)(h:bp a):bp (av a b):=RL.kY ord bT keyed b a h
theorem dj(b a:List bL):(av a b).length<=a.length+b.length:=RL.pK ord bT b a
theorem dW(b a:List bL)(x:bL)(h:x∈av a b):x∈a\/x∈b:=RL.pL ord bT b a x h
theorem gl(a b:List bL)(j:Nat)(hj:j<b.length):av a (b.take (j+1))=aO (av a (b.take j)) (b.getD j dm):=RL.qS ord bT dm a b j hj
theorem iJ(b:List bL)(h:bp b):av [] b=b:=RL.join_nil ord bT b h
theorem iU(b a:List bL)(ha:∀m∈a,m.ok)(hb:∀m∈b,m.ok):∀x∈av a b,x.ok:=by
 intro x hx;rcases dW b a x hx with h|h
 .exact ha x h
 .exact hb x h
def bL.e(m:bL):Int:=if bc m.aD=true then(if within m.addr 0 4294967295=true then(if within m.version 1 1000000=true then 0 else 3) else 3) else 1
def aU:List bL->Int
 |[]=>0
 |m::r=>if m.e=0 then aU r else m.e
theorem cG:∀(ms:List bL),(∀j,j<ms.length->(ms.getD j dm).e=0)->aU ms=0
 |[],_=>rfl
 |m::r,h=>by
  have h0:=h 0 (by simp);simp only[I4] at h0;rw[aU,if_pos h0];exact cG r λj hj=>by have:=h (j+1) (by simpa using hj);simpa using this
theorem dX:∀(ms:List bL) (k:Nat),k<ms.length->(∀j,j<k->(ms.getD j dm).e=0)->(ms.getD k dm).e≠0->aU ms=(ms.getD k dm).e
 |[],k,h,_,_=>by simp at h
 |m::r,0,_,_,aQ=>by
  simp only[I4] at aQ ⊢;rw[aU,if_neg aQ]
 |m::r,k+1,h,hz,aQ=>by
  have h0:=hz 0 (by omega);simp only[I4] at h0;rw[aU,if_pos h0,JB];rw[JB] at aQ;exact dX r k (by simpa using h) (λj hj=>by have:=hz (j+1) (by omega);simpa using this) aQ
theorem bf:∀(ms:List bL),aU ms=0->∀m∈ms,m.e=0
 |[],_,m,hm=>by simp at hm
 |x::r,h,m,hm=>by
  rw[aU] at h;split at h
  .rename_i hx
   rcases IQ.1 hm with rfl|hm
   .exact hx
   .exact bf r h m hm
  .rename_i hx;exact absurd h hx
theorem fF:∀(ms:List bL),(∀m∈ms,m.e=0)->aU ms=0
 |[],_=>rfl
 |x::r,h=>by rw[aU,if_pos (h x (by simp))];exact fF r λm hm=>h m (by simp[hm])
def bl(ms:List bL):Int:=if 6<ms.length then 2 else if aU ms=0 then(if aM ms=true then 0 else 4) else aU ms
theorem tI(ms:List bL)(k:Nat)(hn:ms.length<=6)(hk:k<ms.length)(hz:∀j,j<k->(ms.getD j dm).e=0)(aQ:(ms.getD k dm).e≠0):bl ms=(ms.getD k dm).e:=by
 have h:=dX ms k hk hz aQ;rw[bl,if_neg (by omega),h,if_neg aQ]
theorem rM(ms:List bL)(hn:ms.length<=6)(hz:∀j,j<ms.length->(ms.getD j dm).e=0):bl ms=if aM ms=true then 0 else 4:=by
 rw[bl,if_neg (by omega),cG ms hz,if_pos rfl]
theorem af{ms:List bL}(h:bl ms=0):ms.length<=6/\bp ms/\aU ms=0:=by
 unfold bl at h;split at h
 .omega
 .split at h
  .rename_i h1 h2
   split at h
   .rename_i h3
    exact⟨by omega,RL.lI ord keyed ms h3,h2⟩
   .omega
  .rename_i h1 h2;exact absurd h h2
theorem ki{ms:List bL}(h1:ms.length<=6)(h2:bp ms)(h3:∀m∈ms,m.e=0):bl ms=0:=by
 rw[bl,if_neg (by omega),fF ms h3,if_pos rfl,if_pos (RL.jR ord ms h2)]
def aP(a b:List bL):Int:=if bl a=0 then bl b else bl a
def dG(a b:List bL)(k:Nat):List bL:=if k=0 then[] else if k=1 then a else av a b
def aE(a b:List bL):Int:=if aP a b=0 then(if 6<(av a b).length then 2 else 0) else aP a b
end Gw
end Go.Proofs.YtfidhgjmifendaaGreatDoor
namespace Go.Proofs.YtfidhgjmifendaaGreatDoor
open Go.RowKit
def mL(ms:List Mem):Prop:=∀i j,i<j->j<ms.length->(ms.getD i dm).name≠(ms.getD j dm).name
def apB(ms:List Mem):Bool:=(Jx ms.length).all λj=>(Jx j).all λi=>decide ((ms.getD i dm).name≠(ms.getD j dm).name)
theorem yI(ms:List Mem):apB ms=true↔mL ms:=by
 simp only[apB,List.all_eq_true,List.mem_range,decide_eq_true_eq];exact⟨λh i j iS hj=>h j hj i iS,λh j hj i iS=>h i j iS hj⟩
def lO(ms:List Mem):Int:=if 5<ms.length then 2 else if aU ms=0 then(if apB ms=true then 0 else 6) else aU ms
theorem D8{ms:List Mem}(h:5<ms.length):lO ms=2:=if_pos h
theorem RO{ms:List Mem}{k:Nat}(hn:ms.length<=5)(hk:k<ms.length)(hz:∀j,j<k->(ms.getD j dm).e=0)(aQ:(ms.getD k dm).e≠0):lO ms=(ms.getD k dm).e:=by
 have h:=dX ms k hk hz aQ;rw[lO,if_neg (by omega),h,if_neg aQ]
theorem Be{ms:List Mem}(hn:ms.length<=5)(hz:∀j,j<ms.length->(ms.getD j dm).e=0)(hd:¬ mL ms):lO ms=6:=by
 rw[lO,if_neg (by omega),if_pos (cG ms hz),if_neg (λh=>hd ((yI ms).1 h))]
theorem CW{ms:List Mem}(hn:ms.length<=5)(hz:∀j,j<ms.length->(ms.getD j dm).e=0)(hd:mL ms):lO ms=0:=by
 rw[lO,if_neg (by omega),if_pos (cG ms hz),if_pos ((yI ms).2 hd)]
theorem vU{ms:List Mem}(h:lO ms=0):ms.length<=5/\aU ms=0/\mL ms:=by
 unfold lO at h;split at h
 .cases h
 .split at h
  .rename_i h1 h2
   split at h
   .rename_i h3;exact⟨by omega,h2,(yI ms).1 h3⟩
   .cases h
  .rename_i h1 h2;exact absurd h h2
structure Pk where
 cV:ByteArray
 whole:Bool
 ms:List Mem
 sv:List Sv.aY
 gw:List Gw.bL
 wh:List Wh.bK
def Pk.alone(p:Pk):Bool:=p.sv.isEmpty&&(p.gw.isEmpty&&p.wh.isEmpty)
def Pk.mE(p:Pk):Int:=if p.whole=true then bl p.ms else lO p.ms
def Pk.e(p:Pk):Int:=
 if(bc p.cV&&(p.whole||p.alone))=true then
  (if p.mE=0 then(if Sv.bl p.sv=0 then(if Gw.bl p.gw=0 then Wh.bl p.wh else Gw.bl p.gw) else Sv.bl p.sv) else p.mE)
 else 1
structure Nd where
 name:ByteArray
 aD:ByteArray
 ms:List Mem
 rs:List bE
 sv:List Sv.aY
 gw:List Gw.bL
 p:Pl
 wh:List Wh.bK
def fh(ms:List Mem)(r:bE):Bool:=match cv ms r.m.name with
 |none=>true
 |some k=>eb r.m k
def Nd.wE(n:Nd):Int:=match cv n.ms n.name with
 |none=>5
 |some m=>if m.state=2\/m.state=3 then 4 else if n.rs.any (fh n.ms)=true then 4 else 0
def Nd.pE(n:Nd):Int:=
 if(bc n.name&&bc n.aD)=true then
  (if bl n.ms=0 then(if dZ n.rs=0 then(if Sv.bl n.sv=0 then(if Gw.bl n.gw=0 then(if ed n.p=0 then Wh.bl n.wh else ed n.p) else Gw.bl n.gw) else Sv.bl n.sv) else dZ n.rs) else bl n.ms)
 else 1
def Nd.e(n:Nd):Int:=if n.pE=0 then n.wE else n.pE
structure Nd.ot(n:Nd):Prop where
 name:bc n.name=true
 aD:bc n.aD=true
 ms:bl n.ms=0
 rs:dZ n.rs=0
 sv:Sv.bl n.sv=0
 gw:Gw.bl n.gw=0
 p:ed n.p=0
 wh:Wh.bl n.wh=0
theorem Nd.parts{n:Nd}(h:n.pE=0):n.ot:=by
 unfold Nd.pE at h;split at h
 .rename_i h0
  rw[Bool.and_eq_true] at h0;split at h
  .rename_i h1
   split at h
   .rename_i h2
    split at h
    .rename_i h3
     split at h
     .rename_i h4
      split at h
      .rename_i h5;exact⟨h0.1,h0.2,h1,h2,h3,h4,h5,h⟩
      .rename_i h5;exact absurd h h5
     .rename_i h4;exact absurd h h4
    .rename_i h3;exact absurd h h3
   .rename_i h2;exact absurd h h2
  .rename_i h1;exact absurd h h1
 .cases h
theorem Nd.aN{n:Nd}(h:n.e=0):n.pE=0/\n.wE=0:=by
 unfold Nd.e at h;split at h
 .rename_i h1;exact⟨h1,h⟩
 .rename_i h1;exact absurd h h1
theorem Nd.iW{n:Nd}(h:n.wE=0):∃m,cv n.ms n.name=AI m/\m.state≠2/\m.state≠3/\∀r∈n.rs,fh n.ms r=false:=by
 unfold Nd.wE at h;split at h
 .cases h
 .rename_i m hm
  split at h
  .cases h
  .rename_i h1
   split at h
   .cases h
   .rename_i h2
    refine⟨m,hm,λe=>h1 (.inl e),λe=>h1 (.inr e),λr hr=>?_⟩;rcases h3:fh n.ms r with _|_
    .rfl
    .exact absurd (Qg.2 ⟨r,hr,h3⟩) h2
theorem Nd.Dz{n:Nd}{m:Mem}(h1:cv n.ms n.name=AI m)(h2:m.state≠2)(h3:m.state≠3)(h4:∀r∈n.rs,fh n.ms r=false):n.wE=0:=by
 unfold Nd.wE;rw[h1];simp only;rw[if_neg (by rintro(h|h)<;>contradiction),if_neg];rw[Qg];rintro⟨r,hr,h⟩;rw[h4 r hr] at h;cases h
theorem Nd.SJ{n:Nd}(h1:n.pE=0)(h2:n.wE=0):n.e=0:=by unfold Nd.e;rw[if_pos h1,h2]
end Go.Proofs.YtfidhgjmifendaaGreatDoor
namespace Go.Proofs.YtfidhgjmifendaaGreatDoor
namespace Wh
open Go.RowKit
theorem dt(a b:bK)(w:World) :
 aI 112 #[Ij #[Y a.node,U O a.x,U O a.y,U O a.z,U O a.h,U O a.s],Ij #[Y b.node,U O b.x,U O b.y,U O b.z,U O b.h,U O b.s]] w λe w'=>e=AT (U O (ord a b))/\Below w.heap.size w w':=by
 go_enter Tryz.func112,Tryz.ntmps112;go_wp2_with (go_at_call 49;refine(gE _ _ _).mono ?_;rintro e w' ⟨rfl,rfl⟩);go_ret;exact⟨rfl,((Ib _ _).alloc (Ic _) _).alloc (by simp) _⟩
theorem gu(a b:bK)(w:World) :
 aI 237 #[Ij #[Y a.node,U O a.x,U O a.y,U O a.z,U O a.h,U O a.s],Ij #[Y b.node,U O b.x,U O b.y,U O b.z,U O b.h,U O b.s]] w λe w'=>e=AT (Ia (bT a b))/\Below w.heap.size w w':=by
 go_enter Tryz.func237,Tryz.ntmps237;go_wp2;go_ret;exact⟨rfl,by first|exact Ib _ _|exact((Ib _ _).alloc (Ic _) _).alloc (by simp) _⟩
end Wh
namespace Wh
open Go.RowKit
theorem jQ(ms:List bK)(b off cap:Nat)(w:World)(hr:Row w b off ms)(hb:b<w.heap.size)(hn:ms.length<=20) :
 Calls AS 164 #[J (AI ⟨b,off,be⟩) ms.length cap,IT (.func 112) #[] #[]] w λe w'=>e=AT (Ia (aM ms))/\Below w.heap.size w w':=by
 have HR:Hid (Row w b off ms):=hr;clear hr;have H4:Hid (∀k,k+1<ms.length->0<=ord (ms.getD k dm) (ms.getD (k+1) dm)->aM ms=false):=λk hk hl=>by
  rcases h:aM ms with _|_
  .rfl
  .have:=fE ms h k hk;omega
 have H0:Hid ((∀j,j+1<ms.length->ord (ms.getD j dm) (ms.getD (j+1) dm)<0)->aM ms=true):=fD ms;generalize hN:ms.length=n at *;have HN:Hid (ms.length=n):=hN;clear hN;generalize hC:aM ms=res at *;have HC:Hid (aM ms=res):=hC;clear hC;go_enter Tryz.func164,Tryz.ntmps164;go_wp2_with fail;go_loopw [5] (λi w'=>∃k:Nat,(k+1<=n\/k=0)/\i=U O (k+1)/\Below w.heap.size w w'/\Hid (∀j,j<k->ord (ms.getD j dm) (ms.getD (j+1) dm)<0)) (λi _=>n-(intOf i).toNat)
 case atStart=>exact⟨0,.inr rfl,rfl,Ib _ _,λj h=>absurd h (Jv _)⟩
 case round=>
  obtain⟨q,hq,rfl,aR,hz⟩:=hrel;obtain⟨eM,nQ⟩:=cC aR;have cI:=aR.size;by_cases aX:q+1<n
  .have F:=((HR.out q (by rw[HN.out];omega)).eq (λo=>eM b o hb)).re
   have G:=((HR.out (q+1) (by rw[HN.out];exact aX)).eq (λo=>eM b o hb)).re;have HK:Hid (0<=ord (ms.getD q dm) (ms.getD (q+1) dm)->res=false):=λh=>H4.out q aX h;have HZ:Hid (ord (ms.getD q dm) (ms.getD (q+1) dm)<0->∀j,j<q+1->ord (ms.getD j dm) (ms.getD (j+1) dm)<0):=λh j hj=>by
    rcases Nat.lt_succ_iff_lt_or_eq.1 hj with h2|rfl
    .exact hz.out j h2
    .exact h
   generalize ms.getD q dm=m1 at *;generalize ms.getD (q+1) dm=m2 at *;have hN:∀d os,Calls AS 112 #[Ij #[Y m1.node,U O m1.x,U O m1.y,U O m1.z,U O m1.h,U O m1.s],Ij #[Y m2.node,U O m2.x,U O m2.y,U O m2.z,U O m2.h,U O m2.s]] (Im (Iz wr d) os) λe fT=>e=AT (U O (ord m1 m2))/\∃p:JT,fT=Im (Iz wr p.d) p.os:=λd os=>IZ (dt m1 m2 _);simp only[As] at F G;clear eM nQ;generalize ord m1 m2=r at *;have GQ:IntKind.i64.wrap (q:Int)=(q:Int):=by rw[IW];omega
   have EF:q<n:=by omega
   have hq1:(q:Int)+1<(n:Int):=by omega
   have hq0:(0:Int)<=(q:Int)+1:=by omega
   have Et:((q:Int)+1).toNat=q+1:=by omega
   go_wp2_with fail;refine IG (by kernel_rfl) (by kernel_rfl) ?_;repeat(quiet_step (exact hN _ _))
   refine bM λdq jL ee=>?_;clear hN F G;by_cases hl:r<0
   .have mJ:¬ (0<=r):=by omega
    go_wp2_with fail;go_roundw
    case rel=>exact⟨q+1,.inl (by omega),by go_num,aR.trans (ee.out.mono cI),HZ.out hl⟩
    case measure=>simp[intOf];omega
   .have mJ:0<=r:=by omega
    have h4:Hid (res=false):=HK.out mJ;go_wp2_with fail;go_ret;exact⟨aW h4.out.symm,aR.trans (ee.out.mono cI)⟩
  .have h0:Hid (res=true):=H0.out λj hj=>hz.out j (by omega)
   go_wp2_with fail;go_ret;exact⟨aW h0.out.symm,aR⟩
theorem gz(a:Option Addr)(cap:Nat)(fv:Value)(w:World) :
 Calls AS 164 #[J a 0 cap,fv] w λe w'=>e=AT (Ia true)/\w'=w:=by
 go_enter Tryz.func164,Tryz.ntmps164;go_wp2_with fail;go_loop [5] (λi=>i=U O 1) (λ_=>0)
 case atStart=>rfl
 case round=>
  subst hrel;go_wp2_with fail;go_ret;exact⟨rfl,rfl⟩
theorem gA(ms:List bK)(b off cap:Nat)(lk:bK)(w:World)(hr:Row w b off ms)(hb:b<w.heap.size)(hn:ms.length<=40)(ij:∀i j,i<=j->j<ms.length->ord (ms.getD j dm) lk<0->ord (ms.getD i dm) lk<0) :
 Calls AS 176 #[J (AI ⟨b,off,be⟩) ms.length cap,Ij #[Y lk.node,U O lk.x,U O lk.y,U O lk.z,U O lk.h,U O lk.s],IT (.func 112) #[] #[]] w λe w'=>∃(p:Nat) (f:Bool),e=AT (Ik #[U O p,Ia f])/\Below w.heap.size w w' /\
  p<=ms.length/\(∀j,j<p->ord (ms.getD j dm) lk<0)/\(∀j,p<=j->j<ms.length->0<=ord (ms.getD j dm) lk)/\(f=true↔p<ms.length/\ord (ms.getD p dm) lk=0):=by
 have HR:Hid (Row w b off ms):=hr;clear hr;have HM:Hid _:=ij;clear ij;generalize hN:ms.length=n at *;have HN:Hid (ms.length=n):=hN;clear hN;go_enter Tryz.func176,Tryz.ntmps176;go_wp2_with fail;obtain⟨W0,bN,bO,eK,dI⟩:=bY w #[Y lk.node,U O lk.x,U O lk.y,U O lk.z,U O lk.h,U O lk.s] 116;have ET:Hid (Row W0 b off ms):=HR.out.later bO hb;have HT:Hid (As W0 w.heap.size 0 lk):=⟨ae dI 0,ae dI 1,ae dI 2,ae dI 3,ae dI 4,ae dI 5⟩;have db:Hid (Below w.heap.size w W0):=bO;have tj:Hid (W0=w.alloc (By #[Y lk.node,U O lk.x,U O lk.y,U O lk.z,U O lk.h,U O lk.s] 116)):=bN;clear dI bO HR bN;have xb:b<w.heap.size+1:=by omega
 go_loopw [9,10] (λi j w'=>∃k l:Nat,k<=l/\l<=n/\i=U O k/\j=U O l/\Below (w.heap.size+1) W0 w'/\Hid (∀j,j<k->ord (ms.getD j dm) lk<0)/\Hid (∀j,l<=j->j<n->0<=ord (ms.getD j dm) lk)) (λi j _=>(intOf j).toNat-(intOf i).toNat)
 case atStart=>exact⟨0,n,Nat.zero_le _,Ic _,rfl,rfl,by rw[tj.out];exact Ib _ _,λj h=>absurd h (Jv _),λj h1 h2=>by omega⟩
 case round=>
  obtain⟨k,l,iT,KV,rfl,rfl,aR,yO,yP⟩:=hrel;have cI:=aR.size;have eM:∀b o,b<w.heap.size+1->wr.cell? ⟨b,o,be⟩=W0.cell? ⟨b,o,be⟩:=λb o h=>aR.cell (p:=⟨b,o,be⟩) h;have G:=(HT.out.eq (λo=>eM w.heap.size o (by omega))).re;simp only[As,IC] at G;by_cases aX:k<l
  .obtain⟨h,hh,h1,h2⟩:∃h:Nat,((k:Int)+(l:Int))/2=(h:Int)/\k<=h/\h<l:=⟨(k+l)/2,by omega,by omega,by omega⟩
   have F:=((ET.out h (by rw[HN.out];omega)).eq (λo=>eM b o xb)).re;have oP:=HM.out;have HK:Hid (ord (ms.getD h dm) lk<0->∀j,j<h+1->ord (ms.getD j dm) lk<0):=λhx j hj=>oP j h (by omega) (by omega) hx;have HL:Hid (0<=ord (ms.getD h dm) lk->∀j,h<=j->j<n->0<=ord (ms.getD j dm) lk):=λhx j hj xe=>by
    apply Int.not_lt.1;intro hq;have:=oP h j hj xe hq;omega
   clear oP;have hhn:h<n:=by omega
   generalize ms.getD h dm=m at *;have hO:∀d os,Calls AS 112 #[Ij #[Y m.node,U O m.x,U O m.y,U O m.z,U O m.h,U O m.s],Ij #[Y lk.node,U O lk.x,U O lk.y,U O lk.z,U O lk.h,U O lk.s]] (Im (Iz wr d) os) λe fT=>e=AT (U O (ord m lk))/\∃p:JT,fT=Im (Iz wr p.d) p.os:=λd os=>IZ (dt m lk _);simp only[As] at F;clear eM;generalize ord m lk=r at *;go_wp2_with fail;refine IG (by kernel_rfl) (by kernel_rfl) ?_;repeat(quiet_step (exact hO _ _))
   refine bM λdq jL ee=>?_;clear hO F G;by_cases vC:r<0
   .go_wp2_with fail
    exact⟨⟨h+1,l,by omega,by omega,by go_num,rfl,aR.trans (ee.out.mono (by omega)),HK.out vC,yP⟩,by simp[intOf];omega⟩
   .have zQ:0<=r:=by omega
    go_wp2_with fail;exact⟨⟨k,h,by omega,by omega,rfl,rfl,aR.trans (ee.out.mono (by omega)),yO,HL.out zQ⟩,by simp[intOf];omega⟩
  .have Co:l=k:=by omega
   subst Co;by_cases eV:l<n
   .have F:=((ET.out l (by rw[HN.out];omega)).eq (λo=>eM b o xb)).re
    generalize hm:ms.getD l dm=m at *;have Hm:Hid (ms.getD l dm=m):=hm;clear hm;have hO:∀d os,Calls AS 112 #[Ij #[Y m.node,U O m.x,U O m.y,U O m.z,U O m.h,U O m.s],Ij #[Y lk.node,U O lk.x,U O lk.y,U O lk.z,U O lk.h,U O lk.s]] (Im (Iz wr d) os) λe fT=>e=AT (U O (ord m lk))/\∃p:JT,fT=Im (Iz wr p.d) p.os:=λd os=>IZ (dt m lk _);simp only[As] at F;clear eM;generalize Fq:ord m lk=r at *;have Hr:Hid (ord m lk=r):=Fq;clear Fq;go_wp2_with fail;refine IG (by kernel_rfl) (by kernel_rfl) ?_;repeat(quiet_step (exact hO _ _))
    refine bM λdq jL ee=>?_;clear hO F G;go_wp2_with fail;go_ret2;refine⟨l,_,rfl,db.out.trans ((aR.trans (ee.out.mono (by omega))).mono (by omega)),by omega,yO.out,yP.out,?_⟩;rw[Hm.out,Hr.out];simp[eV]
   .clear G
    have hkd:decide ((l:Int)<(n:Int))=false:=by simp;omega
    go_wp2_with fail;go_quiet (fail)
    go_wp2_with fail;go_ret2;refine⟨l,_,rfl,db.out.trans ((below_drewN aR _).mono (by omega)),by omega,yO.out,yP.out,?_⟩;simp[eV]
theorem fH(a:Option Addr)(cap:Nat)(lk:bK)(fv:Value)(w:World) :
 Calls AS 176 #[J a 0 cap,Ij #[Y lk.node,U O lk.x,U O lk.y,U O lk.z,U O lk.h,U O lk.s],fv] w λe w'=>e=AT (Ik #[U O 0,Ia false])/\Below w.heap.size w w':=by
 go_enter Tryz.func176,Tryz.ntmps176;go_wp2_with fail;go_loop [9,10] (λi j=>i=U O 0/\j=U O 0) (λ_ _=>0)
 case atStart=>exact⟨rfl,rfl⟩
 case round=>
  obtain⟨rfl,rfl⟩:=hrel;go_wp2_with fail;go_quiet (fail)
  go_wp2_with fail;go_ret2;exact⟨rfl,below_drewN ((Ib _ _).alloc (Ic _) _) _⟩
theorem fI(ms:List bK)(v:Value)(lk:bK)(w:World)(h:Sl w v ms)(hn:ms.length<=40)(ij:∀i j,i<=j->j<ms.length->ord (ms.getD j dm) lk<0->ord (ms.getD i dm) lk<0) :
 Calls AS 176 #[v,Ij #[Y lk.node,U O lk.x,U O lk.y,U O lk.z,U O lk.h,U O lk.s],IT (.func 112) #[] #[]] w λe w'=>∃(p:Nat) (f:Bool),e=AT (Ik #[U O p,Ia f])/\Below w.heap.size w w'/\At ms lk p f:=by
 obtain⟨a,cap,rfl,hs,h⟩:=h;rcases h with rfl|⟨b,off,rfl,hb,hr⟩
 .refine(fH a cap lk _ w).mono ?_
  rintro e w' ⟨rfl,hb⟩;exact⟨0,false,rfl,hb,⟨by simp,λj h=>by omega,λj h h2=>by simp at h2,by simp⟩⟩
 .refine(gA ms b off cap lk w hr hb hn ij).mono ?_
  rintro e w' ⟨p,f,rfl,aR,g1,g2,g3,g4⟩;exact⟨p,f,rfl,aR,⟨g1,g2,g3,g4⟩⟩
theorem fu(ms:List bK)(v:Value)(lk:bK)(w:World)(h:Sl w v ms)(hn:ms.length<=40)(hr:bp ms) :
 Calls AS 111 #[v,Ij #[Y lk.node,U O lk.x,U O lk.y,U O lk.z,U O lk.h,U O lk.s],IT (.func 112) #[] #[]] w λe w'=>∃(p:Nat) (f:Bool),e=AT (Ik #[U O p,Ia f])/\Below w.heap.size w w'/\At ms lk p f:=by
 have HC:Hid (∀w',Below w.heap.size w w'->Calls AS 176 #[v,Ij #[Y lk.node,U O lk.x,U O lk.y,U O lk.z,U O lk.h,U O lk.s],IT (.func 112) #[] #[]] w' λe fT=>∃(p:Nat) (f:Bool),e=AT (Ik #[U O p,Ia f])/\Below w'.heap.size w' fT/\At ms lk p f):=
  λw' hb=>fI ms v lk w' (h.below hb) hn (dU hr lk)
 clear h hn hr;go_enter Tryz.func111,Tryz.ntmps111;go_wp2_with (go_at_call 176;refine(HC.out _ ?hb).mono ?_)
 case hb=>exact(Ib _ _).alloc (Ic _) _
 rintro e w' ⟨p,f,rfl,aR,cH⟩;have gj:Hid (At ms lk p f):=cH;clear cH;go_wp2_with fail;go_ret2;exact⟨p,f,rfl,((Ib _ _).alloc (Ic _) _).trans (aR.mono (by simp)),gj.out⟩
end Wh
end Go.Proofs.YtfidhgjmifendaaGreatDoor
