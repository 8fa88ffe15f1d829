import Derived.Test.YtfidhgjmifendaaGreatDoornt2
import Derived.Lib.AppendIntMem
set_option maxHeartbeats 6400000
set_option maxRecDepth 100000
open List renaming getD_cons_zero→I2,getD_cons_succ→JA,mem_cons→IT,length_append→Ig,length_cons→Iy,set_cons_succ→Ot,getElem?_take_of_lt→IL,getD→Ip,getElem?_eq_getElem→If,getElem_mem→IH,length_take→IA,size_toArray→JV,append_assoc→Im,pairwise_cons→JE,rel_of_pairwise_cons→JG,foldl_cons→OD,take_succ_eq_append_getElem→IF,not_mem_nil→Jw,length_nil→IW,length→Jt
open Go.Value renaming string→Y,int→U,bool→Ia,slice→J,agg→Ij,pointer→Ie,tuple→Ik
open Go.IntKind renaming i64→O,wrap_i64→IY
open Option renaming none→be,some→AI
open Go renaming cell_regrown→Is,maxLen→Il,info_parts→I6,bodyPost→JT,heap_alloc_new→Ih
open Go.Obj renaming cells→AT
open Array renaming getElem?_eq_some_iff→BY,length_toList→IV
open Go.World.ownsRow renaming lt→OL,stored→IG
open Nat renaming le_trans→Iq,le_refl→Ic
open Go.Proofs.Tryz renaming prog→AS,underlying34→JP,underlying3→ID
open Go.Ending renaming returned→By
open Go.Act renaming eval→M2,put→Oo
open Bool renaming true_and→QU,and_eq_true→IM
open Go.RowKit.Below renaming refl→Ib
open Go.Lib renaming itoa→Qu,strCells→Oi,strCells_length→QT
namespace Go.Proofs.YtfidhgjmifendaaGreatDoor
open Go.RowKit
theorem Et(a:ByteArray):bO a a=0:=(bT a a).2 rfl
theorem Eu(a b:ByteArray):0<bO a b↔bO b a<0:=by rw[nf,fB]
theorem BB(a b c:ByteArray)(h1:bO a b<0)(h2:bO b c<0):bO a c<0:=by
 rw[fB] at *;exact fU h1 h2
namespace RL
section
variable {α:Type}
theorem jD(f:α->ByteArray):Keyed λa b=>bO (f a) (f b) where
 refl a:=Et _
 gt a b:=Eu _ _
 trans a b c h1 h2:=BB _ _ _ h1 h2
 left a b c h:=by rw[(bT _ _).1 h]
 right a b c h:=by rw[(bT _ _).1 h]
theorem iz(f:α->Int):Keyed λa b=>f a-f b where
 refl a:=by omega
 gt a b:=by constructor<;>intro h<;>omega
 trans a b c h1 h2:=by omega
 left a b c h:=by omega
 right a b c h:=by omega
def bI(b:Bool):Int:=if b=true then 1 else 0
theorem BC{a b:Bool}(h:bI a-bI b=0):a=b:=by cases a<;>cases b<;>simp[bI] at h ⊢
def lex(o p:α->α->Int)(a b:α):Int:=if o a b=0 then p a b else o a b
theorem gA{o p:α->α->Int}(h:Keyed o)(k:Keyed p):Keyed (lex o p) where
 refl a:=by rw[lex,if_pos (h.refl a),k.refl a]
 gt a b:=by
  unfold lex;by_cases e:o a b=0
  .rw[if_pos e,if_pos (h.symm e)];exact k.gt a b
  .rw[if_neg e,if_neg (λe2=>e (h.symm e2))];exact h.gt a b
 trans a b c h1 h2:=by
  unfold lex at *;by_cases e:o a b=0
  .rw[if_pos e] at h1
   by_cases e2:o b c=0
   .rw[if_pos e2] at h2
    rw[if_pos (h.CA e e2)];exact k.trans _ _ _ h1 h2
   .rw[if_neg e2] at h2
    rw[if_neg (λe3=>e2 (h.CA (h.symm e) e3)),h.left a b c e];exact h2
  .rw[if_neg e] at h1
   by_cases e2:o b c=0
   .rw[if_neg (λe3=>e (h.CA e3 (h.symm e2))),<- h.right b c a e2];exact h1
   .rw[if_neg e2] at h2
    have h3:=h.trans _ _ _ h1 h2;rw[if_neg (by omega)];exact h3
 left a b c e:=by
  unfold lex at *;by_cases e1:o a b=0
  .rw[if_pos e1] at e
   rw[h.left a b c e1,k.left a b c e]
  .rw[if_neg e1] at e;exact absurd e e1
 right a b c e:=by
  unfold lex at *;by_cases e1:o a b=0
  .rw[if_pos e1] at e
   rw[h.right a b c e1,k.right a b c e]
  .rw[if_neg e1] at e;exact absurd e e1
theorem fo{o p:α->α->Int}{a b:α}(h:lex o p a b=0):o a b=0/\p a b=0:=by
 unfold lex at h;by_cases e:o a b=0
 .rw[if_pos e] at h;exact⟨e,h⟩
 .rw[if_neg e] at h;exact absurd h e
theorem vR{o p:α->α->Int}(k:Keyed p)(hz:∀a b,o a b=0->p a b=0->a=b):qj o λa b=>decide (0<p a b) where
 irrefl a:=by simp[k.refl a]
 trans a b c h1 h2:=by
  rw[decide_eq_true_eq] at *;rw[k.gt] at *;exact k.trans _ _ _ h2 h1
 total a b e h1 h2:=by
  rw[decide_eq_false_iff_not] at *;refine hz a b e ?_;have:=k.gt b a;omega
end
end RL
end Go.Proofs.YtfidhgjmifendaaGreatDoor
namespace Go.Proofs.YtfidhgjmifendaaGreatDoor
namespace Sv
open Go.RowKit
def ord:aT->aT->Int:=RL.lex (λa b=>bO a.node b.node) (λa b=>bO a.bu b.bu)
theorem keyed:RL.Keyed ord:=RL.gA (RL.jD aT.node) (RL.jD aT.bu)
def xy:aT->aT->Int:=RL.lex (λa b=>a.version-b.version) (RL.lex (λa b=>RL.bI a.gone-RL.bI b.gone) (RL.lex (λa b=>bO a.name b.name) (RL.lex (λa b=>bO a.tag b.tag) (RL.lex (λa b=>a.addr-b.addr) (RL.lex (λa b=>a.port-b.port) (λa b=>RL.bI a.aj-RL.bI b.aj))))))
theorem BD:RL.Keyed xy:=RL.gA (RL.iz aT.version) (RL.gA (RL.iz λa:aT=>RL.bI a.gone) (RL.gA (RL.jD aT.name) (RL.gA (RL.jD aT.tag) (RL.gA (RL.iz aT.addr) (RL.gA (RL.iz aT.port) (RL.iz λa:aT=>RL.bI a.aj))))))
def bP(a b:aT):Bool:=decide (0<xy a b)
theorem iA:RL.qj ord bP:=RL.vR BD λa b h1 h2=>by
 obtain⟨n1,n2⟩:=RL.fo h1;obtain⟨h3,h2⟩:=RL.fo h2;obtain⟨h4,h2⟩:=RL.fo h2;obtain⟨h5,h2⟩:=RL.fo h2;obtain⟨h6,h2⟩:=RL.fo h2;obtain⟨h7,h2⟩:=RL.fo h2;obtain⟨h8,h9⟩:=RL.fo h2;have e1:a.node=b.node:=(bT _ _).1 n1;have e2:a.bu=b.bu:=(bT _ _).1 n2;have e3:a.version=b.version:=by omega
 have e4:a.gone=b.gone:=RL.BC h4;have e5:a.name=b.name:=(bT _ _).1 h5;have e6:a.tag=b.tag:=(bT _ _).1 h6;have e7:a.addr=b.addr:=by omega
 have e8:a.port=b.port:=by omega
 have e9:a.aj=b.aj:=RL.BC h9;obtain⟨a_node,a_idn,a_name,a_tag,a_addr,a_port,a_passing,a_version,a_gone⟩:=a;obtain⟨b_node,b_idn,b_name,b_tag,b_addr,b_port,b_passing,b_version,b_gone⟩:=b;simp only at e1 e2 e3 e4 e5 e6 e7 e8 e9;subst e1 e2 e3 e4 e5 e6 e7 e8 e9;rfl
abbrev bn(ms:List aT):Prop:=RL.bn ord ms
abbrev aP(ms:List aT)(m:aT):List aT:=RL.fJ ord bP ms m
abbrev av(a b:List aT):List aT:=RL.join ord bP a b
abbrev At(ms:List aT)(t:aT)(p:Nat)(f:Bool):Prop:=RL.At ord dm ms t p f
abbrev aL(ms:List aT):Bool:=RL.aL ord ms
theorem dP{ms:List aT}(h:bn ms)(t:aT):∀i j,i<=j->j<ms.length->ord (ms.getD j dm) t<0->ord (ms.getD i dm) t<0:=RL.dP ord dm keyed h t
theorem fp(ms:List aT)(h:∀j,j+1<ms.length->ord (ms.getD j dm) (ms.getD (j+1) dm)<0):aL ms=true:=RL.gq ord dm ms h
theorem fq(ms:List aT)(h:aL ms=true):∀j,j+1<ms.length->ord (ms.getD j dm) (ms.getD (j+1) dm)<0:=RL.ia ord dm ms h
theorem jI(ms:List aT)(hr:bn ms)(t:aT):∃p f,At ms t p f:=RL.jI ord dm keyed ms hr t
theorem ey{ms:List aT}{t:aT}{p q:Nat}{f e:Bool}(h:At ms t p f)(k:At ms t q e):p=q/\f=e:=RL.ey ord dm h k
theorem dd(ms:List aT)(m:aT)(p:Nat)(f:Bool)(h:At ms m p f) :
 aP ms m=if f=true then(if bP m (ms.getD p dm)=true then ms.set p m else ms) else ms.take p++m::ms.drop p:=RL.oR ord bP dm ms m p f h
theorem dE(b a:List aT)(h:bn a):bn (av a b):=RL.kM ord bP keyed b a h
theorem di(b a:List aT):(av a b).length<=a.length+b.length:=RL.oT ord bP b a
theorem dS(b a:List aT)(x:aT)(h:x∈av a b):x∈a\/x∈b:=RL.oU ord bP b a x h
theorem gd(a b:List aT)(j:Nat)(hj:j<b.length):av a (b.take (j+1))=aP (av a (b.take j)) (b.getD j dm):=RL.ql ord bP dm a b j hj
theorem iq(b:List aT)(h:bn b):av [] b=b:=RL.join_nil ord bP b h
theorem iI(b a:List aT)(ha:∀m∈a,m.ok)(hb:∀m∈b,m.ok):∀x∈av a b,x.ok:=by
 intro x hx;rcases dS b a x hx with h|h
 .exact ha x h
 .exact hb x h
def lO(t:ByteArray):Bool:=decide (t=ByteArray.empty)||bb t
def aT.e(m:aT):Int:=
 if(bb m.node&&(bb m.bu&&(bb m.name&&lO m.tag)))=true then(if(within m.addr 0 4294967295&&(within m.port 0 65535&&within m.version 1 1000000))=true then 0 else 3) else 1
def aR:List aT->Int
 |[]=>0
 |m::r=>if m.e=0 then aR r else m.e
theorem cE:∀(ms:List aT),(∀j,j<ms.length->(ms.getD j dm).e=0)->aR ms=0
 |[],_=>rfl
 |m::r,h=>by
  have h0:=h 0 (by simp);simp only[I2] at h0;rw[aR,if_pos h0];exact cE r λj hj=>by have:=h (j+1) (by simpa using hj);simpa using this
theorem dU:∀(ms:List aT) (k:Nat),k<ms.length->(∀j,j<k->(ms.getD j dm).e=0)->(ms.getD k dm).e≠0->aR ms=(ms.getD k dm).e
 |[],k,h,_,_=>by simp at h
 |m::r,0,_,_,aM=>by
  simp only[I2] at aM ⊢;rw[aR,if_neg aM]
 |m::r,k+1,h,hz,aM=>by
  have h0:=hz 0 (by omega);simp only[I2] at h0;rw[aR,if_pos h0,JA];rw[JA] at aM;exact dU r k (by simpa using h) (λj hj=>by have:=hz (j+1) (by omega);simpa using this) aM
theorem bc:∀(ms:List aT),aR ms=0->∀m∈ms,m.e=0
 |[],_,m,hm=>by simp at hm
 |x::r,h,m,hm=>by
  rw[aR] at h;split at h
  .rename_i hx
   rcases IT.1 hm with rfl|hm
   .exact hx
   .exact bc r h m hm
  .rename_i hx;exact absurd h hx
theorem ft:∀(ms:List aT),(∀m∈ms,m.e=0)->aR ms=0
 |[],_=>rfl
 |x::r,h=>by rw[aR,if_pos (h x (by simp))];exact ft r λm hm=>h m (by simp[hm])
def bj(ms:List aT):Int:=if 40<ms.length then 2 else if aR ms=0 then(if aL ms=true then 0 else 4) else aR ms
theorem tD(ms:List aT)(k:Nat)(hn:ms.length<=40)(hk:k<ms.length)(hz:∀j,j<k->(ms.getD j dm).e=0)(aM:(ms.getD k dm).e≠0):bj ms=(ms.getD k dm).e:=by
 have h:=dU ms k hk hz aM;rw[bj,if_neg (by omega),h,if_neg aM]
theorem ry(ms:List aT)(hn:ms.length<=40)(hz:∀j,j<ms.length->(ms.getD j dm).e=0):bj ms=if aL ms=true then 0 else 4:=by
 rw[bj,if_neg (by omega),cE ms hz,if_pos rfl]
theorem af{ms:List aT}(h:bj ms=0):ms.length<=40/\bn ms/\aR ms=0:=by
 unfold bj at h;split at h
 .omega
 .split at h
  .rename_i h1 h2
   split at h
   .rename_i h3
    exact⟨by omega,RL.lq ord keyed ms h3,h2⟩
   .omega
  .rename_i h1 h2;exact absurd h h2
theorem jV{ms:List aT}(h1:ms.length<=40)(h2:bn ms)(h3:∀m∈ms,m.e=0):bj ms=0:=by
 rw[bj,if_neg (by omega),ft ms h3,if_pos rfl,if_pos (RL.jH ord ms h2)]
theorem xj(m:aT):bj [m]=m.e:=by
 have h1:aR [m]=m.e:=by
  rw[aR];split
  .rename_i h;rw[h];rfl
  .rfl
 rw[bj,if_neg (by simp),h1];split
 .rename_i h;rw[h];exact if_pos rfl
 .rfl
def aO(a b:List aT):Int:=if bj a=0 then bj b else bj a
def dF(a b:List aT)(k:Nat):List aT:=if k=0 then[] else if k=1 then a else av a b
def aE(a b:List aT):Int:=if aO a b=0 then(if 40<(av a b).length then 2 else 0) else aO a b
end Sv
end Go.Proofs.YtfidhgjmifendaaGreatDoor
namespace Go.Proofs.YtfidhgjmifendaaGreatDoor
open Go.RowKit
structure Mem where
 name:ByteArray
 state:Int
 aI:Int
 addr:Int
 server:Bool
def dm:Mem:=⟨ByteArray.empty,0,0,0,false⟩
abbrev As(w:World)(b o:Nat)(m:Mem):Prop:=w.cell? ⟨b,o,be⟩=AI (Y m.name)/\w.cell? ⟨b,o+1,be⟩=AI (U O m.state)/\w.cell? ⟨b,o+2,be⟩=AI (U O m.aI)/\w.cell? ⟨b,o+3,be⟩=AI (U O m.addr)/\w.cell? ⟨b,o+4,be⟩=AI (Ia m.server)
theorem As.re{w:World}{b o:Nat}{m:Mem}(h:As w b o m):∀d os,As (Go.Sort.grow (redrawn w d) os) b o m:=λd os=>by
 obtain⟨c0,c1,c2,c3,c4⟩:=h;exact⟨Is c0 d os,Is c1 d os,Is c2 d os,Is c3 d os,Is c4 d os⟩
theorem As.eq{w w':World}{b o:Nat}{m:Mem}(h:As w b o m)(e:∀o,w'.cell? ⟨b,o,be⟩=w.cell? ⟨b,o,be⟩):As w' b o m:=by
 obtain⟨c0,c1,c2,c3,c4⟩:=h;exact⟨(e _).trans c0,(e _).trans c1,(e _).trans c2,(e _).trans c3,(e _).trans c4⟩
def Row(w:World)(b off:Nat)(ms:List Mem):Prop:=∀j,j<ms.length->As w b (off+j*5) (ms.getD j dm)
def Sl(w:World)(v:Value)(ms:List Mem):Prop:=
 ∃(a:Option Addr) (cap:Nat),v=J a ms.length cap/\(∀j,(ms.getD j dm).name.size<=Il) /\
  (ms=[]\/∃b off,a=AI ⟨b,off,be⟩/\b<w.heap.size/\Row w b off ms)
def Mem.cs(m:Mem):List Value:=[Y m.name,U O m.state,U O m.aI,U O m.addr,Ia m.server]
def fl(ms:List Mem):List Value:=ms.flatMap Mem.cs
theorem bB(m:Mem):m.cs.length=5:=rfl
theorem aZ(m:Mem)(r:List Mem):fl (m::r)=m.cs++fl r:=by simp[fl]
theorem cG(a b:List Mem):fl (a++b)=fl a++fl b:=by simp[fl]
theorem cP:∀ms:List Mem,(fl ms).length=ms.length*5
 |[]=>rfl
 |m::r=>by rw[aZ,Ig,cP r,bB,Iy];omega
theorem eY:∀(ms:List Mem) (i:Nat),(fl ms).take (i*5)=fl (ms.take i)
 |[],i=>by simp[fl]
 |m::r,0=>by simp[fl]
 |m::r,i+1=>by
  rw[aZ,List.take_succ_cons,aZ,show(i+1)*5=m.cs.length+i*5 by rw[bB];omega,List.take_length_add_append,eY r i]
theorem eZ:∀(ms:List Mem) (i:Nat),(fl ms).drop (i*5)=fl (ms.drop i)
 |[],i=>by simp[fl]
 |m::r,0=>by simp
 |m::r,i+1=>by
  rw[aZ,List.drop_succ_cons,show(i+1)*5=m.cs.length+i*5 by rw[bB];omega,List.drop_length_add_append,eZ r i]
theorem df(m:Mem):∀v∈m.cs,v.oneCell'=true:=by
 intro v hv;simp[Mem.cs] at hv;rcases hv with rfl|rfl|rfl|rfl|rfl<;>rfl
theorem gJ(ms:List Mem):∀v∈fl ms,v.oneCell'=true:=by
 intro v hv;obtain⟨m,_,h⟩:=List.mem_flatMap.1 hv;exact df m v h
theorem eb(ms:List Mem)(j:Nat)(hj:j<ms.length)(t:Nat)(ht:t<5):(fl ms)[j*5+t]?=(ms.getD j dm).cs[t]?:=by
 induction ms generalizing j with
 |nil=>simp at hj
 |cons m r ih=>
  rw[aZ];cases j with
  |zero=>rw[List.getElem?_append_left (by rw[bB];omega)];simp
  |succ j=>
   rw[List.getElem?_append_right (by rw[bB];omega),bB,show(j+1)*5+t-5=j*5+t by omega,ih j (by simpa using hj)];simp
theorem nW(ms:List Mem)(p:Nat)(hp:p<ms.length)(m:Mem):((((((fl ms).set (p*5) (Y m.name)).set (p*5+1) (U O m.state)).set (p*5+2) (U O m.aI)).set (p*5+3) (U O m.addr)).set (p*5+4) (Ia m.server))=fl (ms.set p m):=by
 induction ms generalizing p with
 |nil=>simp at hp
 |cons x r ih=>
  cases p with
  |zero=>simp[fl,Mem.cs]
  |succ p=>
   have L1:=ih p (by simpa using hp);rw[Ot,aZ,aZ,<- L1];simp only[Nat.add_mul,Nat.one_mul];have e:∀(l:List Value) (k:Nat) (v:Value),(x.cs++l).set (k+5) v=x.cs++l.set k v:=λl k v=>by
    rw[List.set_append,if_neg (by rw[bB];omega),bB,Nat.add_sub_cancel]
   have c:∀i:Nat,p*5+5+i=(p*5+i)+5:=λi=>by omega
   simp only[c];rw[e,e,e,e,e]
abbrev Own(base:Nat)(w:World)(v:Value)(ms:List Mem):Prop:=w.ownsRow base 50 5 v ms.length (fl ms)
theorem ib{base g G:Nat}{w:World}{cur:Array Value}{ms:List Mem}(hb:base<=g)(hg:w.heap[g]?=AI (AT cur 50 (0,0)))(hs:cur.size=G*5)(hn:ms.length<=G)(hG:G<=Il)(ht:cur.toList.take (ms.length*5)=fl ms) :
 Own base w (J (AI ⟨g,0,be⟩) ms.length G) ms:=⟨cP ms,.inr ⟨g,G,cur,rfl,hb,hg,hn,hG,hs,ht⟩⟩
theorem Own.sl{base:Nat}{w:World}{v:Value}{ms:List Mem}(h:Own base w v ms)(hs:∀j,(ms.getD j dm).name.size<=Il):Sl w v ms:=by
 rcases h.2 with⟨rfl,h0⟩|⟨g,c,cur,rfl,ev,hg,fG,dO,b9,bf⟩
 .exact⟨be,0,by rw[h0],hs,.inl (List.eq_nil_of_length_eq_zero h0)⟩
 .refine⟨_,c,rfl,hs,.inr ⟨g,0,rfl,(BY.1 hg).1,λj hj=>?_⟩⟩
  have hc:∀t,t<5->w.cell? ⟨g,0+j*5+t,be⟩=(ms.getD j dm).cs[t]?:=λt ht=>by
   rw[ae hg,<- eb ms j hj t ht,<- bf,IL (by omega)];simp
  exact⟨hc 0 (by omega),hc 1 (by omega),hc 2 (by omega),hc 3 (by omega),hc 4 (by omega)⟩
theorem Own.below{base:Nat}{w w':World}{v:Value}{ms:List Mem}(h:Own base w v ms)(hb:Below w.heap.size w w'):Own base w' v ms:=by
 rcases h.2 with⟨rfl,h0⟩|⟨g,c,cur,rfl,ev,hg,fG,dO,b9,bf⟩
 .exact⟨h.1,.inl ⟨rfl,h0⟩⟩
 .have aW:=(BY.1 hg).1
  exact⟨h.1,.inr ⟨g,c,cur,rfl,ev,(hb.block g aW).trans hg,fG,dO,b9,bf⟩⟩
theorem Own.lt{base:Nat}{w:World}{v:Value}{ms:List Mem}(h:Own base w v ms)(k:Nat)(hk:v.ownBlock=AI k):base<=k/\k<w.heap.size:=OL h k hk
theorem fc{base:Nat}{w w1 w2:World}{v:Value}{ms:List Mem}(hb:Below base w w1)(h:Own base w1 v ms)(hg:w1.grownBy w2 v.ownBlock)(hbase:base<=w1.heap.size):Below base w w2:=
 hb.grown hg hbase (λk hk=>(h.lt k hk).1)
theorem ez{base g c:Nat}{w:World}{ms:List Mem}(h:Own base w (J (AI ⟨g,0,be⟩) ms.length c) ms)(j:Nat)(hj:j<ms.length) :
 As w g (j*5) (ms.getD j dm):=by
 rcases h.2 with⟨h1,_⟩|⟨g',c',cur,h1,ev,hg,fG,dO,b9,bf⟩
 .cases h1
 .simp only[Value.slice.injEq,Option.some.injEq,Addr.mk.injEq] at h1
  obtain⟨⟨rfl,_,_⟩,_,_⟩:=h1;have hc:∀t,t<5->w.cell? ⟨g,j*5+t,be⟩=(ms.getD j dm).cs[t]?:=λt ht=>by
   rw[ae hg,<- eb ms j hj t ht,<- bf,IL (by omega)];simp
  exact⟨hc 0 (by omega),hc 1 (by omega),hc 2 (by omega),hc 3 (by omega),hc 4 (by omega)⟩
theorem jJ{base:Nat}{w:World}{v:Value}{ms:List Mem}(h:Own base w v ms)(p:Nat)(hp:p<ms.length):∃g c,v=J (AI ⟨g,0,be⟩) ms.length c:=by
 rcases h.2 with⟨_,h0⟩|⟨g,c,cur,h1,_⟩
 .omega
 .exact⟨g,c,h1⟩
theorem lr{base g c p:Nat}{W:World}{ms:List Mem}(h:Own base W (J (AI ⟨g,0,be⟩) ms.length c) ms)(hp:p<ms.length)(m:Mem) :
 Own base (((((W.setCell ⟨g,p*5,be⟩ (Y m.name)).setCell ⟨g,p*5+1,be⟩ (U O m.state)).setCell ⟨g,p*5+2,be⟩ (U O m.aI)).setCell ⟨g,p*5+3,be⟩ (U O m.addr)).setCell ⟨g,p*5+4,be⟩ (Ia m.server)) (J (AI ⟨g,0,be⟩) ms.length c) (ms.set p m):=by
 have h1:=IG h (p*5) (Y m.name);have h2:=IG h1.1 (p*5+1) (U O m.state);have h3:=IG h2.1 (p*5+2) (U O m.aI);have h4:=IG h3.1 (p*5+3) (U O m.addr);have h5:=IG h4.1 (p*5+4) (Ia m.server);have e:=h5.1;rw[nW ms p hp m] at e;show World.ownsRow _ _ _ _ _ (ms.set p m).length _;rw[List.length_set];exact e
theorem Sl.below{w w':World}{v:Value}{ms:List Mem}(h:Sl w v ms)(hb:Below w.heap.size w w'):Sl w' v ms:=by
 obtain⟨a,cap,rfl,hs,h⟩:=h;refine⟨a,cap,rfl,hs,?_⟩;rcases h with h|⟨b,off,rfl,aW,hr⟩
 .exact .inl h
 .refine .inr ⟨b,off,rfl,Nat.lt_of_lt_of_le aW hb.size,λj hj=>?_⟩
  exact(hr j hj).eq (λo=>(cz hb).1 b o aW)
theorem Row.later{w w':World}{b off:Nat}{ms:List Mem}(hr:Row w b off ms)(hb:Below w.heap.size w w')(aW:b<w.heap.size):Row w' b off ms:=λj hj=>(hr j hj).eq (λo=>(cz hb).1 b o aW)
theorem Own.mono{base iK:Nat}{w:World}{v:Value}{ms:List Mem}(h:Own base w v ms)(hb:iK<=base):Own iK w v ms:=by
 rcases h.2 with⟨rfl,h0⟩|⟨g,c,cur,rfl,ev,hg,fG,dO,b9,bf⟩
 .exact⟨h.1,.inl ⟨rfl,h0⟩⟩
 .exact⟨h.1,.inr ⟨g,c,cur,rfl,Iq hb ev,hg,fG,dO,b9,bf⟩⟩
theorem bY(base:Nat)(w:World):Own base w (J be 0 0) []:=World.ownsRow_nil w base 50 5
theorem dw{ms:List Mem}(h:∀j,(ms.getD j dm).name.size<=Il):∀m∈ms,(m).name.size<=Il:=by
 intro m hm;obtain⟨j,hj,rfl⟩:=List.getElem_of_mem hm;have:=h j;simpa[Ip,If hj] using this
theorem cB{ms:List Mem}(h:∀m∈ms,(m).name.size<=Il):∀j,(ms.getD j dm).name.size<=Il:=by
 intro j;by_cases hj:j<ms.length
 .have:=h ms[j] (IH hj)
  simpa[Ip,If hj] using this
 .simp[Ip,List.getElem?_eq_none (Nat.le_of_not_lt hj),dm]
theorem bD{base:Nat}{w:World}{v:Value}{ms:List Mem}(h:Own base w v ms)(hs:∀m∈ms,(m).name.size<=Il):Sl w v ms:=h.sl (cB hs)
theorem oj(w:World)(b cap:Nat)(m:Mem)(hm:(m).name.size<=Il)(hg:w.heap[b]?=AI (AT #[Y m.name,U O m.state,U O m.aI,U O m.addr,Ia m.server] 50 (0,0))):Sl w (J (AI ⟨b,0,be⟩) 1 cap) [m]:=by
 refine⟨_,cap,rfl,cB (λx hx=>by simp at hx;subst hx;exact hm),.inr ⟨b,0,rfl,(BY.1 hg).1,λj hj=>?_⟩⟩
 have:j=0:=by simpa using hj
 subst this;exact⟨ae hg (0+0*5),ae hg (0+0*5+1),ae hg (0+0*5+2),ae hg (0+0*5+3),ae hg (0+0*5+4)⟩
theorem jK{base:Nat}{w:World}{v:Value}{L:List Mem}{m:Mem}(h:w.ownsRow base 50 5 v (L.length+1) (fl L++m.cs)):Own base w v (L++[m]):=by
 have e:fl (L++[m])=fl L++m.cs:=by rw[cG,aZ];simp[fl]
 show w.ownsRow base 50 5 v (L++[m]).length (fl (L++[m]));rw[e,Ig];exact h
theorem Tryz.oh:(Tryz.prog.info? 50).map (λi=>(i.zero,i.size,i.bytes))=AI (AI (Ij #[Y ⟨#[]⟩,U O 0,U O 0,U O 0,Ia false]),5,48):=by kernel_rfl
theorem Kj:(Tryz.prog.info? 50).map (·.size)=AI 5:=by
 obtain⟨i,hi,h1,h2,h3⟩:=I6 Tryz.oh;rw[hi];simp[h2]
theorem sizeOf50(w:World):(Go.sizeOf 50).run AS w=.ok 5 w:=by
 obtain⟨i,hi,h1,h2,h3⟩:=I6 Tryz.oh;simp[Go.sizeOf,typeInfo,hi,h2]
theorem eJ(w:World)(g vb o lb cb:Nat)(cur vs:Array Value)(hg:w.heap[g]?=AI (AT cur 50 (0,0)))(hv:w.heap[vb]?=AI (AT vs 50 (0,0)))(aM:vb≠g)(hk:cur.size≠0) : (callFunc 272 #[J (AI ⟨vb,0,be⟩) 1 1,J (AI ⟨g,o,be⟩) lb cb]).run AS w=.ok (.value (Ia false)) w:=by
 rw[run_callFunc_extern Tryz.func272 (by kernel_rfl) (by kernel_rfl) (by kernel_rfl) (e:=Extern.SlicesOverlaps.overlaps #[34,34] #[4]) (by kernel_rfl),
  Lib.run_overlaps_apart w 34 4 50 JP 5 sizeOf50 ⟨vb,0,be⟩ ⟨g,o,be⟩ 1 1 lb cb aM 50 50 vs.size cur.size (by simp[World.shape?,hv]) (by simp[World.shape?,hg]) hk (by simp[World.frozen?,hv]) (by simp[World.frozen?,hv])]
 rfl
theorem fh(g n c i vb:Nat)(cur:Array Value)(vs:List Value)(w:World)(hg:w.heap[g]?=AI (AT cur 50 (0,0)))(b9:cur.size=c*5)(hi:i<n)(dx:n+1<=c)(A9:c<=9223372036854775807)(pt:vb≠g)(hv:w.heap[vb]?=AI (AT vs.toArray 50 (0,0)))(lj:vs.length=5)(lI:∀v∈cur.toList.take (n*5),v.oneCell'=true)(mM:∀v∈vs,v.oneCell'=true) :
 aF 242 #[J (AI ⟨g,0,be⟩) n c,U O i,J (AI ⟨vb,0,be⟩) 1 1] w λe w'=>e=By (J (AI ⟨g,0,be⟩) (n+1) c) /\
  ∃dR:Array Value,w'.heap[g]?=AI (AT dR 50 (0,0))/\dR.size=c*5/\dR.toList.take ((n+1)*5)=cur.toList.take (i*5)++vs++(cur.toList.take (n*5)).drop (i*5)/\w.grownBy w' (AI g):=by
 have RI:=λo lb cb=>eJ w g vb o lb cb cur vs.toArray hg hv pt (by omega);have nF:¬ ((i:Int)=(n:Int)):=by omega
 have aJ:¬ (c=i+1):=by omega
 have eO:¬ (c=i):=by omega
 have bV:(i:Int)<=(n:Int)+1:=by omega
 obtain⟨W1,W2,ot,sX,HF⟩:=po JP Kj hg b9 hi dx pt hv lj lI mM;have HF:Hid _:=HF;clear lI mM hg hv;have Mj:IntKind.i64.wrap ((i:Int)+1)=(i:Int)+1:=by rw[IY];omega
 have aB:(0:Int)<=(i:Int)+1:=by omega
 have nO:i<=n:=by omega
 have DZ:((i:Int)+1).toNat=i+1:=by omega
 go_enter Tryz.func242,Tryz.ntmps242;go_wp2_with (simp only[RI]);go_region_law (refine du rfl _ _ 34 34 rfl _ _ (by simp[M2,Oo]) (by simp[M2,Oo]) (ot _ _ _) ?_)
 go_wp2_with fail;go_ret;exact⟨rfl,HF.out⟩
theorem fi(g n c i vb:Nat)(cur:Array Value)(vs:List Value)(w:World)(hg:w.heap[g]?=AI (AT cur 50 (0,0)))(b9:cur.size=c*5)(hi:i<n)(fG:n<=c)(dx:c<n+1)(A9:n<=1000)(hv:w.heap[vb]?=AI (AT vs.toArray 50 (0,0)))(lj:vs.length=5)(lI:∀v∈cur.toList.take (n*5),v.oneCell'=true)(mM:∀v∈vs,v.oneCell'=true) :
 aF 242 #[J (AI ⟨g,0,be⟩) n c,U O i,J (AI ⟨vb,0,be⟩) 1 1] w λe w'=>∃G,e=By (J (AI ⟨w.heap.size,0,be⟩) (n+1) G)/\n+1<=G/\G<=Il /\
  ∃dR:Array Value,w'.heap[w.heap.size]?=AI (AT dR 50 (0,0))/\dR.size=G*5/\dR.toList.take ((n+1)*5)=cur.toList.take (i*5)++vs++(cur.toList.take (n*5)).drop (i*5)/\w.grownBy w' be:=by
 obtain⟨i0,fL,dh,gW,gG⟩:=I6 Tryz.oh;have Ba:c=n:=by omega
 subst Ba;have nF:¬ ((i:Int)=(c:Int)):=by omega
 have qi:(c:Int)<(c:Int)+1:=by omega
 have sj:(c:Int)+1-(i:Int)=((c+1-i:Nat):Int):=by omega
 have Bb:i+(c+1-i)=c+1:=by omega
 have hold:(Builtin.firstCells i0.size i (J (AI ⟨g,0,be⟩) i c)).run AS w.drew=.ok (cur.toList.take (i*5)).toArray w.drew:=by
  rw[gW];exact run_firstCells_some w.drew 5 i ⟨g,0,be⟩ i c (cur.toList.take (i*5)) (by rw[IA,IV];omega) (λj v hj=>by
   have e:w.drew.cell? ((⟨g,0,be⟩:Addr).add j)=cur[j]?:=by rw[Addr.add_lit,Nat.zero_add];exact ae hg _
   rw[e];rw[List.getElem?_take] at hj;split at hj
   .simpa using hj
   .cases hj)
 have wY:∀ty,∃G mr,c+1<=G/\G<=Il/\mr.size=G*5/\mr.toList.take (i*5)=cur.toList.take (i*5)/\(Builtin.append_ #[34,3] ty #[J (AI ⟨g,0,be⟩) i c,U O ((c:Int)+1-(i:Int))]).run AS w =
  .ok (J (AI ⟨w.heap.size,0,be⟩) (c+1) G) (w.drew.alloc (AT mr 50)):=λty=>by
  have h:=Lib.run_append_grow_zeros w 34 3 ty 50 i0 _ O O JP ID fL dh (AI ⟨g,0,be⟩) i c (cur.toList.take (i*5)) hold (c+1-i) (by omega) (by omega) (by omega) (by omega) (by rw[gG];omega) (by rw[gG,Bb];exact growslice_fits dx (by omega));rw[Bb] at h;rw[sj];have h1:=grownCap_ge w (c+1) c 50;refine⟨_,_,h1,grownCap_le_maxLen w (c+1) c 50 (by unfold Il;omega),?_,?_,h⟩
  .simp only[Array.size_append,JV,size_zeroCells,IA,IV,b9,Value.cells]
   simp;omega
  .simp only[Array.toList_append,Im]
   exact List.take_left' (by simp only[IA,IV,b9];omega)
 obtain⟨G,mr,zi,wZ,Au,DY,wY⟩:=wY 34;have RJ:G<=9223372036854775807:=by unfold Il at wZ;omega
 obtain⟨W2,W3,ot,sX,HF⟩:=pA JP Kj hg b9 hi hv lj lI mM zi Au DY;obtain⟨W1,cM⟩:∃W1,W1=(w.alloc (AT mr 50)).drew:=⟨_,rfl⟩;have G9:w.drew.alloc (AT mr 50)=W1:=by rw[cM];rfl
 rw[G9] at wY;rw[<- cM] at ot;have HF:Hid _:=HF;have Mj:IntKind.i64.wrap ((i:Int)+1)=(i:Int)+1:=by rw[IY];omega
 have aB:(0:Int)<=(i:Int)+1:=by omega
 have nO:i<=c:=by omega
 have DZ:((i:Int)+1).toNat=i+1:=by omega
 have hGi:¬ (G=i):=by omega
 have RM:¬ (G=i+1):=by omega
 have hci:¬ (c=i):=by omega
 clear cM lI mM G9 Au DY sj Bb hold hg hv fL dh gW gG;go_enter Tryz.func242,Tryz.ntmps242;go_wp2_with (at_builtin;refine Lib.wpList_append_run _ rfl _ _ _ _ rfl _ _ rfl rfl _ _ wY ?_);go_region_law (refine du rfl _ _ 34 34 rfl _ _ (by simp[M2,Oo]) (by simp[M2,Oo]) (sX _ _ _) ?_)
 go_wp2_with fail;go_ret;exact⟨G,rfl,zi,wZ,HF.out⟩
theorem fY(base n vb:Nat)(v:Value)(xs vs:List Value)(w:World)(hown:w.ownsRow base 50 5 v n xs)(hn:n<=1000)(hbase:base<=w.heap.size)(hv:w.heap[vb]?=AI (AT vs.toArray 50 (0,0)))(lj:vs.length=5)(mM:∀v∈vs,v.oneCell'=true) :
 aF 242 #[v,U O n,J (AI ⟨vb,0,be⟩) 1 1] w λe w'=>∃v',e=By v'/\w'.ownsRow base 50 5 v' (n+1) (xs++vs)/\w.grownBy w' v.ownBlock:=by
 obtain⟨i0,fL,dh,gW,gG⟩:=I6 Tryz.oh;have hnews:∀j u,vs[j]?=AI u->w.cell? ((⟨vb,0,be⟩:Addr).add j)=AI u:=λj v hj=>by rw[Addr.add_lit,ae hv];simpa using hj
 have HO:Hid (w.ownsRow base 50 5 v n xs):=hown;rcases hown.2 with⟨rfl,rfl⟩|⟨g,c,cur,rfl,_,_,fG,dO,_,_⟩;rotate_left;unfold Il at dO;by_cases Ba:c=n;subst Ba;all_goals
  clear hown hv;go_enter Tryz.func242,Tryz.ntmps242;go_wp2_with (at_builtin;refine wpList_append_own _ rfl _ _ 34 rfl base 50 i0 _ 5 48 JP fL dh gW gG rfl (by omega) _ _ xs rfl HO.out ⟨vb,0,be⟩ 1 1 vs rfl (by omega) hnews mM (by unfold Il;omega) (by omega) hbase ?_);intro v' w' r1 r2 r3;go_wp2_with fail;go_ret;exact⟨v',rfl,r1,r2⟩
theorem fj(base i vb:Nat)(v:Value)(ms:List Mem)(m:Mem)(w:World)(hown:Own base w v ms)(hi:i<=ms.length)(hn:ms.length<=1000)(hbase:base<=w.heap.size)(hv:w.heap[vb]?=AI (AT m.cs.toArray 50 (0,0)))(aM:v.ownBlock≠AI vb) :
 aF 242 #[v,U O i,J (AI ⟨vb,0,be⟩) 1 1] w λe w'=>∃v',e=By v'/\Own base w' v' (ms.take i++m::ms.drop i)/\w.grownBy w' v.ownBlock:=by
 have hlen:(ms.take i++m::ms.drop i).length=ms.length+1:=by simp;omega
 have GV:fl (ms.take i++m::ms.drop i)=(fl ms).take (i*5)++m.cs++(fl ms).drop (i*5):=by rw[cG,aZ,eY,eZ,Im]
 by_cases nO:i=ms.length
 .subst nO
  refine(fY base ms.length vb v (fl ms) m.cs w hown hn hbase hv rfl (df m)).mono ?_;rintro e w' ⟨v',rfl,h1,h2⟩;refine⟨v',rfl,?_,h2⟩;have e1:ms.take ms.length++m::ms.drop ms.length=ms++[m]:=by simp
  have e2:fl (ms++[m])=fl ms++m.cs:=by rw[cG,aZ];simp[fl]
  rw[e1];show w'.ownsRow base 50 5 v' (ms++[m]).length (fl (ms++[m]));rw[e2,show(ms++[m]).length=ms.length+1 by simp];exact h1
 .rcases hown.2 with⟨_,h0⟩|⟨g,c,cur,rfl,ev,hg,fG,dO,b9,bf⟩
  .omega
  .have pt:vb≠g:=λe=>aM (by simp[Value.ownBlock,e])
   have lI:∀v∈cur.toList.take (ms.length*5),v.oneCell'=true:=by rw[bf];exact gJ ms
   have Mk:cur.toList.take (i*5)=(fl ms).take (i*5):=by rw[<- bf,List.take_take];congr 1;omega
   have key:∀l:List Value,l=cur.toList.take (i*5)++m.cs++(cur.toList.take (ms.length*5)).drop (i*5)->l=fl (ms.take i++m::ms.drop i):=λl hl=>by rw[hl,GV,bf,Mk]
   by_cases dx:ms.length+1<=c
   .refine(fh g ms.length c i vb cur m.cs w hg b9 (by omega) dx (by unfold Il at dO;omega) pt hv rfl lI (df m)).mono ?_
    rintro e w' ⟨rfl,dR,h1,h2,h3,h4⟩;refine⟨_,rfl,?_,h4⟩;rw[<- hlen];exact ib ev h1 h2 (by omega) dO (key _ (by rw[hlen];exact h3))
   .refine(fi g ms.length c i vb cur m.cs w hg b9 (by omega) fG (by omega) hn hv rfl lI (df m)).mono ?_
    rintro e w' ⟨G,rfl,zi,wZ,dR,h1,h2,h3,h4⟩;refine⟨_,rfl,?_,ni h4 _⟩;rw[<- hlen];exact ib hbase h1 h2 (by omega) wZ (key _ (by rw[hlen];exact h3))
def uY(nm:ByteArray)(st lf ad:Int):Int:=
 if bb nm=true then(if within st 1 4=true then(if within lf 1 1000000=true then(if within ad 0 4294967295=true then 0 else 3) else 3) else 7) else 1
def uN(sa la aa:Int)(va:Bool)(sb lb ab:Int)(vb:Bool):Bool:=
 if la=lb then(if sa=sb then(if aa=ab then(va&&!vb) else decide (ab<aa)) else decide (sb<sa)) else decide (lb<la)
theorem xz(nm:ByteArray)(st lf ad:Int)(sv:Bool)(w:World)(hs:nm.size<=Il) :
 aF 120 #[Ij #[Y nm,U O st,U O lf,U O ad,Ia sv]] w λe w'=>e=By (U O (uY nm st lf ad))/\w'=w.alloc (AT #[Y nm,U O st,U O lf,U O ad,Ia sv] 50):=by
 rcases h1:bb nm with _|_
 .go_enter Tryz.func120,Tryz.ntmps120
  go_wp2_with (go_at_call 53;refine(bR _ _ hs).mono ?_;rintro e w' ⟨rfl,rfl⟩;rw[h1]);go_ret;exact⟨ai (by simp[uY,h1]),rfl⟩
 .rcases h2:within st 1 4 with _|_
  .go_enter Tryz.func120,Tryz.ntmps120
   go_wp2_with (first|(go_at_call 53;refine(bR _ _ hs).mono ?_;rintro e w' ⟨rfl,rfl⟩;rw[h1])|(go_at_call 54;refine(cy _ _ _ _).mono ?_;rintro e w' ⟨rfl,rfl⟩;rw[h2]));go_ret;exact⟨ai (by simp[uY,h1,h2]),rfl⟩
  .rcases h3:within lf 1 1000000 with _|_
   .go_enter Tryz.func120,Tryz.ntmps120
    go_wp2_with (first|(go_at_call 53;refine(bR _ _ hs).mono ?_;rintro e w' ⟨rfl,rfl⟩;rw[h1])|(go_at_call 54;refine(cy _ _ _ _).mono ?_;rintro e w' ⟨rfl,rfl⟩;first|rw[h2]|rw[h3]));go_ret;exact⟨ai (by simp[uY,h1,h2,h3]),rfl⟩
   .rcases h4:within ad 0 4294967295 with _|_
    all_goals
     go_enter Tryz.func120,Tryz.ntmps120;go_wp2_with (first|(go_at_call 53;refine(bR _ _ hs).mono ?_;rintro e w' ⟨rfl,rfl⟩;rw[h1])|(go_at_call 54;refine(cy _ _ _ _).mono ?_;rintro e w' ⟨rfl,rfl⟩;first|rw[h2]|rw[h3])|(go_at_call 35;refine(eF _ _).mono ?_;rintro e w' ⟨rfl,rfl⟩;rw[h4]));go_ret;exact⟨ai (by simp[uY,h1,h2,h3,h4]),rfl⟩
theorem vE(na nb:ByteArray)(sa la aa:Int)(va:Bool)(sb lb ab:Int)(vb:Bool)(w:World) :
 aF 208 #[Ij #[Y na,U O sa,U O la,U O aa,Ia va],Ij #[Y nb,U O sb,U O lb,U O ab,Ia vb]] w λe w'=>e=By (Ia (uN sa la aa va sb lb ab vb))/\w'=(w.alloc (AT #[Y na,U O sa,U O la,U O aa,Ia va] 50)).alloc (AT #[Y nb,U O sb,U O lb,U O ab,Ia vb] 50):=by
 by_cases h1:la=lb
 .subst h1
  by_cases h2:sa=sb
  .subst h2
   by_cases h3:aa=ab
   .subst h3
    cases va
    all_goals
     go_enter Tryz.func208,Tryz.ntmps208;go_wp2;go_ret;exact⟨ba (by simp[uN]),rfl⟩
   .have h3':(aa !=ab)=true:=by simpa using h3
    go_enter Tryz.func208,Tryz.ntmps208;go_wp2;go_ret;exact⟨ba (by simp[uN,h3]),rfl⟩
  .have LJ:(sa !=sb)=true:=by simpa using h2
   go_enter Tryz.func208,Tryz.ntmps208;go_wp2;go_ret;exact⟨ba (by simp[uN,h2]),rfl⟩
 .have PF:(la !=lb)=true:=by simpa using h1
  go_enter Tryz.func208,Tryz.ntmps208;go_wp2;go_ret;exact⟨ba (by simp[uN,h1]),rfl⟩
def Mem.e(m:Mem):Int:=uY m.name m.state m.aI m.addr
def aR:List Mem->Int
 |[]=>0
 |m::r=>if m.e=0 then aR r else m.e
theorem cE:∀(ms:List Mem),(∀j,j<ms.length->(ms.getD j dm).e=0)->aR ms=0
 |[],_=>rfl
 |m::r,h=>by
  have h0:=h 0 (by simp);simp only[I2] at h0;rw[aR,if_pos h0];exact cE r λj hj=>by have:=h (j+1) (by simpa using hj);simpa using this
theorem dU:∀(ms:List Mem) (k:Nat),k<ms.length->(∀j,j<k->(ms.getD j dm).e=0)->(ms.getD k dm).e≠0->aR ms=(ms.getD k dm).e
 |[],k,h,_,_=>by simp at h
 |m::r,0,_,_,aM=>by
  simp only[I2] at aM ⊢;rw[aR,if_neg aM]
 |m::r,k+1,h,hz,aM=>by
  have h0:=hz 0 (by omega);simp only[I2] at h0;rw[aR,if_pos h0,JA];rw[JA] at aM;exact dU r k (by simpa using h) (λj hj=>by have:=hz (j+1) (by omega);simpa using this) aM
def aL:List Mem->Bool
 |a::b::r=>less a.name b.name&&aL (b::r)
 |_=>true
theorem gq:∀(ms:List Mem),(∀j,j+1<ms.length->less (ms.getD j dm).name (ms.getD (j+1) dm).name=true)->aL ms=true
 |[],_=>rfl
 |[_],_=>rfl
 |a::b::r,h=>by
  have h0:=h 0 (by simp);simp only[I2,JA] at h0;rw[aL,h0,QU];exact gq (b::r) λj hj=>by have:=h (j+1) (by simpa using hj);simpa using this
theorem ia:∀(ms:List Mem),aL ms=true->∀j,j+1<ms.length->less (ms.getD j dm).name (ms.getD (j+1) dm).name=true
 |[],_,j,h=>by simp at h
 |[_],_,j,h=>by simp at h
 |a::b::r,hr,0,_=>by
  rw[aL,IM] at hr;simpa using hr.1
 |a::b::r,hr,j+1,h=>by
  rw[aL,IM] at hr;have:=ia (b::r) hr.2 j (by simpa using h);simpa using this
def bj(ms:List Mem):Int:=if 20<ms.length then 2 else if aR ms=0 then(if aL ms=true then 0 else 4) else aR ms
theorem tD(ms:List Mem)(k:Nat)(hn:ms.length<=20)(hk:k<ms.length)(hz:∀j,j<k->(ms.getD j dm).e=0)(aM:(ms.getD k dm).e≠0):bj ms=(ms.getD k dm).e:=by
 have h:=dU ms k hk hz aM;rw[bj,if_neg (by omega),h,if_neg aM]
theorem agD(ms:List Mem)(hn:ms.length<=20)(hz:∀j,j<ms.length->(ms.getD j dm).e=0)(hl:∀j,j+1<ms.length->less (ms.getD j dm).name (ms.getD (j+1) dm).name=true):bj ms=0:=by
 rw[bj,if_neg (by omega),cE ms hz,if_pos rfl,if_pos (gq ms hl)]
structure At(ms:List Mem)(t:ByteArray)(p:Nat)(f:Bool):Prop where
 le:p<=ms.length
 lo:∀j,j<p->bO (ms.getD j dm).name t<0
 hi:∀j,p<=j->j<ms.length->0<=bO (ms.getD j dm).name t
 is:f=true↔p<ms.length/\bO (ms.getD p dm).name t=0
def eB(a b:Mem):Bool:=uN a.state a.aI a.addr a.server b.state b.aI b.addr b.server
def aP:List Mem->Mem->List Mem
 |[],m=>[m]
 |x::r,m=>if bO x.name m.name<0 then x::aP r m else if bO x.name m.name=0 then(if eB m x=true then m::r else x::r) else m::x::r
abbrev bn(ms:List Mem):Prop:=ms.Pairwise λa b=>less a.name b.name=true
theorem lq:∀ms:List Mem,aL ms=true->bn ms
 |[],_=>.nil
 |[x],_=>by simp[bn]
 |a::b::r,h=>by
  rw[aL,IM] at h;have ih:=lq (b::r) h.2;refine JE.2 ⟨λc hc=>?_,ih⟩;rcases IT.1 hc with rfl|hc
  .exact h.1
  .exact fU h.1 (JG ih hc)
theorem jH:∀ms:List Mem,bn ms->aL ms=true
 |[],_=>rfl
 |[x],_=>rfl
 |a::b::r,h=>by
  rw[aL,JG h (by simp),QU];exact jH (b::r) (List.Pairwise.of_cons h)
theorem dP{ms:List Mem}(h:bn ms)(t:ByteArray):∀i j,i<=j->j<ms.length->bO (ms.getD j dm).name t<0->bO (ms.getD i dm).name t<0:=by
 intro i j iY hj aW;rcases Nat.lt_or_eq_of_le iY with Rg|rfl
 .have hp:=List.pairwise_iff_getElem.1 h i j (by omega) hj Rg
  rw[fB] at aW ⊢;have e1:ms.getD i dm=ms[i]:=by simp[Ip,If (show i<ms.length by omega)]
  have e2:ms.getD j dm=ms[j]:=by simp[Ip,If hj]
  rw[e1];rw[e2] at aW;exact fU hp aW
 .exact aW
theorem dd:∀(ms:List Mem) (m:Mem) (p:Nat) (f:Bool),At ms m.name p f ->
 aP ms m=if f=true then(if eB m (ms.getD p dm)=true then ms.set p m else ms) else ms.take p++m::ms.drop p
 |[],m,p,f,h=>by
  have hp:p=0:=by have:=h.le;simpa using this
  subst hp;have hf:f=false:=by
   cases f
   .rfl
   .have:=h.is.1 rfl;simp at this
  subst hf;simp[aP]
 |x::r,m,0,f,h=>by
  have h0:=h.hi 0 (Ic _) (by simp);simp only[I2] at h0;rw[aP,if_neg (by omega)];cases f
  .have aM:¬ bO x.name m.name=0:=λe=>by have:=h.is.2 ⟨by simp,by simpa using e⟩;cases this
   rw[if_neg aM];simp
  .have he:=(h.is.1 rfl).2
   simp only[I2] at he;rw[if_pos he];simp only[I2,List.set_cons_zero,if_pos]
 |x::r,m,p+1,f,h=>by
  have h0:=h.lo 0 (by omega);simp only[I2] at h0;have hr:At r m.name p f:=⟨by have:=h.le;simpa using this,λj hj=>by have:=h.lo (j+1) (by omega);simpa using this,
   λj hj hl=>by have:=h.hi (j+1) (by omega) (by simpa using hl);simpa using this,by have:=h.is;simpa using this⟩
  rw[aP,if_pos h0,dd r m p f hr];cases f
  .simp
  .simp only[if_pos,JA,Ot]
   split<;>rfl
theorem ec:∀(ms:List Mem) (m x:Mem),x∈aP ms m->x=m\/x∈ms
 |[],m,x,h=>by simp[aP] at h;exact .inl h
 |y::r,m,x,h=>by
  rw[aP] at h;split at h
  .rcases IT.1 h with rfl|h
   .exact .inr (by simp)
   .rcases ec r m x h with h|h
    .exact .inl h
    .exact .inr (by simp[h])
  .split at h
   .split at h
    .rcases IT.1 h with h|h
     .exact .inl h
     .exact .inr (by simp[h])
    .exact .inr h
   .rcases IT.1 h with h|h
    .exact .inl h
    .exact .inr h
theorem iv:∀(ms:List Mem) (m:Mem),bn ms->bn (aP ms m)
 |[],m,_=>by simp[aP]
 |x::r,m,h=>by
  have hx:=JE.1 h;rw[aP];split
  .rename_i aW
   refine JE.2 ⟨λy hy=>?_,iv r m hx.2⟩;rcases ec r m y hy with rfl|hy
   .exact(fB _ _).1 aW
   .exact hx.1 y hy
  .rename_i aW
   split
   .rename_i he
    have hn:=(bT _ _).1 he;split
    .exact JE.2 ⟨λy hy=>by rw[<- hn];exact hx.1 y hy,hx.2⟩
    .exact h
   .rename_i he
    have hg:less m.name x.name=true:=(nf _ _).1 (by omega);refine JE.2 ⟨λy hy=>?_,h⟩;rcases IT.1 hy with rfl|hy
    .exact hg
    .exact fU hg (hx.1 y hy)
theorem kT:∀(ms:List Mem) (m:Mem),ms.length<=(aP ms m).length/\(aP ms m).length<=ms.length+1
 |[],m=>by simp[aP]
 |x::r,m=>by
  have:=kT r m;rw[aP];split
  .simp;omega
  .split
   .split<;>simp
   .simp
def av(a b:List Mem):List Mem:=b.foldl aP a
theorem dE:∀(b a:List Mem),bn a->bn (av a b)
 |[],_,h=>h
 |m::r,a,h=>dE r (aP a m) (iv a m h)
theorem di:∀(b a:List Mem),(av a b).length<=a.length+b.length
 |[],_=>by simp[av]
 |m::r,a=>by
  have h1:=di r (aP a m);have h2:=kT a m;simp only[av,OD,Iy] at *;omega
theorem ey{ms:List Mem}{nm:ByteArray}{p q:Nat}{f e:Bool}(h:At ms nm p f)(k:At ms nm q e):p=q/\f=e:=by
 have Gx:p=q:=by
  rcases Nat.lt_trichotomy p q with aW|rfl|aW
  .have h1:=k.lo p aW
   have h2:=h.hi p (Ic _) (by have:=k.le;omega);omega
  .rfl
  .have h1:=h.lo q aW
   have h2:=k.hi q (Ic _) (by have:=h.le;omega);omega
 subst Gx;refine⟨rfl,?_⟩;rw[Bool.eq_iff_iff,h.is,k.is]
theorem pL{ms:List Mem}{m:Mem}(h:∀m∈ms,m.name.size<=Il)(hm:m.name.size<=Il):∀x∈aP ms m,x.name.size<=Il:=by
 intro x hx;rcases ec ms m x hx with rfl|hx
 .exact hm
 .exact h x hx
theorem iI:∀(b a:List Mem),(∀m∈a,m.name.size<=Il)->(∀m∈b,m.name.size<=Il)->∀x∈av a b,x.name.size<=Il
 |[],_,ha,_=>ha
 |m::r,a,ha,hb=>iI r (aP a m) (pL ha (hb m (by simp))) (λx hx=>hb x (by simp[hx]))
theorem gd(a b:List Mem)(j:Nat)(hj:j<b.length):av a (b.take (j+1))=aP (av a (b.take j)) (b.getD j dm):=by
 have e:b.getD j dm=b[j]:=by simp[Ip,If hj]
 rw[e,IF hj,av,List.foldl_append,av];rfl
theorem tE:∀(a:List Mem) (m:Mem),(∀x∈a,less x.name m.name=true)->aP a m=a++[m]
 |[],_,_=>rfl
 |x::r,m,h=>by
  rw[aP,if_pos ((fB _ _).2 (h x (by simp))),tE r m (λy hy=>h y (by simp[hy]))];rfl
theorem vS:∀(b a:List Mem),bn (a++b)->av a b=a++b
 |[],a,_=>by simp[av]
 |m::r,a,h=>by
  have h1:=tE a m λx hx=>(List.pairwise_append.1 h).2.2 x hx m (by simp);have h2:=vS r (a++[m]) (by simpa using h);simp only[av,OD,h1] at h2 ⊢;rw[h2];simp
theorem iq(b:List Mem)(h:bn b):av [] b=b:=vS b [] h
theorem af{ms:List Mem}(h:bj ms=0):ms.length<=20/\bn ms/\aR ms=0:=by
 unfold bj at h;split at h
 .omega
 .split at h
  .rename_i h1 h2
   split at h
   .rename_i h3
    exact⟨by omega,lq ms h3,h2⟩
   .omega
  .rename_i h1 h2;exact absurd h h2
def aO(a b:List Mem):Int:=if bj a=0 then bj b else bj a
def dF(a b:List Mem)(k:Nat):List Mem:=if k=0 then[] else if k=1 then a else av a b
def aE(a b:List Mem):Int:=if aO a b=0 then(if 20<(av a b).length then 2 else 0) else aO a b
theorem fp(ms:List Mem)(h:∀j,j+1<ms.length->bO (ms.getD j dm).name (ms.getD (j+1) dm).name<0):aL ms=true:=gq ms λj hj=>(fB _ _).1 (h j hj)
theorem fq(ms:List Mem)(h:aL ms=true):∀j,j+1<ms.length->bO (ms.getD j dm).name (ms.getD (j+1) dm).name<0:=λj hj=>(fB _ _).2 (ia ms h j hj)
theorem ry(ms:List Mem)(hn:ms.length<=20)(hz:∀j,j<ms.length->(ms.getD j dm).e=0):bj ms=if aL ms=true then 0 else 4:=by
 rw[bj,if_neg (by omega),cE ms hz,if_pos rfl]
theorem dj(a b:Mem)(w:World) :
 aF 122 #[Ij #[Y a.name,U O a.state,U O a.aI,U O a.addr,Ia a.server],Ij #[Y b.name,U O b.state,U O b.aI,U O b.addr,Ia b.server]] w λe w'=>e=By (U O (bO a.name b.name))/\Below w.heap.size w w':=by
 go_enter Tryz.func122,Tryz.ntmps122;go_wp2_with (go_at_call 49;refine(gn _ _ _).mono ?_;rintro e w' ⟨rfl,rfl⟩);go_ret;exact⟨rfl,((Ib _ _).alloc (Ic _) _).alloc (by simp) _⟩
theorem gf(a b:Mem)(w:World) :
 aF 208 #[Ij #[Y a.name,U O a.state,U O a.aI,U O a.addr,Ia a.server],Ij #[Y b.name,U O b.state,U O b.aI,U O b.addr,Ia b.server]] w λe w'=>e=By (Ia (eB a b))/\Below w.heap.size w w':=by
 refine(vE a.name b.name a.state a.aI a.addr a.server b.state b.aI b.addr b.server w).mono ?_;rintro e w' ⟨rfl,rfl⟩;exact⟨rfl,((Ib _ _).alloc (Ic _) _).alloc (by simp) _⟩
end Go.Proofs.YtfidhgjmifendaaGreatDoor
namespace Go.Proofs
open Go.Shelf
def Tryz.xA:Go.Shelf.Ren:=⟨fun|171=>221|243=>255|246=>282|283=>296|284=>297|285=>298|286=>299|129=>124|317=>306|318=>307|319=>308|320=>309|337=>311|338=>312|n=>n,fun|3=>3|9=>9|2=>2|4=>4|171=>324|0=>0|53=>167|37=>266|5=>5|173=>326|212=>336|51=>165|20=>20|213=>337|46=>129|232=>340|233=>341|n=>n,fun|17=>3|18=>4|19=>5|n=>n⟩
theorem Tryz.Kk:Go.Proofs.LaysM.n171 AS Tryz.xA:={
 mixed:=by kernel_rfl
 f129:=Tryz.func124.trans (congrArg AI (by kernel_rfl))
 f171:=Tryz.func221.trans (congrArg AI (by kernel_rfl))
 f243:=Tryz.func255.trans (congrArg AI (by kernel_rfl))
 f246:=Tryz.func282.trans (congrArg AI (by kernel_rfl))
 f283:=Tryz.func296.trans (congrArg AI (by kernel_rfl))
 f284:=Tryz.func297.trans (congrArg AI (by kernel_rfl))
 f285:=Tryz.func298.trans (congrArg AI (by kernel_rfl))
 f286:=Tryz.func299.trans (congrArg AI (by kernel_rfl))
 f317:=Tryz.func306.trans (congrArg AI (by kernel_rfl))
 f318:=Tryz.func307.trans (congrArg AI (by kernel_rfl))
 f319:=Tryz.func308.trans (congrArg AI (by kernel_rfl))
 f320:=Tryz.func309.trans (congrArg AI (by kernel_rfl))
 f337:=Tryz.func311.trans (congrArg AI (by kernel_rfl))
 f338:=Tryz.func312.trans (congrArg AI (by kernel_rfl))
 t0:=Tryz.underlying0
 a0:=Tryz.isAgg0
 z0:=Tryz.sizeOf0
 v0:=Tryz.zeroValue0
 t2:=Tryz.underlying2
 a2:=Tryz.isAgg2
 z2:=Tryz.sizeOf2
 v2:=Tryz.zeroValue2
 t3:=ID
 a3:=Tryz.isAgg3
 z3:=Tryz.sizeOf3
 v3:=Tryz.zeroValue3
 t4:=Tryz.underlying4
 a4:=Tryz.isAgg4
 z4:=Tryz.sizeOf4
 v4:=Tryz.zeroValue4
 t5:=Tryz.underlying5
 a5:=Tryz.isAgg5
 z5:=Tryz.sizeOf5
 v5:=Tryz.zeroValue5
 t9:=Tryz.underlying9
 a9:=Tryz.isAgg9
 z9:=Tryz.sizeOf9
 v9:=Tryz.zeroValue9
 t20:=Tryz.underlying20
 a20:=Tryz.isAgg20
 z20:=Tryz.sizeOf20
 v20:=Tryz.zeroValue20
 t37:=Tryz.underlying266
 a37:=Tryz.isAgg266
 z37:=Tryz.sizeOf266
 v37:=Tryz.zeroValue266
 t46:=Tryz.underlying129
 a46:=Tryz.isAgg129
 z46:=Tryz.sizeOf129
 v46:=Tryz.zeroValue129
 t51:=Tryz.underlying165
 a51:=Tryz.isAgg165
 z51:=Tryz.sizeOf165
 v51:=Tryz.zeroValue165
 t53:=Tryz.underlying167
 a53:=Tryz.isAgg167
 z53:=Tryz.sizeOf167
 v53:=Tryz.zeroValue167
 t171:=Tryz.underlying324
 a171:=Tryz.isAgg324
 z171:=Tryz.sizeOf324
 v171:=Tryz.zeroValue324
 t173:=Tryz.underlying326
 a173:=Tryz.isAgg326
 z173:=Tryz.sizeOf326
 v173:=Tryz.zeroValue326
 t212:=Tryz.underlying336
 a212:=Tryz.isAgg336
 z212:=Tryz.sizeOf336
 v212:=Tryz.zeroValue336
 t213:=Tryz.underlying337
 a213:=Tryz.isAgg337
 z213:=Tryz.sizeOf337
 t232:=Tryz.underlying340
 a232:=Tryz.isAgg340
 z232:=Tryz.sizeOf340
 v232:=Tryz.zeroValue340
 t233:=Tryz.underlying341
 a233:=Tryz.isAgg341
 z233:=Tryz.sizeOf341
 v233:=Tryz.zeroValue341
 g17:=by kernel_rfl
 g18:=by kernel_rfl
 g19:=by kernel_rfl
 i0:=by kernel_rfl
 i2:=by kernel_rfl
 i3:=by kernel_rfl
 i4:=by kernel_rfl
 i5:=by kernel_rfl
 i9:=by kernel_rfl
 i20:=by kernel_rfl
 i37:=by kernel_rfl
 i46:=by kernel_rfl
 i51:=by kernel_rfl
 i53:=by kernel_rfl
 i171:=by kernel_rfl
 i173:=by kernel_rfl
 i212:=by kernel_rfl
 i232:=by kernel_rfl
 i233:=by kernel_rfl
 m17:=by kernel_rfl
 m18:=by kernel_rfl
 m19:=by kernel_rfl }
open Go.RowKit Go.Sort Go.Lib in
theorem Tryz.strconv_Itoa(n : Int)(h0 : -9223372036854775808 <= n)(h1 : n <= 9223372036854775807)(w : World)(htab : Lib.TabIs AS w "internal/strconv.uint64pow10" .u64 Lib.pow10Tab) :
 Calls AS 221 #[U O n] w λe w'=>e=By (Y ⟨(Qu n).toArray⟩)/\∃k os,w'=grow (w.drewN k) os:=Any.strconv_Itoa Tryz.Kk n h0 h1 w htab
end Go.Proofs
namespace Go.Proofs.YtfidhgjmifendaaGreatDoor
open Go.RowKit
def mc(n:Int):ByteArray:=⟨(Qu n).toArray⟩
def bk(n:Int):List Value:=Oi (mc n)++[U .u8 59]
def fK(n:Int):Prop := -9223372036854775808<=n/\n<=9223372036854775807
def ma(B : Nat)(w : World) : Prop := Lib.TabBelow AS B w "internal/strconv.uint64pow10" .u64 Lib.pow10Tab
theorem ma.below{B:Nat}{w w':World}(h:ma B w)(hb:Below B w w'):ma B w':=λW hW=>h W (hb.trans hW)
theorem Kp.cd{B b:Nat}{w w':World}(hb:Below w.heap.size w w')(hB:B<=w.heap.size):Kp B b w w':=
 ⟨hb.mono hB,λk o hk _ _=>(hb.block k (BY.1 hk).1).trans hk,λhbb=>⟨λk hk _ _=>hb.block k hk,.inl (by unfold nM;rw[hb.cell (p:=⟨b,1,be⟩) hbb])⟩⟩
theorem cY.below{B b:Nat}{bs:List Value}{w w':World}(h:cY B b bs w)(hb:Below w.heap.size w w'):cY B b bs w':=by
 have go:∀p,Lx B b p bs w->Lx B b p bs w':=λp ⟨hB,v,CC,ho,aM⟩=>
  ⟨hB,v,(hb.block _ (BY.1 CC).1).trans CC,by
   refine⟨ho.1,?_⟩;rcases ho.2 with h|⟨g,c,cur,h1,h2,h3,h4⟩
   .exact .inl h
   .exact .inr ⟨g,c,cur,h1,h2,(hb.block _ (BY.1 h3).1).trans h3,h4⟩,aM⟩
 rcases h with h|h
 .exact .inl (go _ h)
 .exact .inr (go _ h)
theorem cY.lt{B b:Nat}{bs:List Value}{w:World}(h:cY B b bs w):b<w.heap.size:=by
 rcases h with h|h
 .exact h.lt
 .exact h.lt
theorem yS(n:Int)(B:Nat)(w:World)(hn:fK n)(hT:ma B w) :
 kx 221 #[U O n] w (Y (mc n)):=by
 refine(Tryz.strconv_Itoa n hn.1 hn.2 w hT.here).mono ?_;rintro e w' ⟨rfl,k,os,rfl⟩;exact⟨rfl,Lib.below_grow _ w (Ic _) k os⟩
theorem tF{n:Int}(h:fK n):(mc n).size<=20:=by
 have hd:∀u:Nat,u<10^19->(Lib.decDigits u).length<=19:=λu hu=>by
  rw[Lib.decDigits_length];apply Classical.byContradiction;intro hc;have h1:∀(k u:Nat),Lib.nDigits u>=k+1->10^k<=u\/k=0:=by
   intro k;induction k with
   |zero=>intro u _;exact .inr rfl
   |succ k ih=>
    intro u hu;by_cases h10:u<10
    .rw[Lib.nDigits_small h10] at hu;omega
    .rw[Lib.nDigits_big h10] at hu
     rcases ih (u/10) (by omega) with h|h
     .left;rw[Nat.pow_succ];omega
     .subst h;left;omega
  rcases h1 19 u (by omega) with h|h
  .omega
  .cases h
 show(Qu n).toArray.size<=20;rw[JV];unfold Qu;obtain⟨h1,h2⟩:=h;split
 .rw[Iy];have:=hd n.natAbs (by omega);omega
 .have:=hd n.toNat (by omega);omega
theorem dH{n:Int}(h:fK n):(bk n).length<=21:=by
 unfold bk;rw[Ig,QT];have:=tF h;simp;omega
theorem eT:∀(ns:List Int),(∀n∈ns,fK n)->(ns.flatMap bk).length<=21*ns.length
 |[],_=>by simp
 |x::r,h=>by
  have h1:=dH (h x (by simp));have h2:=eT r (λn hn=>h n (by simp[hn]));rw[List.flatMap_cons,Ig,Iy];omega
theorem lQ(B b g cap:Nat)(ns:List Int)(cs:Array Value)(fz:Nat×Nat)(bs:List Value)(w:World)(h:cY B b bs w)(hlen:bs.length+21*ns.length<=900000)(gK:B<=w.heap.size)(hT:ma B w)(hg:w.heap[g]?=AI (AT cs 3 fz))(AW:g≠b)(b9:∀j,j<ns.length->cs[j]?=AI (U O (ns.getD j 0)))(hn:∀n∈ns,fK n) :
 aF 263 #[Ie (AI ⟨b,0,be⟩),J (AI ⟨g,0,be⟩) ns.length cap] w λe w'=>e=By (Ik #[])/\cY B b (bs++ns.flatMap bk) w'/\Kp B b w w':=by
 have HI:Hid (cY B b bs w):=h;have HG:Hid _:=hg;have HCS:Hid _:=b9;have HN:Hid _:=hn;have HT:Hid (ma B w):=hT;clear h hg b9 hn hT;generalize ri:ns.length=nl at *;have jZ:Hid _:=ri;have qm:Hid _:=hlen;have akt:nl<=50000:=by omega
 clear ri hlen;go_enter Tryz.func263,Tryz.ntmps263;go_wp2_with fail;go_loopw [8] (λi w'=>∃k:Nat,k<=nl/\i=U O k/\Hid (cY B b (bs++(ns.take k).flatMap bk) w')/\Hid (Kp B b w w')) (λi _=>nl-(intOf i).toNat)
 case atStart=>exact⟨0,Nat.zero_le _,rfl,by simpa using HI,Kp.refl _ _ _⟩
 case round=>
  obtain⟨k,hk,rfl,HW,HK⟩:=hrel;by_cases aW:k<nl
  .have LN:=HK.out.TD g _ HG.out (λe=>AW (by injection e)) (λc z e=>by injection e with _ e2 _;cases e2)
   have c0:=(ae LN k).trans (HCS.out k aW);have iH:k<ns.length:=by rw[jZ.out];exact aW
   have HNK:Hid (fK (ns.getD k 0)):=HN.out _ (by rw[show ns.getD k 0=ns[k] by simp[Ip,If iH]];exact IH _);have sI:Hid ((ns.take (k+1)).flatMap bk=(ns.take k).flatMap bk++(Oi (mc (ns.getD k 0))++[U .u8 59])):=by
    show List.flatMap bk _=_;rw[IF iH,List.flatMap_append];simp[bk,Ip,If iH]
   have CF:Hid ((bs++(ns.take k).flatMap bk).length+21<=1000000):=by
    have h1:=eT (ns.take k) (λn hn=>HN.out n (List.mem_of_mem_take hn));have h2:(ns.take k).length<=k:=List.length_take_le _ _;have:=qm.out;show(bs++(ns.take k).flatMap bk).length+21<=1000000;rw[Ig];omega
   generalize ns.getD k 0=n at *;generalize(ns.take k).flatMap bk=L at *;have HTR:Hid (ma B wr):=HT.out.below HK.out.jX;have yk:=Iq gK HK.out.size;have HIT:Hid (aF 221 #[U O n] wr.drew λe w'=>e=By (Y (mc n))/\Below wr.heap.size wr w'):=(yS n B wr.drew HNK.out (HTR.out.below (Ib _ _).drew)).mono (by
    rintro e w' ⟨rfl,hb⟩;exact⟨rfl,(Ib _ _).drew.trans hb⟩)
   have HSZ:Hid _:=tF HNK.out;have lR:Hid (∀W,Below wr.heap.size wr W->aF 284 #[Ie (AI ⟨b,0,be⟩),Y (mc n)] W λe w'=>e=By (Ik #[U O (mc n).size,.nilIface])/\Lx B b (Ie (AI ⟨b,0,be⟩)) (bs++L++Oi (mc n)) w'/\Kp B b wr w'):=λW hW=>by
    refine(l9 B b (bs++L) (mc n) W (HW.out.below hW) (by have:=CF.out;have:=HSZ.out;omega) (Iq yk hW.size)).mono ?_;rintro e w' ⟨rfl,h1,h2⟩;exact⟨rfl,h1,(Kp.cd hW yk).trans h2⟩
   clear LN;generalize mc n=s at *;go_upto_region 3 with fail
   go_region_with (first|(go_at_call 221;refine HIT.out.mono ?_;rintro e w1 ⟨rfl,aB⟩;have aV:Hid (Below wr.heap.size wr w1):=aB;clear aB)|(go_at_call 284;refine(lR.out w1 aV.out).mono ?_;rintro e w2 ⟨rfl,h2,aJ⟩;have DN:Hid (Lx B b (Ie (AI ⟨b,0,be⟩)) (bs++L++Oi s) w2):=h2;have oV:Hid (Kp B b wr w2):=aJ;clear h2 aJ))
   all_goals
    go_wp2_with fail;refine(uI B b _ 59 w2 (.inr DN.out) (by rw[Ig,QT];have:=CF.out;have:=HSZ.out;omega) (Iq yk oV.out.size)).mono ?_;rintro e w3 ⟨rfl,h3,bV⟩;have yQ:Hid (cY B b (bs++(L++(Oi s++[U .u8 59]))) w3):=(show cY _ _ _ _ by rw[<- Im,<- Im];exact .inr h3);have ui:Hid _:=HK.out.trans (oV.out.trans bV);clear h3 bV;go_wp2_with fail;go_roundw
    case rel=>exact⟨k+1,by omega,by go_num,by rw[sI.out];exact yQ,ui⟩
    case measure=>simp[intOf];omega
  .have fQ:k=nl:=by omega
   have rJ:Hid (cY B b (bs++ns.flatMap bk) wr):=by
    have h:=HW.out;rw[List.take_of_length_le (by rw[jZ.out];omega)] at h;exact h
   go_wp2_with fail;simp[JT,results,Tryz.results263];exact⟨rJ.out,HK.out⟩
def aY(s:ByteArray):List Value:=bk s.size++Oi s
def eH(y:Bool):List Value:=bk (if y=true then 1 else 0)
theorem cW{n:Nat}(h:n<=1000000):fK (n:Int):=⟨by omega,by omega⟩
theorem gr(B b:Nat)(s:ByteArray)(bs:List Value)(w:World)(h:cY B b bs w)(hlen:bs.length+s.size<=800000)(gK:B<=w.heap.size)(hT:ma B w) :
 aF 259 #[Ie (AI ⟨b,0,be⟩),Y s] w λe w'=>e=By (Ik #[])/\cY B b (bs++aY s) w'/\Kp B b w w':=by
 have hb:=h.lt;obtain⟨W1,cM,aB,-,cK⟩:=bW w #[U O (s.size:Int)] 3;have HN:Hid (aF 263 #[Ie (AI ⟨b,0,be⟩),J (AI ⟨w.heap.size,0,be⟩) 1 1] W1 λe w'=>e=By (Ik #[])/\cY B b (bs++bk s.size) w'/\Kp B b w w'):=by
  refine(lQ B b w.heap.size 1 [(s.size:Int)] _ _ bs W1 (h.below aB) (by simp;omega) (Iq gK aB.size) (hT.below (aB.mono gK)) cK (by omega) (λj hj=>?_) (λn hn=>?_)).mono ?_
  .have:j=0:=by simpa using hj
   subst this;rfl
  .simp at hn;rw[hn];exact cW (by omega)
  .rintro e w' ⟨rfl,h1,h2⟩
   exact⟨rfl,by simpa using h1,(Kp.cd aB gK).trans h2⟩
 have HL:Hid ((bs++bk s.size).length+s.size<=1000000):=by
  show(bs++bk s.size).length+s.size<=1000000;rw[Ig];have:=dH (cW (n:=s.size) (by omega));omega
 clear h cK aB hT;go_enter Tryz.func259,Tryz.ntmps259;go_wp2_with fail;rw[<- cM];refine HN.out.mono ?_;rintro e w1 ⟨rfl,h1,jq⟩;have nZ:Hid (cY _ _ _ _):=h1;have mo:Hid _:=jq;clear h1 jq cM;go_wp2_with fail;refine(l9 B b _ s w1 nZ.out HL.out (Iq gK mo.out.size)).mono ?_;rintro e w2 ⟨rfl,h2,jz⟩;have DN:Hid (cY B b (bs++aY s) w2):=(show cY _ _ _ _ by unfold aY;rw[<- Im];exact .inr h2);have oV:Hid _:=mo.out.trans jz;clear h2 jz;go_wp2_with fail;simp[JT,results,Tryz.results259];exact⟨DN.out,oV.out⟩
theorem nr(B b:Nat)(y:Bool)(bs:List Value)(w:World)(h:cY B b bs w)(hlen:bs.length<=800000)(gK:B<=w.heap.size)(hT:ma B w) :
 aF 260 #[Ie (AI ⟨b,0,be⟩),Ia y] w λe w'=>e=By (Ik #[])/\cY B b (bs++eH y) w'/\Kp B b w w':=by
 have hb:=h.lt;have HN:Hid (∀n:Int,(n=0\/n=1)->aF 263 #[Ie (AI ⟨b,0,be⟩),J (AI ⟨w.heap.size,0,be⟩) 1 1] (w.alloc (AT #[U O n] 3)) λe w'=>e=By (Ik #[])/\cY B b (bs++bk n) w'/\Kp B b w w'):=λn hn=>by
  have aB:Below w.heap.size w (w.alloc (AT #[U O n] 3)):=(Ib _ _).alloc (Ic _) _;refine(lQ B b w.heap.size 1 [n] _ _ bs _ (h.below aB) (by simp;omega) (Iq gK aB.size) (hT.below (aB.mono gK)) (Ih w _) (by omega) (λj hj=>?_) (λm hm=>?_)).mono ?_
  .have:j=0:=by simpa using hj
   subst this;rfl
  .simp at hm;rw[hm];rcases hn with rfl|rfl<;>exact⟨by omega,by omega⟩
  .rintro e w' ⟨rfl,h1,h2⟩
   exact⟨rfl,by simpa using h1,(Kp.cd aB gK).trans h2⟩
 clear h hT;cases y
 .have HF:Hid (bs++bk 0=bs++eH false):=rfl
  go_enter Tryz.func260,Tryz.ntmps260;go_wp2_with fail;refine(HN.out 0 (.inl rfl)).mono ?_;rintro e w1 ⟨rfl,h1,jq⟩;have nZ:Hid (cY _ _ _ _):=h1;have mo:Hid _:=jq;clear h1 jq;go_wp2_with fail;simp[JT,results,Tryz.results260];exact⟨nZ.out,mo.out⟩
 .go_enter Tryz.func260,Tryz.ntmps260
  go_wp2_with fail;refine(HN.out 1 (.inr rfl)).mono ?_;rintro e w1 ⟨rfl,h1,jq⟩;have nZ:Hid (cY _ _ _ _):=h1;have mo:Hid _:=jq;clear h1 jq;go_wp2_with fail;simp[JT,results,Tryz.results260];exact⟨nZ.out,mo.out⟩
theorem dI{s:ByteArray}(h:s.size<=1000):(aY s).length<=1100:=by
 unfold aY;rw[Ig,QT];have:=dH (cW (n:=s.size) (by omega));omega
theorem iO(y:Bool):(eH y).length<=1100:=by
 unfold eH;have:=dH (n:=if y=true then 1 else 0) (by split<;>exact⟨by omega,by omega⟩);omega
theorem gM(B b:Nat)(ns:List Int)(bs:List Value)(w:World)(h:cY B b bs w)(hlen:bs.length+21*ns.length<=900000)(gK:B<=w.heap.size)(hT:ma B w)(hn:∀n∈ns,fK n) :
 aF 263 #[Ie (AI ⟨b,0,be⟩),J (AI ⟨w.heap.size,0,be⟩) ns.length ns.length] (w.alloc (AT (ns.map (U O)).toArray 3)) λe w'=>e=By (Ik #[])/\cY B b (bs++ns.flatMap bk) w'/\Kp B b w w':=by
 have aB:Below w.heap.size w (w.alloc (AT (ns.map (U O)).toArray 3)):=(Ib _ _).alloc (Ic _) _;refine(lQ B b w.heap.size ns.length ns _ _ bs _ (h.below aB) hlen (Iq gK aB.size) (hT.below (aB.mono gK)) (Ih w _) (by have:=h.lt;omega) (λj hj=>?_) hn).mono ?_
 .simp[Ip,If hj]
 .rintro e w' ⟨rfl,h1,h2⟩
  exact⟨rfl,h1,(Kp.cd aB gK).trans h2⟩
theorem Kp.keeps{B b k:Nat}{w w':World}{cs:Array Value}{T:TypeId}{fz:Nat×Nat}(h:Kp B b w w')(hk:w.heap[k]?=AI (AT cs T fz))(aM:k≠b)(hT:T≠5):w'.heap[k]?=AI (AT cs T fz):=
 h.TD k _ hk (λe=>aM (by injection e)) (λc z e=>by injection e with _ e2 _;exact hT e2)
def dy(m:Mem):List Value:=aY m.name++[m.state,m.aI,m.addr].flatMap bk++eH m.server
def kb(m:Mem):Prop:=m.name.size<=1000/\fK m.state/\fK m.aI/\fK m.addr
theorem lE{m:Mem}(h:kb m):(dy m).length<=3300:=by
 unfold dy;obtain⟨h0,h1,h2,h3⟩:=h;have l0:=dI h0;have l1:=eT [m.state,m.aI,m.addr] (λn hn=>by simp only[IT,Jw,or_false] at hn;rcases hn with rfl|rfl|rfl<;>assumption);simp only[Iy,IW] at l1;have l2:=iO m.server;simp only[Ig];omega
theorem jN(B b wb:Nat)(m:Mem)(bs:List Value)(w:World)(h:cY B b bs w)(hlen:bs.length<=700000)(gK:B<=w.heap.size)(hT:ma B w)(mF:w.heap[wb]?=AI (AT #[Ie (AI ⟨b,0,be⟩)] 289 (0,0)))(aM:wb≠b)(hm:kb m) :
 aF 262 #[Ij #[Y m.name,U O m.state,U O m.aI,U O m.addr,Ia m.server],Ie (AI ⟨wb,0,be⟩)] w λe w'=>e=By (Ik #[])/\cY B b (bs++dy m) w'/\Kp B b w w':=by
 have Kl:Hid (dy m=aY m.name++[m.state,m.aI,m.addr].flatMap bk++eH m.server):=rfl;generalize dy m=EL at *;obtain⟨x0,x1,x2,x3,x4⟩:=m;obtain⟨h0,h1,h2,h3⟩:=hm;simp only at h0 h1 h2 h3 Kl ⊢;have kK:=h.lt;have Gb:=(BY.1 mF).1;obtain⟨W0,bJ⟩:∃W0,W0=w.alloc (AT #[Y x0,U O x1,U O x2,U O x3,Ia x4] 50):=⟨_,rfl⟩;have bM:Below w.heap.size w W0:=by rw[bJ];exact(Ib _ _).alloc (Ic _) _
 have uT:Kp B b w W0:=Kp.cd bM gK;have sJ:Hid (cY B b bs W0):=h.below bM;have wP:Hid _:=uT;have CG:Hid (W0.heap[w.heap.size]?=AI (AT #[Y x0,U O x1,U O x2,U O x3,Ia x4] 50 (0,0))):=by rw[bJ];exact Ih w _
 have da:Hid _:=(bM.block _ Gb).trans mF;have CH:Hid _:=hlen;have HT:Hid (ma B w):=hT;clear h bM uT mF hT hlen;go_enter Tryz.func262,Tryz.ntmps262;go_upto_region 1 with fail
 rw[<- bJ];clear bJ;have y0:=ae da.out 0;have z0:=ae CG.out 0;go_wp2_with fail;refine(gr B b x0 (bs) W0 sJ.out (by have:=CH.out;omega) (Iq gK wP.out.size) (HT.out.below wP.out.jX)).mono ?_;rintro e W1 ⟨rfl,hw,hk⟩;have nZ:Hid (cY _ _ _ _):=hw;have mo:Hid _:=wP.out.trans hk;have iM:Hid _:=hk.keeps CG.out (by omega) (by decide);have aV:Hid _:=hk.keeps da.out aM (by decide);have vA:Hid ((bs++aY x0).length<=701100):=by
  have g1:=CH.out;have g2:=dI h0;show Jt (bs++aY x0)<=_;rw[Ig];omega
 clear hw hk y0 z0;have y0:=ae aV.out 0;have z0:=ae iM.out 1;have z1:=ae iM.out 2;have z2:=ae iM.out 3;go_wp2_with fail;refine(gM B b [x1,x2,x3] (bs++aY x0) W1 nZ.out (by have:=vA.out;simp only[Iy,IW];omega) (Iq gK mo.out.size) (HT.out.below mo.out.jX) (λn hn=>by simp only[IT,Jw,or_false] at hn;rcases hn with rfl|rfl|rfl<;>assumption)).mono ?_;rintro e W2 ⟨rfl,hw,hk⟩;have DN:Hid (cY _ _ _ _):=hw;have oV:Hid _:=mo.out.trans hk;have si:Hid _:=hk.keeps iM.out (by omega) (by decide);have bp:Hid _:=hk.keeps aV.out aM (by decide);have uK:Hid ((bs++aY x0++[x1,x2,x3].flatMap bk).length<=702200):=by
  have g1:=vA.out;have g2:=eT [x1,x2,x3] (λn hn=>by simp only[IT,Jw,or_false] at hn;rcases hn with rfl|rfl|rfl<;>assumption);show Jt (bs++aY x0++[x1,x2,x3].flatMap bk)<=_;rw[Ig];simp only[Iy,IW] at g2;omega
 clear hw hk y0 z0 z1 z2;have y0:=ae bp.out 0;have z0:=ae si.out 4;go_wp2_with fail;refine(nr B b x4 (bs++aY x0++[x1,x2,x3].flatMap bk) W2 DN.out (by have:=uK.out;omega) (Iq gK oV.out.size) (HT.out.below oV.out.jX)).mono ?_;rintro e W3 ⟨rfl,hw,hk⟩;have yQ:Hid (cY _ _ _ _):=hw;have ui:Hid _:=oV.out.trans hk;have TG:Hid _:=hk.keeps si.out (by omega) (by decide);have cj:Hid _:=hk.keeps bp.out aM (by decide);have TH:Hid ((bs++aY x0++[x1,x2,x3].flatMap bk++eH x4).length<=703300):=by
  have g1:=uK.out;have g2:=iO x4;show Jt (bs++aY x0++[x1,x2,x3].flatMap bk++eH x4)<=_;rw[Ig];omega
 clear hw hk y0 z0;have rJ:Hid (cY B b (bs++EL) W3):=by
  have h:=yQ.out;rw[Kl.out];simp only[Im] at h ⊢;exact h
 go_wp2_with fail;simp[JT,results,Tryz.results262];exact⟨rJ.out,ui.out⟩
def Sv.dy(m:Sv.aT):List Value:=aY m.node++aY m.bu++aY m.name++aY m.tag++[m.addr,m.port].flatMap bk++eH m.aj++[m.version].flatMap bk++eH m.gone
def Sv.kb(m:Sv.aT):Prop:=m.node.size<=1000/\m.bu.size<=1000/\m.name.size<=1000/\m.tag.size<=1000/\fK m.addr/\fK m.port/\fK m.version
theorem Sv.lE{m:Sv.aT}(h:Sv.kb m):(Sv.dy m).length<=8800:=by
 unfold Sv.dy;obtain⟨h0,h1,h2,h3,h4,h5,h6⟩:=h;have l0:=dI h0;have l1:=dI h1;have l2:=dI h2;have l3:=dI h3;have l4:=eT [m.addr,m.port] (λn hn=>by simp only[IT,Jw,or_false] at hn;rcases hn with rfl|rfl<;>assumption);simp only[Iy,IW] at l4;have l5:=iO m.aj;have l6:=eT [m.version] (λn hn=>by simp only[IT,Jw,or_false] at hn;rcases hn with rfl<;>assumption);simp only[Iy,IW] at l6;have l7:=iO m.gone;simp only[Ig];omega
theorem Sv.jN(B b wb:Nat)(m:Sv.aT)(bs:List Value)(w:World)(h:cY B b bs w)(hlen:bs.length<=700000)(gK:B<=w.heap.size)(hT:ma B w)(mF:w.heap[wb]?=AI (AT #[Ie (AI ⟨b,0,be⟩)] 289 (0,0)))(aM:wb≠b)(hm:Sv.kb m) :
 aF 265 #[Ij #[Y m.node,Y m.bu,Y m.name,Y m.tag,U O m.addr,U O m.port,Ia m.aj,U O m.version,Ia m.gone],Ie (AI ⟨wb,0,be⟩)] w λe w'=>e=By (Ik #[])/\cY B b (bs++Sv.dy m) w'/\Kp B b w w':=by
 have Kl:Hid (Sv.dy m=aY m.node++aY m.bu++aY m.name++aY m.tag++[m.addr,m.port].flatMap bk++eH m.aj++[m.version].flatMap bk++eH m.gone):=rfl;generalize Sv.dy m=EL at *;obtain⟨x0,x1,x2,x3,x4,x5,x6,x7,x8⟩:=m;obtain⟨h0,h1,h2,h3,h4,h5,h6⟩:=hm;simp only at h0 h1 h2 h3 h4 h5 h6 Kl ⊢;have kK:=h.lt;have Gb:=(BY.1 mF).1;obtain⟨W0,bJ⟩:∃W0,W0=w.alloc (AT #[Y x0,Y x1,Y x2,Y x3,U O x4,U O x5,Ia x6,U O x7,Ia x8] 46):=⟨_,rfl⟩;have bM:Below w.heap.size w W0:=by rw[bJ];exact(Ib _ _).alloc (Ic _) _
 have uT:Kp B b w W0:=Kp.cd bM gK;have sJ:Hid (cY B b bs W0):=h.below bM;have wP:Hid _:=uT;have CG:Hid (W0.heap[w.heap.size]?=AI (AT #[Y x0,Y x1,Y x2,Y x3,U O x4,U O x5,Ia x6,U O x7,Ia x8] 46 (0,0))):=by rw[bJ];exact Ih w _
 have da:Hid _:=(bM.block _ Gb).trans mF;have CH:Hid _:=hlen;have HT:Hid (ma B w):=hT;clear h bM uT mF hT hlen;go_enter Tryz.func265,Tryz.ntmps265;go_upto_region 1 with fail
 rw[<- bJ];clear bJ;have y0:=ae da.out 0;have z0:=ae CG.out 0;go_wp2_with fail;refine(gr B b x0 (bs) W0 sJ.out (by have:=CH.out;omega) (Iq gK wP.out.size) (HT.out.below wP.out.jX)).mono ?_;rintro e W1 ⟨rfl,hw,hk⟩;have nZ:Hid (cY _ _ _ _):=hw;have mo:Hid _:=wP.out.trans hk;have iM:Hid _:=hk.keeps CG.out (by omega) (by decide);have aV:Hid _:=hk.keeps da.out aM (by decide);have vA:Hid ((bs++aY x0).length<=701100):=by
  have g1:=CH.out;have g2:=dI h0;show Jt (bs++aY x0)<=_;rw[Ig];omega
 clear hw hk y0 z0;have y0:=ae aV.out 0;have z0:=ae iM.out 1;go_wp2_with fail;refine(gr B b x1 (bs++aY x0) W1 nZ.out (by have:=vA.out;omega) (Iq gK mo.out.size) (HT.out.below mo.out.jX)).mono ?_;rintro e W2 ⟨rfl,hw,hk⟩;have DN:Hid (cY _ _ _ _):=hw;have oV:Hid _:=mo.out.trans hk;have si:Hid _:=hk.keeps iM.out (by omega) (by decide);have bp:Hid _:=hk.keeps aV.out aM (by decide);have uK:Hid ((bs++aY x0++aY x1).length<=702200):=by
  have g1:=vA.out;have g2:=dI h1;show Jt (bs++aY x0++aY x1)<=_;rw[Ig];omega
 clear hw hk y0 z0;have y0:=ae bp.out 0;have z0:=ae si.out 2;go_wp2_with fail;refine(gr B b x2 (bs++aY x0++aY x1) W2 DN.out (by have:=uK.out;omega) (Iq gK oV.out.size) (HT.out.below oV.out.jX)).mono ?_;rintro e W3 ⟨rfl,hw,hk⟩;have yQ:Hid (cY _ _ _ _):=hw;have ui:Hid _:=oV.out.trans hk;have TG:Hid _:=hk.keeps si.out (by omega) (by decide);have cj:Hid _:=hk.keeps bp.out aM (by decide);have TH:Hid ((bs++aY x0++aY x1++aY x2).length<=703300):=by
  have g1:=uK.out;have g2:=dI h2;show Jt (bs++aY x0++aY x1++aY x2)<=_;rw[Ig];omega
 clear hw hk y0 z0;have y0:=ae cj.out 0;have z0:=ae TG.out 3;go_wp2_with fail;refine(gr B b x3 (bs++aY x0++aY x1++aY x2) W3 yQ.out (by have:=TH.out;omega) (Iq gK ui.out.size) (HT.out.below ui.out.jX)).mono ?_;rintro e W4 ⟨rfl,hw,hk⟩;have HW4:Hid (cY _ _ _ _):=hw;have DO:Hid _:=ui.out.trans hk;have TI:Hid _:=hk.keeps TG.out (by omega) (by decide);have eP:Hid _:=hk.keeps cj.out aM (by decide);have Rn:Hid ((bs++aY x0++aY x1++aY x2++aY x3).length<=704400):=by
  have g1:=TH.out;have g2:=dI h3;show Jt (bs++aY x0++aY x1++aY x2++aY x3)<=_;rw[Ig];omega
 clear hw hk y0 z0;have y0:=ae eP.out 0;have z0:=ae TI.out 4;have z1:=ae TI.out 5;go_wp2_with fail;refine(gM B b [x4,x5] (bs++aY x0++aY x1++aY x2++aY x3) W4 HW4.out (by have:=Rn.out;simp only[Iy,IW];omega) (Iq gK DO.out.size) (HT.out.below DO.out.jX) (λn hn=>by simp only[IT,Jw,or_false] at hn;rcases hn with rfl|rfl<;>assumption)).mono ?_;rintro e W5 ⟨rfl,hw,hk⟩;have Pg:Hid (cY _ _ _ _):=hw;have AP:Hid _:=DO.out.trans hk;have Vr:Hid _:=hk.keeps TI.out (by omega) (by decide);have gE:Hid _:=hk.keeps eP.out aM (by decide);have Vs:Hid ((bs++aY x0++aY x1++aY x2++aY x3++[x4,x5].flatMap bk).length<=705500):=by
  have g1:=Rn.out;have g2:=eT [x4,x5] (λn hn=>by simp only[IT,Jw,or_false] at hn;rcases hn with rfl|rfl<;>assumption);show Jt (bs++aY x0++aY x1++aY x2++aY x3++[x4,x5].flatMap bk)<=_;rw[Ig];simp only[Iy,IW] at g2;omega
 clear hw hk y0 z0 z1;have y0:=ae gE.out 0;have z0:=ae Vr.out 6;go_wp2_with fail;refine(nr B b x6 (bs++aY x0++aY x1++aY x2++aY x3++[x4,x5].flatMap bk) W5 Pg.out (by have:=Vs.out;omega) (Iq gK AP.out.size) (HT.out.below AP.out.jX)).mono ?_;rintro e W6 ⟨rfl,hw,hk⟩;have HW6:Hid (cY _ _ _ _):=hw;have Vt:Hid _:=AP.out.trans hk;have HX6:Hid _:=hk.keeps Vr.out (by omega) (by decide);have rK:Hid _:=hk.keeps gE.out aM (by decide);have HL6:Hid ((bs++aY x0++aY x1++aY x2++aY x3++[x4,x5].flatMap bk++eH x6).length<=706600):=by
  have g1:=Vs.out;have g2:=iO x6;show Jt (bs++aY x0++aY x1++aY x2++aY x3++[x4,x5].flatMap bk++eH x6)<=_;rw[Ig];omega
 clear hw hk y0 z0;have y0:=ae rK.out 0;have z0:=ae HX6.out 7;go_wp2_with fail;refine(gM B b [x7] (bs++aY x0++aY x1++aY x2++aY x3++[x4,x5].flatMap bk++eH x6) W6 HW6.out (by have:=HL6.out;simp only[Iy,IW];omega) (Iq gK Vt.out.size) (HT.out.below Vt.out.jX) (λn hn=>by simp only[IT,Jw,or_false] at hn;rcases hn with rfl<;>assumption)).mono ?_;rintro e W7 ⟨rfl,hw,hk⟩;have HW7:Hid (cY _ _ _ _):=hw;have MF:Hid _:=Vt.out.trans hk;have HX7:Hid _:=hk.keeps HX6.out (by omega) (by decide);have DW:Hid _:=hk.keeps rK.out aM (by decide);have HL7:Hid ((bs++aY x0++aY x1++aY x2++aY x3++[x4,x5].flatMap bk++eH x6++[x7].flatMap bk).length<=707700):=by
  have g1:=HL6.out;have g2:=eT [x7] (λn hn=>by simp only[IT,Jw,or_false] at hn;rcases hn with rfl<;>assumption);show Jt (bs++aY x0++aY x1++aY x2++aY x3++[x4,x5].flatMap bk++eH x6++[x7].flatMap bk)<=_;rw[Ig];simp only[Iy,IW] at g2;omega
 clear hw hk y0 z0;have y0:=ae DW.out 0;have z0:=ae HX7.out 8;go_wp2_with fail;refine(nr B b x8 (bs++aY x0++aY x1++aY x2++aY x3++[x4,x5].flatMap bk++eH x6++[x7].flatMap bk) W7 HW7.out (by have:=HL7.out;omega) (Iq gK MF.out.size) (HT.out.below MF.out.jX)).mono ?_;rintro e W8 ⟨rfl,hw,hk⟩;have HW8:Hid (cY _ _ _ _):=hw;have HK8:Hid _:=MF.out.trans hk;have HX8:Hid _:=hk.keeps HX7.out (by omega) (by decide);have HB8:Hid _:=hk.keeps DW.out aM (by decide);have HL8:Hid ((bs++aY x0++aY x1++aY x2++aY x3++[x4,x5].flatMap bk++eH x6++[x7].flatMap bk++eH x8).length<=708800):=by
  have g1:=HL7.out;have g2:=iO x8;show Jt (bs++aY x0++aY x1++aY x2++aY x3++[x4,x5].flatMap bk++eH x6++[x7].flatMap bk++eH x8)<=_;rw[Ig];omega
 clear hw hk y0 z0;have rJ:Hid (cY B b (bs++EL) W8):=by
  have h:=HW8.out;rw[Kl.out];simp only[Im] at h ⊢;exact h
 go_wp2_with fail;simp[JT,results,Tryz.results265];exact⟨rJ.out,HK8.out⟩
def Gw.dy(m:Gw.bK):List Value:=aY m.aD++[m.addr,m.version].flatMap bk
def Gw.kb(m:Gw.bK):Prop:=m.aD.size<=1000/\fK m.addr/\fK m.version
theorem Gw.lE{m:Gw.bK}(h:Gw.kb m):(Gw.dy m).length<=2200:=by
 unfold Gw.dy;obtain⟨h0,h1,h2⟩:=h;have l0:=dI h0;have l1:=eT [m.addr,m.version] (λn hn=>by simp only[IT,Jw,or_false] at hn;rcases hn with rfl|rfl<;>assumption);simp only[Iy,IW] at l1;simp only[Ig];omega
theorem Gw.jN(B b wb:Nat)(m:Gw.bK)(bs:List Value)(w:World)(h:cY B b bs w)(hlen:bs.length<=700000)(gK:B<=w.heap.size)(hT:ma B w)(mF:w.heap[wb]?=AI (AT #[Ie (AI ⟨b,0,be⟩)] 289 (0,0)))(aM:wb≠b)(hm:Gw.kb m) :
 aF 267 #[Ij #[Y m.aD,U O m.addr,U O m.version],Ie (AI ⟨wb,0,be⟩)] w λe w'=>e=By (Ik #[])/\cY B b (bs++Gw.dy m) w'/\Kp B b w w':=by
 have Kl:Hid (Gw.dy m=aY m.aD++[m.addr,m.version].flatMap bk):=rfl;generalize Gw.dy m=EL at *;obtain⟨x0,x1,x2⟩:=m;obtain⟨h0,h1,h2⟩:=hm;simp only at h0 h1 h2 Kl ⊢;have kK:=h.lt;have Gb:=(BY.1 mF).1;obtain⟨W0,bJ⟩:∃W0,W0=w.alloc (AT #[Y x0,U O x1,U O x2] 77):=⟨_,rfl⟩;have bM:Below w.heap.size w W0:=by rw[bJ];exact(Ib _ _).alloc (Ic _) _
 have uT:Kp B b w W0:=Kp.cd bM gK;have sJ:Hid (cY B b bs W0):=h.below bM;have wP:Hid _:=uT;have CG:Hid (W0.heap[w.heap.size]?=AI (AT #[Y x0,U O x1,U O x2] 77 (0,0))):=by rw[bJ];exact Ih w _
 have da:Hid _:=(bM.block _ Gb).trans mF;have CH:Hid _:=hlen;have HT:Hid (ma B w):=hT;clear h bM uT mF hT hlen;go_enter Tryz.func267,Tryz.ntmps267;go_upto_region 1 with fail
 rw[<- bJ];clear bJ;have y0:=ae da.out 0;have z0:=ae CG.out 0;go_wp2_with fail;refine(gr B b x0 (bs) W0 sJ.out (by have:=CH.out;omega) (Iq gK wP.out.size) (HT.out.below wP.out.jX)).mono ?_;rintro e W1 ⟨rfl,hw,hk⟩;have nZ:Hid (cY _ _ _ _):=hw;have mo:Hid _:=wP.out.trans hk;have iM:Hid _:=hk.keeps CG.out (by omega) (by decide);have aV:Hid _:=hk.keeps da.out aM (by decide);have vA:Hid ((bs++aY x0).length<=701100):=by
  have g1:=CH.out;have g2:=dI h0;show Jt (bs++aY x0)<=_;rw[Ig];omega
 clear hw hk y0 z0;have y0:=ae aV.out 0;have z0:=ae iM.out 1;have z1:=ae iM.out 2;go_wp2_with fail;refine(gM B b [x1,x2] (bs++aY x0) W1 nZ.out (by have:=vA.out;simp only[Iy,IW];omega) (Iq gK mo.out.size) (HT.out.below mo.out.jX) (λn hn=>by simp only[IT,Jw,or_false] at hn;rcases hn with rfl|rfl<;>assumption)).mono ?_;rintro e W2 ⟨rfl,hw,hk⟩;have DN:Hid (cY _ _ _ _):=hw;have oV:Hid _:=mo.out.trans hk;have si:Hid _:=hk.keeps iM.out (by omega) (by decide);have bp:Hid _:=hk.keeps aV.out aM (by decide);have uK:Hid ((bs++aY x0++[x1,x2].flatMap bk).length<=702200):=by
  have g1:=vA.out;have g2:=eT [x1,x2] (λn hn=>by simp only[IT,Jw,or_false] at hn;rcases hn with rfl|rfl<;>assumption);show Jt (bs++aY x0++[x1,x2].flatMap bk)<=_;rw[Ig];simp only[Iy,IW] at g2;omega
 clear hw hk y0 z0 z1;have rJ:Hid (cY B b (bs++EL) W2):=by
  have h:=DN.out;rw[Kl.out];simp only[Im] at h ⊢;exact h
 go_wp2_with fail;simp[JT,results,Tryz.results267];exact⟨rJ.out,oV.out⟩
def Wh.dy(m:Wh.bE):List Value:=aY m.node++[m.x,m.y,m.z,m.h,m.s].flatMap bk
def Wh.kb(m:Wh.bE):Prop:=m.node.size<=1000/\fK m.x/\fK m.y/\fK m.z/\fK m.h/\fK m.s
theorem Wh.lE{m:Wh.bE}(h:Wh.kb m):(Wh.dy m).length<=2200:=by
 unfold Wh.dy;obtain⟨h0,h1,h2,h3,h4,h5⟩:=h;have l0:=dI h0;have l1:=eT [m.x,m.y,m.z,m.h,m.s] (λn hn=>by simp only[IT,Jw,or_false] at hn;rcases hn with rfl|rfl|rfl|rfl|rfl<;>assumption);simp only[Iy,IW] at l1;simp only[Ig];omega
theorem Wh.jN(B b wb:Nat)(m:Wh.bE)(bs:List Value)(w:World)(h:cY B b bs w)(hlen:bs.length<=700000)(gK:B<=w.heap.size)(hT:ma B w)(mF:w.heap[wb]?=AI (AT #[Ie (AI ⟨b,0,be⟩)] 289 (0,0)))(aM:wb≠b)(hm:Wh.kb m) :
 aF 269 #[Ij #[Y m.node,U O m.x,U O m.y,U O m.z,U O m.h,U O m.s],Ie (AI ⟨wb,0,be⟩)] w λe w'=>e=By (Ik #[])/\cY B b (bs++Wh.dy m) w'/\Kp B b w w':=by
 have Kl:Hid (Wh.dy m=aY m.node++[m.x,m.y,m.z,m.h,m.s].flatMap bk):=rfl;generalize Wh.dy m=EL at *;obtain⟨x0,x1,x2,x3,x4,x5⟩:=m;obtain⟨h0,h1,h2,h3,h4,h5⟩:=hm;simp only at h0 h1 h2 h3 h4 h5 Kl ⊢;have kK:=h.lt;have Gb:=(BY.1 mF).1;obtain⟨W0,bJ⟩:∃W0,W0=w.alloc (AT #[Y x0,U O x1,U O x2,U O x3,U O x4,U O x5] 116):=⟨_,rfl⟩;have bM:Below w.heap.size w W0:=by rw[bJ];exact(Ib _ _).alloc (Ic _) _
 have uT:Kp B b w W0:=Kp.cd bM gK;have sJ:Hid (cY B b bs W0):=h.below bM;have wP:Hid _:=uT;have CG:Hid (W0.heap[w.heap.size]?=AI (AT #[Y x0,U O x1,U O x2,U O x3,U O x4,U O x5] 116 (0,0))):=by rw[bJ];exact Ih w _
 have da:Hid _:=(bM.block _ Gb).trans mF;have CH:Hid _:=hlen;have HT:Hid (ma B w):=hT;clear h bM uT mF hT hlen;go_enter Tryz.func269,Tryz.ntmps269;go_upto_region 1 with fail
 rw[<- bJ];clear bJ;have y0:=ae da.out 0;have z0:=ae CG.out 0;go_wp2_with fail;refine(gr B b x0 (bs) W0 sJ.out (by have:=CH.out;omega) (Iq gK wP.out.size) (HT.out.below wP.out.jX)).mono ?_;rintro e W1 ⟨rfl,hw,hk⟩;have nZ:Hid (cY _ _ _ _):=hw;have mo:Hid _:=wP.out.trans hk;have iM:Hid _:=hk.keeps CG.out (by omega) (by decide);have aV:Hid _:=hk.keeps da.out aM (by decide);have vA:Hid ((bs++aY x0).length<=701100):=by
  have g1:=CH.out;have g2:=dI h0;show Jt (bs++aY x0)<=_;rw[Ig];omega
 clear hw hk y0 z0;have y0:=ae aV.out 0;have z0:=ae iM.out 1;have z1:=ae iM.out 2;have z2:=ae iM.out 3;have z3:=ae iM.out 4;have z4:=ae iM.out 5;go_wp2_with fail;refine(gM B b [x1,x2,x3,x4,x5] (bs++aY x0) W1 nZ.out (by have:=vA.out;simp only[Iy,IW];omega) (Iq gK mo.out.size) (HT.out.below mo.out.jX) (λn hn=>by simp only[IT,Jw,or_false] at hn;rcases hn with rfl|rfl|rfl|rfl|rfl<;>assumption)).mono ?_;rintro e W2 ⟨rfl,hw,hk⟩;have DN:Hid (cY _ _ _ _):=hw;have oV:Hid _:=mo.out.trans hk;have si:Hid _:=hk.keeps iM.out (by omega) (by decide);have bp:Hid _:=hk.keeps aV.out aM (by decide);have uK:Hid ((bs++aY x0++[x1,x2,x3,x4,x5].flatMap bk).length<=702200):=by
  have g1:=vA.out;have g2:=eT [x1,x2,x3,x4,x5] (λn hn=>by simp only[IT,Jw,or_false] at hn;rcases hn with rfl|rfl|rfl|rfl|rfl<;>assumption);show Jt (bs++aY x0++[x1,x2,x3,x4,x5].flatMap bk)<=_;rw[Ig];simp only[Iy,IW] at g2;omega
 clear hw hk y0 z0 z1 z2 z3 z4;have rJ:Hid (cY B b (bs++EL) W2):=by
  have h:=DN.out;rw[Kl.out];simp only[Im] at h ⊢;exact h
 go_wp2_with fail;simp[JT,results,Tryz.results269];exact⟨rJ.out,oV.out⟩
end Go.Proofs.YtfidhgjmifendaaGreatDoor
