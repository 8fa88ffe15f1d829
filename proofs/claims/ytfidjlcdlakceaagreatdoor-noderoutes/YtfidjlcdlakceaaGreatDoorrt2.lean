import Derived.Test.YtfidjlcdlakceaaGreatDoorrt1
set_option maxHeartbeats 1000000
set_option maxRecDepth 100000
open Bool renaming and_eq_true→IJ
open List renaming pairwise_cons→JF,getD→Io,getElem?_eq_getElem→Ic,length_append→Ij,length_cons→I5,mem_flatMap→ON,getElem?_append_left→Jt,getElem?_append_right→Jz,eq_nil_of_length_eq_zero→IX,getElem?_take_of_lt→IL,getElem_of_mem→Jp,getElem_mem→IQ,getElem?_eq_none→IK,length_take→IA,append_assoc→Jf
open Nat renaming lt_or_eq_of_le→Ui,le_refl→By,lt_of_lt_of_le→Iu,le_trans→Ir,le_of_not_lt→Qy
open ByteArray renaming empty→If
open Go renaming maxLen→Ii,cell_regrown→Iq,info_parts→Jd
open Go.Value renaming string→I,int→O,slice→U,agg→Ip,bool→AT
open Go.IntKind renaming i64→J,wrap_i64→IN
open Option renaming none→Y,some→Z
open Array renaming getElem?_eq_some_iff→Ib,length_toList→Jh
open Go.World.ownsRow renaming lt→IY,stored→JW
open Go.World renaming ownsRow_nil→Jj,frozen?→Ih
open Go.Obj renaming cells→AI
open Go.Proofs.Tryz renaming prog→be,underlying22→JU,underlying3→Iz
namespace Go.Proofs.YtfidjlcdlakceaaGreatDoor
namespace RL
section
variable {α:Type}
structure Keyed(o:α->α->Int):Prop where
 refl:∀a,o a a=0
 gt:∀a b,0<o a b↔o b a<0
 trans:∀a b c,o a b<0->o b c<0->o a c<0
 left:∀a b c,o a b=0->o a c=o b c
 right:∀a b c,o a b=0->o c a=o c b
theorem Keyed.symm{o:α->α->Int}(h:Keyed o){a b:α}(e:o a b=0):o b a=0:=by
 have h1:=h.gt a b;have h2:=h.gt b a;rcases Int.lt_trichotomy (o b a) 0 with hl|he|hg
 .have:=h1.2 hl;omega
 .exact he
 .have:=h2.1 hg;omega
theorem Keyed.eqt{o:α->α->Int}(h:Keyed o){a b c:α}(e:o a b=0)(f:o b c=0):o a c=0:=by rw[h.left a b c e];exact f
variable (o:α→α→Int) (nw:α→α→Bool) (d:α)
abbrev dt(ms:List α):Prop:=ms.Pairwise λa b=>o a b<0
def aC:List α->Bool
 |[]=>true
 |[_]=>true
 |a::b::r=>decide (o a b<0)&&aC (b::r)
theorem kd(hk:Keyed o):∀ms:List α,aC o ms=true->dt o ms
 |[],_=>.nil
 |[x],_=>by simp[dt]
 |a::b::r,h=>by
  rw[aC,IJ,decide_eq_true_eq] at h;have ih:=kd hk (b::r) h.2;refine JF.2 ⟨λc hc=>?_,ih⟩;rcases List.mem_cons.1 hc with rfl|hc
  .exact h.1
  .exact hk.trans _ _ _ h.1 (List.rel_of_pairwise_cons ih hc)
theorem fF:∀ms:List α,(∀j,j+1<ms.length->o (ms.getD j d) (ms.getD (j+1) d)<0)->aC o ms=true
 |[],_=>rfl
 |[x],_=>rfl
 |a::b::r,h=>by
  rw[aC,IJ,decide_eq_true_eq];refine⟨by have:=h 0 (by simp);simpa using this,fF (b::r) λj hj=>?_⟩;have:=h (j+1) (by simpa using hj);simpa using this
theorem fG:∀ms:List α,aC o ms=true->∀j,j+1<ms.length->o (ms.getD j d) (ms.getD (j+1) d)<0
 |[],_,j,hj=>by simp at hj
 |[x],_,j,hj=>by simp at hj
 |a::b::r,h,0,_=>by
  rw[aC,IJ,decide_eq_true_eq] at h;simpa using h.1
 |a::b::r,h,j+1,hj=>by
  rw[aC,IJ,decide_eq_true_eq] at h;have:=fG (b::r) h.2 j (by simpa using hj);simpa using this
theorem rK{ms:List α}{i:Nat}(h:i<ms.length):ms.getD i d=ms[i]:=by simp[Io,Ic h]
theorem wH{ms:List α}(h:dt o ms){i j:Nat}(kR:i<j)(hj:j<ms.length):o (ms.getD i d) (ms.getD j d)<0:=by
 rw[rK d (show i<ms.length by omega),rK d hj];exact List.pairwise_iff_getElem.1 h i j (by omega) hj kR
theorem gk(hk:Keyed o){ms:List α}(h:dt o ms)(t:α):∀i j,i<=j->j<ms.length->o (ms.getD j d) t<0->o (ms.getD i d) t<0:=by
 intro i j kR hj aB;rcases Ui kR with Vo|rfl
 .exact hk.trans _ _ _ (wH o d h Vo hj) aB
 .exact aB
structure At(ms:List α)(t:α)(p:Nat)(f:Bool):Prop where
 le:p<=ms.length
 lo:∀j,j<p->o (ms.getD j d) t<0
 hi:∀j,p<=j->j<ms.length->0<=o (ms.getD j d) t
 is:f=true↔p<ms.length/\o (ms.getD p d) t=0
theorem Ba(hk:Keyed o)(ms:List α)(hr:dt o ms)(t:α):∃p f,At o d ms t p f:=by
 induction ms with
 |nil=>exact⟨0,false,by simp,λj h=>by omega,λj h h2=>by simp at h2,by simp⟩
 |cons x r ih=>
  have hx:=JF.1 hr;by_cases aB:o x t<0
  .obtain⟨p,f,h⟩:=ih hx.2
   refine⟨p+1,f,by have:=h.le;simpa using this,λj hj=>?_,λj hj hl=>?_,by have:=h.is;simpa using this⟩
   .cases j with
    |zero=>simpa using aB
    |succ j=>have:=h.lo j (by omega);simpa using this
   .cases j with
    |zero=>omega
    |succ j=>have:=h.hi j (by omega) (by simpa using hl);simpa using this
  .refine⟨0,decide (o x t=0),by simp,λj hj=>by omega,λj _ hl=>?_,by simp⟩
   apply Int.not_lt.1;intro hq;have:=gk o d hk hr t 0 j (by omega) hl hq;simp at this;omega
theorem j4{ms:List α}{t:α}{p q:Nat}{f e:Bool}(h:At o d ms t p f)(k:At o d ms t q e):p=q/\f=e:=by
 have hpq:p=q:=by
  rcases Nat.lt_trichotomy p q with aB|rfl|aB
  .have h1:=k.lo p aB
   have h2:=h.hi p (By _) (by have:=k.le;omega);omega
  .rfl
  .have h1:=h.lo q aB
   have h2:=k.hi q (By _) (by have:=h.le;omega);omega
 subst hpq;refine⟨rfl,?_⟩;rw[Bool.eq_iff_iff,h.is,k.is]
theorem aai{ms:List α}(hk:Keyed o)(hr:dt o ms){t:α}{k:Nat}(hl:k<ms.length)(he:o (ms.getD k d) t=0):At o d ms t k true:=by
 refine⟨by omega,λj hj=>?_,λj hj MW=>?_,⟨λ_=>⟨hl,he⟩,λ_=>rfl⟩⟩
 .rw[<- hk.right _ _ (ms.getD j d) he]
  exact wH o d hr hj hl
 .rcases Ui hj with h|rfl
  .rw[<- hk.right _ _ (ms.getD j d) he]
   have:=(hk.gt (ms.getD j d) (ms.getD k d)).2 (wH o d hr h MW);omega
  .omega
def Vp:List α->α->List α
 |[],m=>[m]
 |x::r,m=>if o x m<0 then x::Vp r m else if o x m=0 then(if nw m x=true then m::r else x::r) else m::x::r
def join(a b:List α):List α:=b.foldl (Vp o nw) a
end
end RL
namespace Wh
open Go.RowKit
structure cd where
 node:ByteArray
 x:Int
 y:Int
 z:Int
 h:Int
 s:Int
def dm:cd:=⟨If,0,0,0,0,0⟩
def cd.ok(m:cd):Prop:=m.node.size<=Ii
theorem nY:dm.ok:=by simp[cd.ok,dm]
abbrev As(w:World)(b o:Nat)(m:cd):Prop:=w.cell? ⟨b,o,Y⟩=Z (I m.node)/\w.cell? ⟨b,o+1,Y⟩=Z (O J m.x)/\w.cell? ⟨b,o+2,Y⟩=Z (O J m.y)/\w.cell? ⟨b,o+3,Y⟩=Z (O J m.z)/\w.cell? ⟨b,o+4,Y⟩=Z (O J m.h)/\w.cell? ⟨b,o+5,Y⟩=Z (O J m.s)
theorem As.eq{w w':World}{b o:Nat}{m:cd}(h:As w b o m)(e:∀o,w'.cell? ⟨b,o,Y⟩=w.cell? ⟨b,o,Y⟩):As w' b o m:=by
 obtain⟨c0,c1,c2,c3,c4,c5⟩:=h;exact⟨(e _).trans c0,(e _).trans c1,(e _).trans c2,(e _).trans c3,(e _).trans c4,(e _).trans c5⟩
def Row(w:World)(b off:Nat)(ms:List cd):Prop:=∀j,j<ms.length->As w b (off+j*6) (ms.getD j dm)
def Sl(w:World)(v:Value)(ms:List cd):Prop:=
 ∃(a:Option Addr) (cap:Nat),v=U a ms.length cap/\(∀j,(ms.getD j dm).ok) /\
  (ms=[]\/∃b off,a=Z ⟨b,off,Y⟩/\b<w.heap.size/\Row w b off ms)
def cd.cs(m:cd):List Value:=[I m.node,O J m.x,O J m.y,O J m.z,O J m.h,O J m.s]
def fl(ms:List cd):List Value:=ms.flatMap cd.cs
theorem bL(m:cd):m.cs.length=6:=rfl
theorem bJ(m:cd)(r:List cd):fl (m::r)=m.cs++fl r:=by simp[fl]
theorem cS:∀ms:List cd,(fl ms).length=ms.length*6
 |[]=>rfl
 |m::r=>by rw[bJ,Ij,cS r,bL,I5];omega
theorem da(m:cd):∀v∈m.cs,v.oneCell'=true:=by
 intro v hv;simp[cd.cs] at hv;rcases hv with rfl|rfl|rfl|rfl|rfl|rfl<;>rfl
theorem fL(ms:List cd):∀v∈fl ms,v.oneCell'=true:=by
 intro v hv;obtain⟨m,_,h⟩:=ON.1 hv;exact da m v h
theorem eD(ms:List cd)(j:Nat)(hj:j<ms.length)(t:Nat)(ht:t<6):(fl ms)[j*6+t]?=(ms.getD j dm).cs[t]?:=by
 induction ms generalizing j with
 |nil=>simp at hj
 |cons m r ih=>
  rw[bJ];cases j with
  |zero=>rw[Jt (by rw[bL];omega)];simp
  |succ j=>
   rw[Jz (by rw[bL];omega),bL,show(j+1)*6+t-6=j*6+t by omega,ih j (by simpa using hj)];simp
abbrev Own(base:Nat)(w:World)(v:Value)(ms:List cd):Prop:=w.ownsRow base 142 6 v ms.length (fl ms)
theorem Own.sl{base:Nat}{w:World}{v:Value}{ms:List cd}(h:Own base w v ms)(hs:∀j,(ms.getD j dm).ok):Sl w v ms:=by
 rcases h.2 with⟨rfl,h0⟩|⟨g,c,cur,rfl,dN,hg,fa,dO,cJ,aV⟩
 .exact⟨Y,0,by rw[h0],hs,.inl (IX h0)⟩
 .refine⟨_,c,rfl,hs,.inr ⟨g,0,rfl,(Ib.1 hg).1,λj hj=>?_⟩⟩
  have hc:∀t,t<6->w.cell? ⟨g,0+j*6+t,Y⟩=(ms.getD j dm).cs[t]?:=λt ht=>by
   rw[af hg,<- eD ms j hj t ht,<- aV,IL (by omega)];simp
  exact⟨hc 0 (by omega),hc 1 (by omega),hc 2 (by omega),hc 3 (by omega),hc 4 (by omega),hc 5 (by omega)⟩
theorem Own.below{base:Nat}{w w':World}{v:Value}{ms:List cd}(h:Own base w v ms)(hb:Below w.heap.size w w'):Own base w' v ms:=by
 rcases h.2 with⟨rfl,h0⟩|⟨g,c,cur,rfl,dN,hg,fa,dO,cJ,aV⟩
 .exact⟨h.1,.inl ⟨rfl,h0⟩⟩
 .have aB:=(Ib.1 hg).1
  exact⟨h.1,.inr ⟨g,c,cur,rfl,dN,(hb.block g aB).trans hg,fa,dO,cJ,aV⟩⟩
theorem Own.lt{base:Nat}{w:World}{v:Value}{ms:List cd}(h:Own base w v ms)(k:Nat)(hk:v.ownBlock=Z k):base<=k/\k<w.heap.size:=IY h k hk
theorem Sl.below{w w':World}{v:Value}{ms:List cd}(h:Sl w v ms)(hb:Below w.heap.size w w'):Sl w' v ms:=by
 obtain⟨a,cap,rfl,hs,h⟩:=h;refine⟨a,cap,rfl,hs,?_⟩;rcases h with h|⟨b,off,rfl,aB,hr⟩
 .exact .inl h
 .refine .inr ⟨b,off,rfl,Iu aB hb.size,λj hj=>?_⟩
  exact(hr j hj).eq (λo=>(cD hb).1 b o aB)
theorem Row.later{w w':World}{b off:Nat}{ms:List cd}(hr:Row w b off ms)(hb:Below w.heap.size w w')(aB:b<w.heap.size):Row w' b off ms:=λj hj=>(hr j hj).eq (λo=>(cD hb).1 b o aB)
theorem Own.mono{base jc:Nat}{w:World}{v:Value}{ms:List cd}(h:Own base w v ms)(hb:jc<=base):Own jc w v ms:=by
 rcases h.2 with⟨rfl,h0⟩|⟨g,c,cur,rfl,dN,hg,fa,dO,cJ,aV⟩
 .exact⟨h.1,.inl ⟨rfl,h0⟩⟩
 .exact⟨h.1,.inr ⟨g,c,cur,rfl,Ir hb dN,hg,fa,dO,cJ,aV⟩⟩
theorem bz(base:Nat)(w:World):Own base w (U Y 0 0) []:=Jj w base 142 6
theorem eK{ms:List cd}(h:∀j,(ms.getD j dm).ok):∀m∈ms,(m).ok:=by
 intro m hm;obtain⟨j,hj,rfl⟩:=Jp hm;have:=h j;simpa[Io,Ic hj] using this
theorem bN{ms:List cd}(h:∀m∈ms,(m).ok):∀j,(ms.getD j dm).ok:=by
 intro j;by_cases hj:j<ms.length
 .have:=h ms[j] (IQ hj)
  simpa[Io,Ic hj] using this
 .rw[Io,IK (Qy hj)];exact nY
end Wh
namespace Wh
open Go.RowKit
theorem Tryz.Ph:(Tryz.prog.info? 142).map (λi=>(i.zero,i.size,i.bytes))=Z (Z (Ip #[I ⟨#[]⟩,O J 0,O J 0,O J 0,O J 0,O J 0]),6,56):=by kernel_rfl
end Wh
end Go.Proofs.YtfidjlcdlakceaaGreatDoor
namespace Go.Proofs.YtfidjlcdlakceaaGreatDoor
open Go.RowKit
structure Mem where
 name:ByteArray
 state:Int
 aP:Int
 addr:Int
 server:Bool
def dm:Mem:=⟨If,0,0,0,false⟩
abbrev As(w:World)(b o:Nat)(m:Mem):Prop:=w.cell? ⟨b,o,Y⟩=Z (I m.name)/\w.cell? ⟨b,o+1,Y⟩=Z (O J m.state)/\w.cell? ⟨b,o+2,Y⟩=Z (O J m.aP)/\w.cell? ⟨b,o+3,Y⟩=Z (O J m.addr)/\w.cell? ⟨b,o+4,Y⟩=Z (AT m.server)
theorem As.re{w:World}{b o:Nat}{m:Mem}(h:As w b o m):∀d os,As (Go.Sort.grow (redrawn w d) os) b o m:=λd os=>by
 obtain⟨c0,c1,c2,c3,c4⟩:=h;exact⟨Iq c0 d os,Iq c1 d os,Iq c2 d os,Iq c3 d os,Iq c4 d os⟩
theorem As.eq{w w':World}{b o:Nat}{m:Mem}(h:As w b o m)(e:∀o,w'.cell? ⟨b,o,Y⟩=w.cell? ⟨b,o,Y⟩):As w' b o m:=by
 obtain⟨c0,c1,c2,c3,c4⟩:=h;exact⟨(e _).trans c0,(e _).trans c1,(e _).trans c2,(e _).trans c3,(e _).trans c4⟩
def Row(w:World)(b off:Nat)(ms:List Mem):Prop:=∀j,j<ms.length->As w b (off+j*5) (ms.getD j dm)
def Sl(w:World)(v:Value)(ms:List Mem):Prop:=
 ∃(a:Option Addr) (cap:Nat),v=U a ms.length cap/\(∀j,(ms.getD j dm).name.size<=Ii) /\
  (ms=[]\/∃b off,a=Z ⟨b,off,Y⟩/\b<w.heap.size/\Row w b off ms)
def Mem.cs(m:Mem):List Value:=[I m.name,O J m.state,O J m.aP,O J m.addr,AT m.server]
def fl(ms:List Mem):List Value:=ms.flatMap Mem.cs
theorem bL(m:Mem):m.cs.length=5:=rfl
theorem bJ(m:Mem)(r:List Mem):fl (m::r)=m.cs++fl r:=by simp[fl]
theorem eA(a b:List Mem):fl (a++b)=fl a++fl b:=by simp[fl]
theorem cS:∀ms:List Mem,(fl ms).length=ms.length*5
 |[]=>rfl
 |m::r=>by rw[bJ,Ij,cS r,bL,I5];omega
theorem CG:∀(ms:List Mem) (i:Nat),(fl ms).take (i*5)=fl (ms.take i)
 |[],i=>by simp[fl]
 |m::r,0=>by simp[fl]
 |m::r,i+1=>by
  rw[bJ,List.take_succ_cons,bJ,show(i+1)*5=m.cs.length+i*5 by rw[bL];omega,List.take_length_add_append,CG r i]
theorem CH:∀(ms:List Mem) (i:Nat),(fl ms).drop (i*5)=fl (ms.drop i)
 |[],i=>by simp[fl]
 |m::r,0=>by simp
 |m::r,i+1=>by
  rw[bJ,List.drop_succ_cons,show(i+1)*5=m.cs.length+i*5 by rw[bL];omega,List.drop_length_add_append,CH r i]
theorem da(m:Mem):∀v∈m.cs,v.oneCell'=true:=by
 intro v hv;simp[Mem.cs] at hv;rcases hv with rfl|rfl|rfl|rfl|rfl<;>rfl
theorem fL(ms:List Mem):∀v∈fl ms,v.oneCell'=true:=by
 intro v hv;obtain⟨m,_,h⟩:=ON.1 hv;exact da m v h
theorem eD(ms:List Mem)(j:Nat)(hj:j<ms.length)(t:Nat)(ht:t<5):(fl ms)[j*5+t]?=(ms.getD j dm).cs[t]?:=by
 induction ms generalizing j with
 |nil=>simp at hj
 |cons m r ih=>
  rw[bJ];cases j with
  |zero=>rw[Jt (by rw[bL];omega)];simp
  |succ j=>
   rw[Jz (by rw[bL];omega),bL,show(j+1)*5+t-5=j*5+t by omega,ih j (by simpa using hj)];simp
theorem Vq(ms:List Mem)(p:Nat)(hp:p<ms.length)(m:Mem):((((((fl ms).set (p*5) (I m.name)).set (p*5+1) (O J m.state)).set (p*5+2) (O J m.aP)).set (p*5+3) (O J m.addr)).set (p*5+4) (AT m.server))=fl (ms.set p m):=by
 induction ms generalizing p with
 |nil=>simp at hp
 |cons x r ih=>
  cases p with
  |zero=>simp[fl,Mem.cs]
  |succ p=>
   have ih':=ih p (by simpa using hp);rw[List.set_cons_succ,bJ,bJ,<- ih'];simp only[Nat.add_mul,Nat.one_mul];have e:∀(l:List Value) (k:Nat) (v:Value),(x.cs++l).set (k+5) v=x.cs++l.set k v:=λl k v=>by
    rw[List.set_append,if_neg (by rw[bL];omega),bL,Nat.add_sub_cancel]
   have c:∀i:Nat,p*5+5+i=(p*5+i)+5:=λi=>by omega
   simp only[c];rw[e,e,e,e,e]
abbrev Own(base:Nat)(w:World)(v:Value)(ms:List Mem):Prop:=w.ownsRow base 70 5 v ms.length (fl ms)
theorem pB{base g G:Nat}{w:World}{cur:Array Value}{ms:List Mem}(hb:base<=g)(hg:w.heap[g]?=Z (AI cur 70 (0,0)))(hs:cur.size=G*5)(hn:ms.length<=G)(hG:G<=Ii)(ht:cur.toList.take (ms.length*5)=fl ms) :
 Own base w (U (Z ⟨g,0,Y⟩) ms.length G) ms:=⟨cS ms,.inr ⟨g,G,cur,rfl,hb,hg,hn,hG,hs,ht⟩⟩
theorem Own.sl{base:Nat}{w:World}{v:Value}{ms:List Mem}(h:Own base w v ms)(hs:∀j,(ms.getD j dm).name.size<=Ii):Sl w v ms:=by
 rcases h.2 with⟨rfl,h0⟩|⟨g,c,cur,rfl,dN,hg,fa,dO,cJ,aV⟩
 .exact⟨Y,0,by rw[h0],hs,.inl (IX h0)⟩
 .refine⟨_,c,rfl,hs,.inr ⟨g,0,rfl,(Ib.1 hg).1,λj hj=>?_⟩⟩
  have hc:∀t,t<5->w.cell? ⟨g,0+j*5+t,Y⟩=(ms.getD j dm).cs[t]?:=λt ht=>by
   rw[af hg,<- eD ms j hj t ht,<- aV,IL (by omega)];simp
  exact⟨hc 0 (by omega),hc 1 (by omega),hc 2 (by omega),hc 3 (by omega),hc 4 (by omega)⟩
theorem Own.below{base:Nat}{w w':World}{v:Value}{ms:List Mem}(h:Own base w v ms)(hb:Below w.heap.size w w'):Own base w' v ms:=by
 rcases h.2 with⟨rfl,h0⟩|⟨g,c,cur,rfl,dN,hg,fa,dO,cJ,aV⟩
 .exact⟨h.1,.inl ⟨rfl,h0⟩⟩
 .have aB:=(Ib.1 hg).1
  exact⟨h.1,.inr ⟨g,c,cur,rfl,dN,(hb.block g aB).trans hg,fa,dO,cJ,aV⟩⟩
theorem Own.lt{base:Nat}{w:World}{v:Value}{ms:List Mem}(h:Own base w v ms)(k:Nat)(hk:v.ownBlock=Z k):base<=k/\k<w.heap.size:=IY h k hk
theorem below_grown{base:Nat}{w w1 w2:World}{v:Value}{ms:List Mem}(hb:Below base w w1)(h:Own base w1 v ms)(hg:w1.grownBy w2 v.ownBlock)(hbase:base<=w1.heap.size):Below base w w2:=
 hb.grown hg hbase (λk hk=>(h.lt k hk).1)
theorem lU{base g c:Nat}{w:World}{ms:List Mem}(h:Own base w (U (Z ⟨g,0,Y⟩) ms.length c) ms)(j:Nat)(hj:j<ms.length) :
 As w g (j*5) (ms.getD j dm):=by
 rcases h.2 with⟨h1,_⟩|⟨g',c',cur,h1,dN,hg,fa,dO,cJ,aV⟩
 .cases h1
 .simp only[Value.slice.injEq,Option.some.injEq,Addr.mk.injEq] at h1
  obtain⟨⟨rfl,_,_⟩,_,_⟩:=h1;have hc:∀t,t<5->w.cell? ⟨g,j*5+t,Y⟩=(ms.getD j dm).cs[t]?:=λt ht=>by
   rw[af hg,<- eD ms j hj t ht,<- aV,IL (by omega)];simp
  exact⟨hc 0 (by omega),hc 1 (by omega),hc 2 (by omega),hc 3 (by omega),hc 4 (by omega)⟩
theorem jG{base:Nat}{w:World}{v:Value}{ms:List Mem}(h:Own base w v ms)(p:Nat)(hp:p<ms.length):∃g c,v=U (Z ⟨g,0,Y⟩) ms.length c:=by
 rcases h.2 with⟨_,h0⟩|⟨g,c,cur,h1,_⟩
 .omega
 .exact⟨g,c,h1⟩
theorem NC{base g c p:Nat}{W:World}{ms:List Mem}(h:Own base W (U (Z ⟨g,0,Y⟩) ms.length c) ms)(hp:p<ms.length)(m:Mem) :
 Own base (((((W.setCell ⟨g,p*5,Y⟩ (I m.name)).setCell ⟨g,p*5+1,Y⟩ (O J m.state)).setCell ⟨g,p*5+2,Y⟩ (O J m.aP)).setCell ⟨g,p*5+3,Y⟩ (O J m.addr)).setCell ⟨g,p*5+4,Y⟩ (AT m.server)) (U (Z ⟨g,0,Y⟩) ms.length c) (ms.set p m):=by
 have h1:=JW h (p*5) (I m.name);have h2:=JW h1.1 (p*5+1) (O J m.state);have h3:=JW h2.1 (p*5+2) (O J m.aP);have h4:=JW h3.1 (p*5+3) (O J m.addr);have h5:=JW h4.1 (p*5+4) (AT m.server);have e:=h5.1;rw[Vq ms p hp m] at e;show World.ownsRow _ _ _ _ _ (ms.set p m).length _;rw[List.length_set];exact e
theorem Sl.below{w w':World}{v:Value}{ms:List Mem}(h:Sl w v ms)(hb:Below w.heap.size w w'):Sl w' v ms:=by
 obtain⟨a,cap,rfl,hs,h⟩:=h;refine⟨a,cap,rfl,hs,?_⟩;rcases h with h|⟨b,off,rfl,aB,hr⟩
 .exact .inl h
 .refine .inr ⟨b,off,rfl,Iu aB hb.size,λj hj=>?_⟩
  exact(hr j hj).eq (λo=>(cD hb).1 b o aB)
theorem Row.later{w w':World}{b off:Nat}{ms:List Mem}(hr:Row w b off ms)(hb:Below w.heap.size w w')(aB:b<w.heap.size):Row w' b off ms:=λj hj=>(hr j hj).eq (λo=>(cD hb).1 b o aB)
theorem Own.mono{base jc:Nat}{w:World}{v:Value}{ms:List Mem}(h:Own base w v ms)(hb:jc<=base):Own jc w v ms:=by
 rcases h.2 with⟨rfl,h0⟩|⟨g,c,cur,rfl,dN,hg,fa,dO,cJ,aV⟩
 .exact⟨h.1,.inl ⟨rfl,h0⟩⟩
 .exact⟨h.1,.inr ⟨g,c,cur,rfl,Ir hb dN,hg,fa,dO,cJ,aV⟩⟩
theorem bz(base:Nat)(w:World):Own base w (U Y 0 0) []:=Jj w base 70 5
theorem eK{ms:List Mem}(h:∀j,(ms.getD j dm).name.size<=Ii):∀m∈ms,(m).name.size<=Ii:=by
 intro m hm;obtain⟨j,hj,rfl⟩:=Jp hm;have:=h j;simpa[Io,Ic hj] using this
theorem bN{ms:List Mem}(h:∀m∈ms,(m).name.size<=Ii):∀j,(ms.getD j dm).name.size<=Ii:=by
 intro j;by_cases hj:j<ms.length
 .have:=h ms[j] (IQ hj)
  simpa[Io,Ic hj] using this
 .simp[Io,IK (Qy hj),dm]
theorem fE{base:Nat}{w:World}{v:Value}{ms:List Mem}(h:Own base w v ms)(hs:∀m∈ms,(m).name.size<=Ii):Sl w v ms:=h.sl (bN hs)
theorem Ax(w:World)(b cap:Nat)(m:Mem)(hm:(m).name.size<=Ii)(hg:w.heap[b]?=Z (AI #[I m.name,O J m.state,O J m.aP,O J m.addr,AT m.server] 70 (0,0))):Sl w (U (Z ⟨b,0,Y⟩) 1 cap) [m]:=by
 refine⟨_,cap,rfl,bN (λx hx=>by simp at hx;subst hx;exact hm),.inr ⟨b,0,rfl,(Ib.1 hg).1,λj hj=>?_⟩⟩
 have:j=0:=by simpa using hj
 subst this;exact⟨af hg (0+0*5),af hg (0+0*5+1),af hg (0+0*5+2),af hg (0+0*5+3),af hg (0+0*5+4)⟩
theorem Tryz.oX:(Tryz.prog.info? 70).map (λi=>(i.zero,i.size,i.bytes))=Z (Z (Ip #[I ⟨#[]⟩,O J 0,O J 0,O J 0,AT false]),5,48):=by kernel_rfl
theorem K5:(Tryz.prog.info? 70).map (·.size)=Z 5:=by
 obtain⟨i,hi,h1,h2,h3⟩:=Jd Tryz.oX;rw[hi];simp[h2]
theorem sizeOf70(w:World):(Go.sizeOf 70).run be w=.ok 5 w:=by
 obtain⟨i,hi,h1,h2,h3⟩:=Jd Tryz.oX;simp[Go.sizeOf,typeInfo,hi,h2]
theorem wI(w:World)(g vb o lb cb:Nat)(cur vs:Array Value)(hg:w.heap[g]?=Z (AI cur 70 (0,0)))(hv:w.heap[vb]?=Z (AI vs 70 (0,0)))(bE:vb≠g)(hk:cur.size≠0) : (callFunc 288 #[U (Z ⟨vb,0,Y⟩) 1 1,U (Z ⟨g,o,Y⟩) lb cb]).run be w=.ok (.value (AT false)) w:=by
 rw[run_callFunc_extern Tryz.func288 (by kernel_rfl) (by kernel_rfl) (by kernel_rfl) (e:=Extern.SlicesOverlaps.overlaps #[22,22] #[4]) (by kernel_rfl),
  Lib.run_overlaps_apart w 22 4 70 JU 5 sizeOf70 ⟨vb,0,Y⟩ ⟨g,o,Y⟩ 1 1 lb cb bE 70 70 vs.size cur.size (by simp[World.shape?,hv]) (by simp[World.shape?,hg]) hk (by simp[Ih,hv]) (by simp[Ih,hv])]
 rfl
theorem ym(g n c i vb:Nat)(cur:Array Value)(vs:List Value)(w:World)(hg:w.heap[g]?=Z (AI cur 70 (0,0)))(cJ:cur.size=c*5)(hi:i<n)(gG:n+1<=c)(afq:c<=9223372036854775807)(RQ:vb≠g)(hv:w.heap[vb]?=Z (AI vs.toArray 70 (0,0)))(Am:vs.length=5)(GF:∀v∈cur.toList.take (n*5),v.oneCell'=true)(Hl:∀v∈vs,v.oneCell'=true) :
 aT 270 #[U (Z ⟨g,0,Y⟩) n c,O J i,U (Z ⟨vb,0,Y⟩) 1 1] w λe w'=>e=.returned (U (Z ⟨g,0,Y⟩) (n+1) c) /\
  ∃kX:Array Value,w'.heap[g]?=Z (AI kX 70 (0,0))/\kX.size=c*5/\kX.toList.take ((n+1)*5)=cur.toList.take (i*5)++vs++(cur.toList.take (n*5)).drop (i*5)/\w.grownBy w' (Z g):=by
 have hov:=λo lb cb=>wI w g vb o lb cb cur vs.toArray hg hv RQ (by omega);have jD:¬ ((i:Int)=(n:Int)):=by omega
 have aD:¬ (c=i+1):=by omega
 have e9:¬ (c=i):=by omega
 have bn:(i:Int)<=(n:Int)+1:=by omega
 obtain⟨W1,W2,Vr,aaj,HF⟩:=Hk JU K5 hg cJ hi gG RQ hv Am GF Hl;have HF:Hid _:=HF;clear GF Hl hg hv;have NM:IntKind.i64.wrap ((i:Int)+1)=(i:Int)+1:=by rw[IN];omega
 have an:(0:Int)<=(i:Int)+1:=by omega
 have hin:i<=n:=by omega
 have Xo:((i:Int)+1).toNat=i+1:=by omega
 go_enter Tryz.func270,Tryz.ntmps270;go_wp2_with (simp only[hov]);go_region_law (refine kW rfl _ _ 22 22 rfl _ _ (by simp[Act.eval,Act.put]) (by simp[Act.eval,Act.put]) (Vr _ _ _) ?_)
 go_wp2_with fail;go_ret;exact⟨rfl,HF.out⟩
theorem yo(g n c i vb:Nat)(cur:Array Value)(vs:List Value)(w:World)(hg:w.heap[g]?=Z (AI cur 70 (0,0)))(cJ:cur.size=c*5)(hi:i<n)(fa:n<=c)(gG:c<n+1)(afq:n<=1000)(hv:w.heap[vb]?=Z (AI vs.toArray 70 (0,0)))(Am:vs.length=5)(GF:∀v∈cur.toList.take (n*5),v.oneCell'=true)(Hl:∀v∈vs,v.oneCell'=true) :
 aT 270 #[U (Z ⟨g,0,Y⟩) n c,O J i,U (Z ⟨vb,0,Y⟩) 1 1] w λe w'=>∃G,e=.returned (U (Z ⟨w.heap.size,0,Y⟩) (n+1) G)/\n+1<=G/\G<=Ii /\
  ∃kX:Array Value,w'.heap[w.heap.size]?=Z (AI kX 70 (0,0))/\kX.size=G*5/\kX.toList.take ((n+1)*5)=cur.toList.take (i*5)++vs++(cur.toList.take (n*5)).drop (i*5)/\w.grownBy w' Y:=by
 obtain⟨i0,eP,cE,gn,ga⟩:=Jd Tryz.oX;have M8:c=n:=by omega
 subst M8;have jD:¬ ((i:Int)=(c:Int)):=by omega
 have mB:(c:Int)<(c:Int)+1:=by omega
 have Vs:(c:Int)+1-(i:Int)=((c+1-i:Nat):Int):=by omega
 have hik:i+(c+1-i)=c+1:=by omega
 have hold:(Builtin.firstCells i0.size i (U (Z ⟨g,0,Y⟩) i c)).run be w.drew=.ok (cur.toList.take (i*5)).toArray w.drew:=by
  rw[gn];exact run_firstCells_some w.drew 5 i ⟨g,0,Y⟩ i c (cur.toList.take (i*5)) (by rw[IA,Jh];omega) (λj v hj=>by
   have e:w.drew.cell? ((⟨g,0,Y⟩:Addr).add j)=cur[j]?:=by rw[Addr.add_lit,Nat.zero_add];exact af hg _
   rw[e];rw[List.getElem?_take] at hj;split at hj
   .simpa using hj
   .cases hj)
 have hrz:∀ty,∃G Aa,c+1<=G/\G<=Ii/\Aa.size=G*5/\Aa.toList.take (i*5)=cur.toList.take (i*5)/\(Builtin.append_ #[22,3] ty #[U (Z ⟨g,0,Y⟩) i c,O J ((c:Int)+1-(i:Int))]).run be w =
  .ok (U (Z ⟨w.heap.size,0,Y⟩) (c+1) G) (w.drew.alloc (AI Aa 70)):=λty=>by
  have h:=Lib.run_append_grow_zeros w 22 3 ty 70 i0 _ J J JU Iz eP cE (Z ⟨g,0,Y⟩) i c (cur.toList.take (i*5)) hold (c+1-i) (by omega) (by omega) (by omega) (by omega) (by rw[ga];omega) (by rw[ga,hik];exact growslice_fits gG (by omega));rw[hik] at h;rw[Vs];have h1:=grownCap_ge w (c+1) c 70;refine⟨_,_,h1,grownCap_le_maxLen w (c+1) c 70 (by unfold Ii;omega),?_,?_,h⟩
  .simp only[Array.size_append,List.size_toArray,size_zeroCells,IA,Jh,cJ,Value.cells]
   simp;omega
  .simp only[Array.toList_append,Jf]
   exact List.take_left' (by simp only[IA,Jh,cJ];omega)
 obtain⟨G,Aa,rA,Vt,Tw,hRt,hrz⟩:=hrz 22;have alc:G<=9223372036854775807:=by unfold Ii at Vt;omega
 obtain⟨W2,W3,Vr,aaj,HF⟩:=Hn JU K5 hg cJ hi hv Am GF Hl rA Tw hRt;obtain⟨W1,gA⟩:∃W1,W1=(w.alloc (AI Aa 70)).drew:=⟨_,rfl⟩;have XX:w.drew.alloc (AI Aa 70)=W1:=by rw[gA];rfl
 rw[XX] at hrz;rw[<- gA] at Vr;have HF:Hid _:=HF;have NM:IntKind.i64.wrap ((i:Int)+1)=(i:Int)+1:=by rw[IN];omega
 have an:(0:Int)<=(i:Int)+1:=by omega
 have hin:i<=c:=by omega
 have Xo:((i:Int)+1).toNat=i+1:=by omega
 have hGi:¬ (G=i):=by omega
 have ald:¬ (G=i+1):=by omega
 have hci:¬ (c=i):=by omega
 clear gA GF Hl XX Tw hRt Vs hik hold hg hv eP cE gn ga;go_enter Tryz.func270,Tryz.ntmps270;go_wp2_with (at_builtin;refine Lib.wpList_append_run _ rfl _ _ _ _ rfl _ _ rfl rfl _ _ hrz ?_);go_region_law (refine kW rfl _ _ 22 22 rfl _ _ (by simp[Act.eval,Act.put]) (by simp[Act.eval,Act.put]) (aaj _ _ _) ?_)
 go_wp2_with fail;go_ret;exact⟨G,rfl,rA,Vt,HF.out⟩
theorem Bb(base n vb:Nat)(v:Value)(xs vs:List Value)(w:World)(hown:w.ownsRow base 70 5 v n xs)(hn:n<=1000)(hbase:base<=w.heap.size)(hv:w.heap[vb]?=Z (AI vs.toArray 70 (0,0)))(Am:vs.length=5)(Hl:∀v∈vs,v.oneCell'=true) :
 aT 270 #[v,O J n,U (Z ⟨vb,0,Y⟩) 1 1] w λe w'=>∃v',e=.returned v'/\w'.ownsRow base 70 5 v' (n+1) (xs++vs)/\w.grownBy w' v.ownBlock:=by
 obtain⟨i0,eP,cE,gn,ga⟩:=Jd Tryz.oX;have hnews:∀j u,vs[j]?=Z u->w.cell? ((⟨vb,0,Y⟩:Addr).add j)=Z u:=λj v hj=>by rw[Addr.add_lit,af hv];simpa using hj
 have HO:Hid (w.ownsRow base 70 5 v n xs):=hown;rcases hown.2 with⟨rfl,rfl⟩|⟨g,c,cur,rfl,_,_,fa,dO,_,_⟩;rotate_left;unfold Ii at dO;by_cases M8:c=n;subst M8;all_goals
  clear hown hv;go_enter Tryz.func270,Tryz.ntmps270;go_wp2_with (at_builtin;refine wpList_append_own _ rfl _ _ 22 rfl base 70 i0 _ 5 48 JU eP cE gn ga rfl (by omega) _ _ xs rfl HO.out ⟨vb,0,Y⟩ 1 1 vs rfl (by omega) hnews Hl (by unfold Ii;omega) (by omega) hbase ?_);intro v' w' r1 r2 r3;go_wp2_with fail;go_ret;exact⟨v',rfl,r1,r2⟩
theorem Au(base i vb:Nat)(v:Value)(ms:List Mem)(m:Mem)(w:World)(hown:Own base w v ms)(hi:i<=ms.length)(hn:ms.length<=1000)(hbase:base<=w.heap.size)(hv:w.heap[vb]?=Z (AI m.cs.toArray 70 (0,0)))(bE:v.ownBlock≠Z vb) :
 aT 270 #[v,O J i,U (Z ⟨vb,0,Y⟩) 1 1] w λe w'=>∃v',e=.returned v'/\Own base w' v' (ms.take i++m::ms.drop i)/\w.grownBy w' v.ownBlock:=by
 have hlen:(ms.take i++m::ms.drop i).length=ms.length+1:=by simp;omega
 have qP:fl (ms.take i++m::ms.drop i)=(fl ms).take (i*5)++m.cs++(fl ms).drop (i*5):=by rw[eA,bJ,CG,CH,Jf]
 by_cases hin:i=ms.length
 .subst hin
  refine(Bb base ms.length vb v (fl ms) m.cs w hown hn hbase hv rfl (da m)).mono ?_;rintro e w' ⟨v',rfl,h1,h2⟩;refine⟨v',rfl,?_,h2⟩;have e1:ms.take ms.length++m::ms.drop ms.length=ms++[m]:=by simp
  have e2:fl (ms++[m])=fl ms++m.cs:=by rw[eA,bJ];simp[fl]
  rw[e1];show w'.ownsRow base 70 5 v' (ms++[m]).length (fl (ms++[m]));rw[e2,show(ms++[m]).length=ms.length+1 by simp];exact h1
 .rcases hown.2 with⟨_,h0⟩|⟨g,c,cur,rfl,dN,hg,fa,dO,cJ,aV⟩
  .omega
  .have RQ:vb≠g:=λe=>bE (by simp[Value.ownBlock,e])
   have GF:∀v∈cur.toList.take (ms.length*5),v.oneCell'=true:=by rw[aV];exact fL ms
   have hti:cur.toList.take (i*5)=(fl ms).take (i*5):=by rw[<- aV,List.take_take];congr 1;omega
   have key:∀l:List Value,l=cur.toList.take (i*5)++m.cs++(cur.toList.take (ms.length*5)).drop (i*5)->l=fl (ms.take i++m::ms.drop i):=λl hl=>by rw[hl,qP,aV,hti]
   by_cases gG:ms.length+1<=c
   .refine(ym g ms.length c i vb cur m.cs w hg cJ (by omega) gG (by unfold Ii at dO;omega) RQ hv rfl GF (da m)).mono ?_
    rintro e w' ⟨rfl,kX,h1,h2,h3,h4⟩;refine⟨_,rfl,?_,h4⟩;rw[<- hlen];exact pB dN h1 h2 (by omega) dO (key _ (by rw[hlen];exact h3))
   .refine(yo g ms.length c i vb cur m.cs w hg cJ (by omega) fa (by omega) hn hv rfl GF (da m)).mono ?_
    rintro e w' ⟨G,rfl,rA,Vt,kX,h1,h2,h3,h4⟩;refine⟨_,rfl,?_,DU h4 _⟩;rw[<- hlen];exact pB hbase h1 h2 (by omega) Vt (key _ (by rw[hlen];exact h3))
end Go.Proofs.YtfidjlcdlakceaaGreatDoor
namespace Go.Proofs.YtfidjlcdlakceaaGreatDoor
namespace Rc
open Go.RowKit
structure Rec where
 name:ByteArray
 al:Int
 aE:Int
 addr:Int
 text:ByteArray
 port:Int
 target:ByteArray
def dm:Rec:=⟨If,0,0,0,If,0,If⟩
def Rec.ok(m:Rec):Prop:=m.name.size<=Ii/\m.text.size<=Ii/\m.target.size<=Ii
theorem nY:dm.ok:=by simp[Rec.ok,dm]
abbrev As(w:World)(b o:Nat)(m:Rec):Prop:=w.cell? ⟨b,o,Y⟩=Z (I m.name)/\w.cell? ⟨b,o+1,Y⟩=Z (O J m.al)/\w.cell? ⟨b,o+2,Y⟩=Z (O J m.aE)/\w.cell? ⟨b,o+3,Y⟩=Z (O J m.addr)/\w.cell? ⟨b,o+4,Y⟩=Z (I m.text)/\w.cell? ⟨b,o+5,Y⟩=Z (O J m.port)/\w.cell? ⟨b,o+6,Y⟩=Z (I m.target)
theorem As.eq{w w':World}{b o:Nat}{m:Rec}(h:As w b o m)(e:∀o,w'.cell? ⟨b,o,Y⟩=w.cell? ⟨b,o,Y⟩):As w' b o m:=by
 obtain⟨c0,c1,c2,c3,c4,c5,c6⟩:=h;exact⟨(e _).trans c0,(e _).trans c1,(e _).trans c2,(e _).trans c3,(e _).trans c4,(e _).trans c5,(e _).trans c6⟩
def Row(w:World)(b off:Nat)(ms:List Rec):Prop:=∀j,j<ms.length->As w b (off+j*7) (ms.getD j dm)
def Sl(w:World)(v:Value)(ms:List Rec):Prop:=
 ∃(a:Option Addr) (cap:Nat),v=U a ms.length cap/\(∀j,(ms.getD j dm).ok) /\
  (ms=[]\/∃b off,a=Z ⟨b,off,Y⟩/\b<w.heap.size/\Row w b off ms)
def Rec.cs(m:Rec):List Value:=[I m.name,O J m.al,O J m.aE,O J m.addr,I m.text,O J m.port,I m.target]
def fl(ms:List Rec):List Value:=ms.flatMap Rec.cs
theorem bL(m:Rec):m.cs.length=7:=rfl
theorem bJ(m:Rec)(r:List Rec):fl (m::r)=m.cs++fl r:=by simp[fl]
theorem eA(a b:List Rec):fl (a++b)=fl a++fl b:=by simp[fl]
theorem cS:∀ms:List Rec,(fl ms).length=ms.length*7
 |[]=>rfl
 |m::r=>by rw[bJ,Ij,cS r,bL,I5];omega
theorem da(m:Rec):∀v∈m.cs,v.oneCell'=true:=by
 intro v hv;simp[Rec.cs] at hv;rcases hv with rfl|rfl|rfl|rfl|rfl|rfl|rfl<;>rfl
theorem eD(ms:List Rec)(j:Nat)(hj:j<ms.length)(t:Nat)(ht:t<7):(fl ms)[j*7+t]?=(ms.getD j dm).cs[t]?:=by
 induction ms generalizing j with
 |nil=>simp at hj
 |cons m r ih=>
  rw[bJ];cases j with
  |zero=>rw[Jt (by rw[bL];omega)];simp
  |succ j=>
   rw[Jz (by rw[bL];omega),bL,show(j+1)*7+t-7=j*7+t by omega,ih j (by simpa using hj)];simp
abbrev Own(base:Nat)(w:World)(v:Value)(ms:List Rec):Prop:=w.ownsRow base 64 7 v ms.length (fl ms)
theorem pB{base g G:Nat}{w:World}{cur:Array Value}{ms:List Rec}(hb:base<=g)(hg:w.heap[g]?=Z (AI cur 64 (0,0)))(hs:cur.size=G*7)(hn:ms.length<=G)(hG:G<=Ii)(ht:cur.toList.take (ms.length*7)=fl ms) :
 Own base w (U (Z ⟨g,0,Y⟩) ms.length G) ms:=⟨cS ms,.inr ⟨g,G,cur,rfl,hb,hg,hn,hG,hs,ht⟩⟩
theorem Own.sl{base:Nat}{w:World}{v:Value}{ms:List Rec}(h:Own base w v ms)(hs:∀j,(ms.getD j dm).ok):Sl w v ms:=by
 rcases h.2 with⟨rfl,h0⟩|⟨g,c,cur,rfl,dN,hg,fa,dO,cJ,aV⟩
 .exact⟨Y,0,by rw[h0],hs,.inl (IX h0)⟩
 .refine⟨_,c,rfl,hs,.inr ⟨g,0,rfl,(Ib.1 hg).1,λj hj=>?_⟩⟩
  have hc:∀t,t<7->w.cell? ⟨g,0+j*7+t,Y⟩=(ms.getD j dm).cs[t]?:=λt ht=>by
   rw[af hg,<- eD ms j hj t ht,<- aV,IL (by omega)];simp
  exact⟨hc 0 (by omega),hc 1 (by omega),hc 2 (by omega),hc 3 (by omega),hc 4 (by omega),hc 5 (by omega),hc 6 (by omega)⟩
theorem Own.below{base:Nat}{w w':World}{v:Value}{ms:List Rec}(h:Own base w v ms)(hb:Below w.heap.size w w'):Own base w' v ms:=by
 rcases h.2 with⟨rfl,h0⟩|⟨g,c,cur,rfl,dN,hg,fa,dO,cJ,aV⟩
 .exact⟨h.1,.inl ⟨rfl,h0⟩⟩
 .have aB:=(Ib.1 hg).1
  exact⟨h.1,.inr ⟨g,c,cur,rfl,dN,(hb.block g aB).trans hg,fa,dO,cJ,aV⟩⟩
theorem Own.lt{base:Nat}{w:World}{v:Value}{ms:List Rec}(h:Own base w v ms)(k:Nat)(hk:v.ownBlock=Z k):base<=k/\k<w.heap.size:=IY h k hk
theorem Sl.below{w w':World}{v:Value}{ms:List Rec}(h:Sl w v ms)(hb:Below w.heap.size w w'):Sl w' v ms:=by
 obtain⟨a,cap,rfl,hs,h⟩:=h;refine⟨a,cap,rfl,hs,?_⟩;rcases h with h|⟨b,off,rfl,aB,hr⟩
 .exact .inl h
 .refine .inr ⟨b,off,rfl,Iu aB hb.size,λj hj=>?_⟩
  exact(hr j hj).eq (λo=>(cD hb).1 b o aB)
theorem Own.mono{base jc:Nat}{w:World}{v:Value}{ms:List Rec}(h:Own base w v ms)(hb:jc<=base):Own jc w v ms:=by
 rcases h.2 with⟨rfl,h0⟩|⟨g,c,cur,rfl,dN,hg,fa,dO,cJ,aV⟩
 .exact⟨h.1,.inl ⟨rfl,h0⟩⟩
 .exact⟨h.1,.inr ⟨g,c,cur,rfl,Ir hb dN,hg,fa,dO,cJ,aV⟩⟩
theorem bz(base:Nat)(w:World):Own base w (U Y 0 0) []:=Jj w base 64 7
theorem bN{ms:List Rec}(h:∀m∈ms,(m).ok):∀j,(ms.getD j dm).ok:=by
 intro j;by_cases hj:j<ms.length
 .have:=h ms[j] (IQ hj)
  simpa[Io,Ic hj] using this
 .rw[Io,IK (Qy hj)];exact nY
theorem fE{base:Nat}{w:World}{v:Value}{ms:List Rec}(h:Own base w v ms)(hs:∀m∈ms,(m).ok):Sl w v ms:=h.sl (bN hs)
theorem ew{base:Nat}{w:World}{v:Value}{L:List Rec}{m:Rec}(h:w.ownsRow base 64 7 v (L.length+1) (fl L++m.cs)):Own base w v (L++[m]):=by
 have e:fl (L++[m])=fl L++m.cs:=by rw[eA,bJ];simp[fl]
 show w.ownsRow base 64 7 v (L++[m]).length (fl (L++[m]));rw[e,Ij];exact h
end Rc
namespace Rc
open Go.RowKit
def jH(x y:Rec):Bool:=x.name.toList==y.name.toList&&(x.al==y.al&&(x.aE==y.aE&&(x.addr==y.addr&&(x.text.toList==y.text.toList&&(x.port==y.port&&(x.target.toList==y.target.toList))))))
theorem lW(x y:Rec):jH x y=true↔x=y:=by
 obtain⟨x_name,x_typ,x_lasts,x_addr,x_text,x_port,x_target⟩:=x;obtain⟨y_name,y_typ,y_lasts,y_addr,y_text,y_port,y_target⟩:=y;simp only[jH,IJ,beq_iff_eq,Rec.mk.injEq,Lib.toList_data];constructor
 .rintro⟨h0,h1,h2,h3,h4,h5,h6⟩;exact⟨jq h0,h1,h2,h3,jq h4,h5,jq h6⟩
 .rintro⟨h0,h1,h2,h3,h4,h5,h6⟩;exact⟨by rw[h0],h1,h2,h3,by rw[h4],h5,by rw[h6]⟩
theorem aak(m1 m2:Rec)(w:World):(Op.equalIn 10000 64 (Ip #[I m1.name,O J m1.al,O J m1.aE,O J m1.addr,I m1.text,O J m1.port,I m1.target]) (Ip #[I m2.name,O J m2.al,O J m2.aE,O J m2.addr,I m2.text,O J m2.port,I m2.target])).run be w=.ok (jH m1 m2) w:=by
 have u3:=Iz;have u9:=Tryz.underlying9;have a3:=Tryz.isAgg3;have z3:=Tryz.sizeOf3;have a9:=Tryz.isAgg9;have z9:=Tryz.sizeOf9;have hS:Tryz.prog.underlying 64=Z (.struct (Tryz.prog.fieldsOf 64)):=by kernel_rfl
 have hp:Tryz.prog.stoodInHeld 64=false:=by kernel_rfl
 rw[show(10000:Nat)=9999+1 from rfl,run_equalIn_agg w 9999 64 _ _ hS hp];simp only[Program.fieldsOf,Tryz.underlying64];go_simp;unfold jH;by_cases h0:m1.name.toList=m2.name.toList
 case neg=>simp[h0]
 by_cases h1:m1.al=m2.al
 case neg=>simp[h0,h1]
 by_cases h2:m1.aE=m2.aE
 case neg=>simp[h0,h1,h2]
 by_cases h3:m1.addr=m2.addr
 case neg=>simp[h0,h1,h2,h3]
 by_cases h4:m1.text.toList=m2.text.toList
 case neg=>simp[h0,h1,h2,h3,h4]
 by_cases h5:m1.port=m2.port
 case neg=>simp[h0,h1,h2,h3,h4,h5]
 by_cases h6:m1.target.toList=m2.target.toList
 case neg=>simp[h0,h1,h2,h3,h4,h5,h6]
 simp[h0,h1,h2,h3,h4,h5,h6]
theorem eqE(m1 m2:Rec)(w:World):Sem.run be (binOp .eql 64 (Ip #[I m1.name,O J m1.al,O J m1.aE,O J m1.addr,I m1.text,O J m1.port,I m1.target]) (Ip #[I m2.name,O J m2.al,O J m2.aE,O J m2.addr,I m2.text,O J m2.port,I m2.target])) w=.ok (AT (jH m1 m2)) w:=by
 rw[run_eql_struct,aak];rfl
end Rc
end Go.Proofs.YtfidjlcdlakceaaGreatDoor
