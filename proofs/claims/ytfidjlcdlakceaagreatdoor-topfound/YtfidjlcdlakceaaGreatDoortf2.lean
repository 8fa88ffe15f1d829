import Derived.Test.YtfidjlcdlakceaaGreatDoortf1
set_option maxHeartbeats 1000000
set_option maxRecDepth 100000
open Bool renaming and_eq_true→IJ
open List renaming pairwise_cons→Jl,mem_cons→Jd,getD→Io,getElem?_eq_getElem→Ic,getD_cons_zero→IT,set_cons_succ→Qk,foldl_cons→Qw,length_cons→IY,length_append→Ii,take_succ_cons→On,take_length_add_append→OE,drop_succ_cons→Qa,drop_length_add_append→OF,mem_flatMap→OT,getElem?_append_left→JA,getElem?_append_right→JE,eq_nil_of_length_eq_zero→IX,getElem?_take_of_lt→IF,getElem_of_mem→Jw,getElem_mem→IV,getElem?_eq_none→IP,length_take→Iu,getElem?_take→QK,size_toArray→Oa,append_assoc→I1,take_left'→Qs,take_take→Q8,length_nil→JI,getElem?_eq_some_iff→Jg
open Nat renaming lt_or_eq_of_le→QO,le_refl→By,lt_of_lt_of_le→Iv,le_trans→Ir,le_of_not_lt→QF,zero_add→IM
open ByteArray renaming empty→Ih
open Go renaming maxLen→Ij,cell_regrown→Iq,info_parts→I0,run_callFunc_extern→O9,run_firstCells_some→Um,grownCap_le_maxLen→UC,wpList_append_own→I5
open Go.Value renaming string→I,int→O,slice→U,bool→AI,ownBlock→I2
open Go.IntKind renaming i64→J,wrap_i64→IK
open Option renaming none→Y,some→Z,isNone_none→Qh,isNone_some→Qi
open Go.Obj renaming cells→AT
open Array renaming getElem?_eq_some_iff→Ia,length_toList→IQ,toList_append→Un
open Go.World.ownsRow renaming lt→I6,stored→IW
open Go.World renaming ownsRow_nil→Jp,shape?→O8,frozen?→Ig,cell?_alloc_past→J4,ownsRow_made→Qj
open Go.Proofs.Tryz renaming prog→be,underlying28→OK,underlying3→IG,underlying24→JK
open Go.Extern.SlicesOverlaps renaming overlaps→OX
open Go.Lib renaming run_overlaps_apart→QT,run_append_grow_zeros→QB,wpList_append_run→Q2,run_eql_slice_nil→Jz
open Go.Ending renaming returned→sh
open Go.Act renaming eval→OO,put→Qe
open Go.Builtin renaming firstCells→QJ,append_→Ut
open Go.Addr renaming add_lit→I3
namespace Go.Proofs.YtfidjlcdlakceaaGreatDoor
namespace RL
section
variable {α:Type}
structure Keyed(o:α->α->Int):Prop where
 refl:∀a,o a a=0
 gt:∀a b,0<o a b↔o b a<0
 trans:∀a b c,o a b<0->o b c<0->o a c<0
 left:∀a b c,o a b=0->o a c=o b c
 right:∀a b c,o a b=0->o c a=o c b
theorem Keyed.symm{o:α->α->Int}(h:Keyed o){a b:α}(e:o a b=0):o b a=0:=by
 have h1:=h.gt a b;have h2:=h.gt b a;rcases Int.lt_trichotomy (o b a) 0 with hl|he|hg
 .have:=h1.2 hl;omega
 .exact he
 .have:=h2.1 hg;omega
theorem Keyed.eqt{o:α->α->Int}(h:Keyed o){a b c:α}(e:o a b=0)(f:o b c=0):o a c=0:=by rw[h.left a b c e];exact f
variable (o:α→α→Int) (nw:α→α→Bool) (d:α)
abbrev bO(ms:List α):Prop:=ms.Pairwise λa b=>o a b<0
def aE:List α->Bool
 |[]=>true
 |[_]=>true
 |a::b::r=>decide (o a b<0)&&aE (b::r)
theorem kY(hk:Keyed o):∀ms:List α,aE o ms=true->bO o ms
 |[],_=>.nil
 |[x],_=>by simp[bO]
 |a::b::r,h=>by
  rw[aE,IJ,decide_eq_true_eq] at h;have ih:=kY hk (b::r) h.2;refine Jl.2 ⟨λc hc=>?_,ih⟩;rcases Jd.1 hc with rfl|hc
  .exact h.1
  .exact hk.trans _ _ _ h.1 (List.rel_of_pairwise_cons ih hc)
theorem gf:∀ms:List α,(∀j,j+1<ms.length->o (ms.getD j d) (ms.getD (j+1) d)<0)->aE o ms=true
 |[],_=>rfl
 |[x],_=>rfl
 |a::b::r,h=>by
  rw[aE,IJ,decide_eq_true_eq];refine⟨by have:=h 0 (by simp);simpa using this,gf (b::r) λj hj=>?_⟩;have:=h (j+1) (by simpa using hj);simpa using this
theorem gS:∀ms:List α,aE o ms=true->∀j,j+1<ms.length->o (ms.getD j d) (ms.getD (j+1) d)<0
 |[],_,j,hj=>by simp at hj
 |[x],_,j,hj=>by simp at hj
 |a::b::r,h,0,_=>by
  rw[aE,IJ,decide_eq_true_eq] at h;simpa using h.1
 |a::b::r,h,j+1,hj=>by
  rw[aE,IJ,decide_eq_true_eq] at h;have:=gS (b::r) h.2 j (by simpa using hj);simpa using this
theorem o0{ms:List α}{i:Nat}(h:i<ms.length):ms.getD i d=ms[i]:=by simp[Io,Ic h]
theorem yM{ms:List α}(h:bO o ms){i j:Nat}(lO:i<j)(hj:j<ms.length):o (ms.getD i d) (ms.getD j d)<0:=by
 rw[o0 d (show i<ms.length by omega),o0 d hj];exact List.pairwise_iff_getElem.1 h i j (by omega) hj lO
theorem dG(hk:Keyed o){ms:List α}(h:bO o ms)(t:α):∀i j,i<=j->j<ms.length->o (ms.getD j d) t<0->o (ms.getD i d) t<0:=by
 intro i j lO hj aL;rcases QO lO with aax|rfl
 .exact hk.trans _ _ _ (yM o d h aax hj) aL
 .exact aL
structure At(ms:List α)(t:α)(p:Nat)(f:Bool):Prop where
 le:p<=ms.length
 lo:∀j,j<p->o (ms.getD j d) t<0
 hi:∀j,p<=j->j<ms.length->0<=o (ms.getD j d) t
 is:f=true↔p<ms.length/\o (ms.getD p d) t=0
theorem qJ(hk:Keyed o)(ms:List α)(hr:bO o ms)(t:α):∃p f,At o d ms t p f:=by
 induction ms with
 |nil=>exact⟨0,false,by simp,λj h=>by omega,λj h h2=>by simp at h2,by simp⟩
 |cons x r ih=>
  have hx:=Jl.1 hr;by_cases aL:o x t<0
  .obtain⟨p,f,h⟩:=ih hx.2
   refine⟨p+1,f,by have:=h.le;simpa using this,λj hj=>?_,λj hj hl=>?_,by have:=h.is;simpa using this⟩
   .cases j with
    |zero=>simpa using aL
    |succ j=>have:=h.lo j (by omega);simpa using this
   .cases j with
    |zero=>omega
    |succ j=>have:=h.hi j (by omega) (by simpa using hl);simpa using this
  .refine⟨0,decide (o x t=0),by simp,λj hj=>by omega,λj _ hl=>?_,by simp⟩
   apply Int.not_lt.1;intro hq;have:=dG o d hk hr t 0 j (by omega) hl hq;simp at this;omega
theorem eV{ms:List α}{t:α}{p q:Nat}{f e:Bool}(h:At o d ms t p f)(k:At o d ms t q e):p=q/\f=e:=by
 have hpq:p=q:=by
  rcases Nat.lt_trichotomy p q with aL|rfl|aL
  .have h1:=k.lo p aL
   have h2:=h.hi p (By _) (by have:=k.le;omega);omega
  .rfl
  .have h1:=h.lo q aL
   have h2:=k.hi q (By _) (by have:=h.le;omega);omega
 subst hpq;refine⟨rfl,?_⟩;rw[Bool.eq_iff_iff,h.is,k.is]
theorem ade{ms:List α}(hk:Keyed o)(hr:bO o ms){t:α}{k:Nat}(hl:k<ms.length)(he:o (ms.getD k d) t=0):At o d ms t k true:=by
 refine⟨by omega,λj hj=>?_,λj hj Sm=>?_,⟨λ_=>⟨hl,he⟩,λ_=>rfl⟩⟩
 .rw[<- hk.right _ _ (ms.getD j d) he]
  exact yM o d hr hj hl
 .rcases QO hj with h|rfl
  .rw[<- hk.right _ _ (ms.getD j d) he]
   have:=(hk.gt (ms.getD j d) (ms.getD k d)).2 (yM o d hr h Sm);omega
  .omega
def iE:List α->α->List α
 |[],m=>[m]
 |x::r,m=>if o x m<0 then x::iE r m else if o x m=0 then(if nw m x=true then m::r else x::r) else m::x::r
theorem sQ:∀(ms:List α) (m:α) (p:Nat) (f:Bool),At o d ms m p f ->
 iE o nw ms m=if f=true then(if nw m (ms.getD p d)=true then ms.set p m else ms) else ms.take p++m::ms.drop p
 |[],m,p,f,h=>by
  have hp:p=0:=by have:=h.le;simpa using this
  subst hp;have hf:f=false:=by
   cases f
   .rfl
   .have:=h.is.1 rfl;simp at this
  subst hf;simp[iE]
 |x::r,m,0,f,h=>by
  have h0:=h.hi 0 (By _) (by simp);simp only[IT] at h0;rw[iE,if_neg (by omega)];cases f
  .have bu:¬ o x m=0:=λe=>by have:=h.is.2 ⟨by simp,by simpa using e⟩;cases this
   rw[if_neg bu];simp
  .have he:=(h.is.1 rfl).2
   simp only[IT] at he;rw[if_pos he];simp only[IT,List.set_cons_zero,if_pos]
 |x::r,m,p+1,f,h=>by
  have h0:=h.lo 0 (by omega);simp only[IT] at h0;have hr:At o d r m p f:=⟨by have:=h.le;simpa using this,λj hj=>by have:=h.lo (j+1) (by omega);simpa using this,
   λj hj hl=>by have:=h.hi (j+1) (by omega) (by simpa using hl);simpa using this,by have:=h.is;simpa using this⟩
  rw[iE,if_pos h0,sQ r m p f hr];cases f
  .simp
  .simp only[if_pos,List.getD_cons_succ,Qk]
   split<;>rfl
theorem pB:∀(ms:List α) (m x:α),x∈iE o nw ms m->x=m\/x∈ms
 |[],m,x,h=>by simp[iE] at h;exact .inl h
 |y::r,m,x,h=>by
  rw[iE] at h;split at h
  .rcases Jd.1 h with rfl|h
   .exact .inr (by simp)
   .rcases pB r m x h with h|h
    .exact .inl h
    .exact .inr (by simp[h])
  .split at h
   .split at h
    .rcases Jd.1 h with h|h
     .exact .inl h
     .exact .inr (by simp[h])
    .exact .inr h
   .rcases Jd.1 h with h|h
    .exact .inl h
    .exact .inr h
theorem qK(hk:Keyed o):∀(ms:List α) (m:α),bO o ms->bO o (iE o nw ms m)
 |[],m,_=>by simp[iE]
 |x::r,m,h=>by
  have hx:=Jl.1 h;rw[iE];split
  .rename_i aL
   refine Jl.2 ⟨λy hy=>?_,qK hk r m hx.2⟩;rcases pB o nw r m y hy with rfl|hy
   .exact aL
   .exact hx.1 y hy
  .rename_i aL
   split
   .rename_i he
    split
    .exact Jl.2 ⟨λy hy=>by rw[<- hk.left x m y he];exact hx.1 y hy,hx.2⟩
    .exact h
   .rename_i he
    have hg:=(hk.gt x m).1 (by omega);refine Jl.2 ⟨λy hy=>?_,h⟩;rcases Jd.1 hy with rfl|hy
    .exact hg
    .exact hk.trans _ _ _ hg (hx.1 y hy)
theorem uh:∀(ms:List α) (m:α),ms.length<=(iE o nw ms m).length/\(iE o nw ms m).length<=ms.length+1
 |[],m=>by simp[iE]
 |x::r,m=>by
  have:=uh r m;rw[iE];split
  .simp;omega
  .split
   .split<;>simp
   .simp
def join(a b:List α):List α:=b.foldl (iE o nw) a
theorem qj(hk:Keyed o):∀(b a:List α),bO o a->bO o (join o nw a b)
 |[],_,h=>h
 |m::r,a,h=>qj hk r (iE o nw a m) (qK o nw hk a m h)
theorem tH:∀(b a:List α),(join o nw a b).length<=a.length+b.length
 |[],_=>by simp[join]
 |m::r,a=>by
  have h1:=tH r (iE o nw a m);have h2:=uh o nw a m;simp only[join,Qw,IY] at *;omega
theorem tI:∀(b a:List α) (x:α),x∈join o nw a b->x∈a\/x∈b
 |[],_,_,h=>.inl h
 |m::r,a,x,h=>by
  rcases tI r (iE o nw a m) x h with h|h
  .rcases pB o nw a m x h with rfl|h
   .exact .inr (by simp)
   .exact .inl h
  .exact .inr (by simp[h])
theorem xe(a b:List α)(j:Nat)(hj:j<b.length):join o nw a (b.take (j+1))=iE o nw (join o nw a (b.take j)) (b.getD j d):=by
 rw[o0 d hj,List.take_succ_eq_append_getElem hj,join,List.foldl_append,join];rfl
theorem xE:∀(a:List α) (m:α),(∀x∈a,o x m<0)->iE o nw a m=a++[m]
 |[],_,_=>rfl
 |x::r,m,h=>by
  rw[iE,if_pos (h x (by simp)),xE r m (λy hy=>h y (by simp[hy]))];rfl
theorem AV:∀(b a:List α),bO o (a++b)->join o nw a b=a++b
 |[],a,_=>by simp[join]
 |m::r,a,h=>by
  have h1:=xE o nw a m λx hx=>(List.pairwise_append.1 h).2.2 x hx m (by simp);have h2:=AV r (a++[m]) (by simpa using h);simp only[join,Qw,h1] at h2 ⊢;rw[h2];simp
theorem join_nil(b:List α)(h:bO o b):join o nw [] b=b:=AV o nw b [] h
end
end RL
namespace Wh
open Go.RowKit
structure bC where
 node:ByteArray
 x:Int
 y:Int
 z:Int
 h:Int
 s:Int
def dm:bC:=⟨Ih,0,0,0,0,0⟩
def bC.ok(m:bC):Prop:=m.node.size<=Ij
theorem nU:dm.ok:=by simp[bC.ok,dm]
abbrev As(w:World)(b o:Nat)(m:bC):Prop:=w.cell? ⟨b,o,Y⟩=Z (I m.node)/\w.cell? ⟨b,o+1,Y⟩=Z (O J m.x)/\w.cell? ⟨b,o+2,Y⟩=Z (O J m.y)/\w.cell? ⟨b,o+3,Y⟩=Z (O J m.z)/\w.cell? ⟨b,o+4,Y⟩=Z (O J m.h)/\w.cell? ⟨b,o+5,Y⟩=Z (O J m.s)
theorem As.re{w:World}{b o:Nat}{m:bC}(h:As w b o m):∀d os,As (Go.Sort.grow (redrawn w d) os) b o m:=λd os=>by
 obtain⟨c0,c1,c2,c3,c4,c5⟩:=h;exact⟨Iq c0 d os,Iq c1 d os,Iq c2 d os,Iq c3 d os,Iq c4 d os,Iq c5 d os⟩
theorem As.eq{w w':World}{b o:Nat}{m:bC}(h:As w b o m)(e:∀o,w'.cell? ⟨b,o,Y⟩=w.cell? ⟨b,o,Y⟩):As w' b o m:=by
 obtain⟨c0,c1,c2,c3,c4,c5⟩:=h;exact⟨(e _).trans c0,(e _).trans c1,(e _).trans c2,(e _).trans c3,(e _).trans c4,(e _).trans c5⟩
def Row(w:World)(b off:Nat)(ms:List bC):Prop:=∀j,j<ms.length->As w b (off+j*6) (ms.getD j dm)
def Sl(w:World)(v:Value)(ms:List bC):Prop:=
 ∃(a:Option Addr) (cap:Nat),v=U a ms.length cap/\(∀j,(ms.getD j dm).ok) /\
  (ms=[]\/∃b off,a=Z ⟨b,off,Y⟩/\b<w.heap.size/\Row w b off ms)
def bC.cs(m:bC):List Value:=[I m.node,O J m.x,O J m.y,O J m.z,O J m.h,O J m.s]
def fl(ms:List bC):List Value:=ms.flatMap bC.cs
theorem bl(m:bC):m.cs.length=6:=rfl
theorem aT(m:bC)(r:List bC):fl (m::r)=m.cs++fl r:=by simp[fl]
theorem cF(a b:List bC):fl (a++b)=fl a++fl b:=by simp[fl]
theorem cT:∀ms:List bC,(fl ms).length=ms.length*6
 |[]=>rfl
 |m::r=>by rw[aT,Ii,cT r,bl,IY];omega
theorem gC:∀(ms:List bC) (i:Nat),(fl ms).take (i*6)=fl (ms.take i)
 |[],i=>by simp[fl]
 |m::r,0=>by simp[fl]
 |m::r,i+1=>by
  rw[aT,On,aT,show(i+1)*6=m.cs.length+i*6 by rw[bl];omega,OE,gC r i]
theorem gD:∀(ms:List bC) (i:Nat),(fl ms).drop (i*6)=fl (ms.drop i)
 |[],i=>by simp[fl]
 |m::r,0=>by simp
 |m::r,i+1=>by
  rw[aT,Qa,show(i+1)*6=m.cs.length+i*6 by rw[bl];omega,OF,gD r i]
theorem cC(m:bC):∀v∈m.cs,v.oneCell'=true:=by
 intro v hv;simp[bC.cs] at hv;rcases hv with rfl|rfl|rfl|rfl|rfl|rfl<;>rfl
theorem fi(ms:List bC):∀v∈fl ms,v.oneCell'=true:=by
 intro v hv;obtain⟨m,_,h⟩:=OT.1 hv;exact cC m v h
theorem ed(ms:List bC)(j:Nat)(hj:j<ms.length)(t:Nat)(ht:t<6):(fl ms)[j*6+t]?=(ms.getD j dm).cs[t]?:=by
 induction ms generalizing j with
 |nil=>simp at hj
 |cons m r ih=>
  rw[aT];cases j with
  |zero=>rw[JA (by rw[bl];omega)];simp
  |succ j=>
   rw[JE (by rw[bl];omega),bl,show(j+1)*6+t-6=j*6+t by omega,ih j (by simpa using hj)];simp
abbrev Own(base:Nat)(w:World)(v:Value)(ms:List bC):Prop:=w.ownsRow base 142 6 v ms.length (fl ms)
theorem fV{base g G:Nat}{w:World}{cur:Array Value}{ms:List bC}(hb:base<=g)(hg:w.heap[g]?=Z (AT cur 142 (0,0)))(hs:cur.size=G*6)(hn:ms.length<=G)(hG:G<=Ij)(ht:cur.toList.take (ms.length*6)=fl ms) :
 Own base w (U (Z ⟨g,0,Y⟩) ms.length G) ms:=⟨cT ms,.inr ⟨g,G,cur,rfl,hb,hg,hn,hG,hs,ht⟩⟩
theorem Own.sl{base:Nat}{w:World}{v:Value}{ms:List bC}(h:Own base w v ms)(hs:∀j,(ms.getD j dm).ok):Sl w v ms:=by
 rcases h.2 with⟨rfl,h0⟩|⟨g,c,cur,rfl,dQ,hg,eC,dj,cM,aO⟩
 .exact⟨Y,0,by rw[h0],hs,.inl (IX h0)⟩
 .refine⟨_,c,rfl,hs,.inr ⟨g,0,rfl,(Ia.1 hg).1,λj hj=>?_⟩⟩
  have hc:∀t,t<6->w.cell? ⟨g,0+j*6+t,Y⟩=(ms.getD j dm).cs[t]?:=λt ht=>by
   rw[af hg,<- ed ms j hj t ht,<- aO,IF (by omega)];simp
  exact⟨hc 0 (by omega),hc 1 (by omega),hc 2 (by omega),hc 3 (by omega),hc 4 (by omega),hc 5 (by omega)⟩
theorem Own.below{base:Nat}{w w':World}{v:Value}{ms:List bC}(h:Own base w v ms)(hb:Below w.heap.size w w'):Own base w' v ms:=by
 rcases h.2 with⟨rfl,h0⟩|⟨g,c,cur,rfl,dQ,hg,eC,dj,cM,aO⟩
 .exact⟨h.1,.inl ⟨rfl,h0⟩⟩
 .have aL:=(Ia.1 hg).1
  exact⟨h.1,.inr ⟨g,c,cur,rfl,dQ,(hb.block g aL).trans hg,eC,dj,cM,aO⟩⟩
theorem Own.lt{base:Nat}{w:World}{v:Value}{ms:List bC}(h:Own base w v ms)(k:Nat)(hk:v.ownBlock=Z k):base<=k/\k<w.heap.size:=I6 h k hk
theorem Sl.below{w w':World}{v:Value}{ms:List bC}(h:Sl w v ms)(hb:Below w.heap.size w w'):Sl w' v ms:=by
 obtain⟨a,cap,rfl,hs,h⟩:=h;refine⟨a,cap,rfl,hs,?_⟩;rcases h with h|⟨b,off,rfl,aL,hr⟩
 .exact .inl h
 .refine .inr ⟨b,off,rfl,Iv aL hb.size,λj hj=>?_⟩
  exact(hr j hj).eq (λo=>(cH hb).1 b o aL)
theorem Row.later{w w':World}{b off:Nat}{ms:List bC}(hr:Row w b off ms)(hb:Below w.heap.size w w')(aL:b<w.heap.size):Row w' b off ms:=λj hj=>(hr j hj).eq (λo=>(cH hb).1 b o aL)
theorem Own.mono{base jS:Nat}{w:World}{v:Value}{ms:List bC}(h:Own base w v ms)(hb:jS<=base):Own jS w v ms:=by
 rcases h.2 with⟨rfl,h0⟩|⟨g,c,cur,rfl,dQ,hg,eC,dj,cM,aO⟩
 .exact⟨h.1,.inl ⟨rfl,h0⟩⟩
 .exact⟨h.1,.inr ⟨g,c,cur,rfl,Ir hb dQ,hg,eC,dj,cM,aO⟩⟩
theorem bj(base:Nat)(w:World):Own base w (U Y 0 0) []:=Jp w base 142 6
theorem cZ{ms:List bC}(h:∀j,(ms.getD j dm).ok):∀m∈ms,(m).ok:=by
 intro m hm;obtain⟨j,hj,rfl⟩:=Jw hm;have:=h j;simpa[Io,Ic hj] using this
theorem cB{ms:List bC}(h:∀m∈ms,(m).ok):∀j,(ms.getD j dm).ok:=by
 intro j;by_cases hj:j<ms.length
 .have:=h ms[j] (IV hj)
  simpa[Io,Ic hj] using this
 .rw[Io,IP (QF hj)];exact nU
end Wh
namespace Wh
open Go.RowKit
theorem Tryz.pC:(Tryz.prog.info? 142).map (λi=>(i.zero,i.size,i.bytes))=Z (Z (.agg #[I ⟨#[]⟩,O J 0,O J 0,O J 0,O J 0,O J 0]),6,56):=by kernel_rfl
theorem Ft:(Tryz.prog.info? 142).map (·.size)=Z 6:=by
 obtain⟨i,hi,h1,h2,h3⟩:=I0 Tryz.pC;rw[hi];simp[h2]
theorem sizeOf142(w:World):(Go.sizeOf 142).run be w=.ok 6 w:=by
 obtain⟨i,hi,h1,h2,h3⟩:=I0 Tryz.pC;simp[Go.sizeOf,typeInfo,hi,h2]
theorem eI(w:World)(g vb o lb cb:Nat)(cur vs:Array Value)(hg:w.heap[g]?=Z (AT cur 142 (0,0)))(hv:w.heap[vb]?=Z (AT vs 142 (0,0)))(bu:vb≠g)(hk:cur.size≠0) : (callFunc 212 #[U (Z ⟨vb,0,Y⟩) 1 1,U (Z ⟨g,o,Y⟩) lb cb]).run be w=.ok (.value (AI false)) w:=by
 rw[O9 Tryz.func212 (by kernel_rfl) (by kernel_rfl) (by kernel_rfl) (e:=OX #[28,28] #[4]) (by kernel_rfl),
  QT w 28 4 142 OK 6 sizeOf142 ⟨vb,0,Y⟩ ⟨g,o,Y⟩ 1 1 lb cb bu 142 142 vs.size cur.size (by simp[O8,hv]) (by simp[O8,hg]) hk (by simp[Ig,hv]) (by simp[Ig,hv])]
 rfl
theorem fk(g n c i vb:Nat)(cur:Array Value)(vs:List Value)(w:World)(hg:w.heap[g]?=Z (AT cur 142 (0,0)))(cM:cur.size=c*6)(hi:i<n)(cV:n+1<=c)(Dz:c<=9223372036854775807)(qa:vb≠g)(hv:w.heap[vb]?=Z (AT vs.toArray 142 (0,0)))(oN:vs.length=6)(kR:∀v∈cur.toList.take (n*6),v.oneCell'=true)(lZ:∀v∈vs,v.oneCell'=true) :
 aP 151 #[U (Z ⟨g,0,Y⟩) n c,O J i,U (Z ⟨vb,0,Y⟩) 1 1] w λe w'=>e=sh (U (Z ⟨g,0,Y⟩) (n+1) c) /\
  ∃dF:Array Value,w'.heap[g]?=Z (AT dF 142 (0,0))/\dF.size=c*6/\dF.toList.take ((n+1)*6)=cur.toList.take (i*6)++vs++(cur.toList.take (n*6)).drop (i*6)/\w.grownBy w' (Z g):=by
 have hov:=λo lb cb=>eI w g vb o lb cb cur vs.toArray hg hv qa (by omega);have iX:¬ ((i:Int)=(n:Int)):=by omega
 have aC:¬ (c=i+1):=by omega
 have fa:¬ (c=i):=by omega
 have bf:(i:Int)<=(n:Int)+1:=by omega
 obtain⟨W1,W2,oy,ui,HF⟩:=oQ OK Ft hg cM hi cV qa hv oN kR lZ;have HF:Hid _:=HF;clear kR lZ hg hv;have De:IntKind.i64.wrap ((i:Int)+1)=(i:Int)+1:=by rw[IK];omega
 have al:(0:Int)<=(i:Int)+1:=by omega
 have DA:i<=n:=by omega
 have L3:((i:Int)+1).toNat=i+1:=by omega
 go_enter Tryz.func151,Tryz.ntmps151;go_wp2_with (simp only[hov]);go_region_law (refine cY rfl _ _ 28 28 rfl _ _ (by simp[OO,Qe]) (by simp[OO,Qe]) (oy _ _ _) ?_)
 go_wp2_with fail;go_ret;exact⟨rfl,HF.out⟩
theorem fm(g n c i vb:Nat)(cur:Array Value)(vs:List Value)(w:World)(hg:w.heap[g]?=Z (AT cur 142 (0,0)))(cM:cur.size=c*6)(hi:i<n)(eC:n<=c)(cV:c<n+1)(Dz:n<=1000)(hv:w.heap[vb]?=Z (AT vs.toArray 142 (0,0)))(oN:vs.length=6)(kR:∀v∈cur.toList.take (n*6),v.oneCell'=true)(lZ:∀v∈vs,v.oneCell'=true) :
 aP 151 #[U (Z ⟨g,0,Y⟩) n c,O J i,U (Z ⟨vb,0,Y⟩) 1 1] w λe w'=>∃G,e=sh (U (Z ⟨w.heap.size,0,Y⟩) (n+1) G)/\n+1<=G/\G<=Ij /\
  ∃dF:Array Value,w'.heap[w.heap.size]?=Z (AT dF 142 (0,0))/\dF.size=G*6/\dF.toList.take ((n+1)*6)=cur.toList.take (i*6)++vs++(cur.toList.take (n*6)).drop (i*6)/\w.grownBy w' Y:=by
 obtain⟨i0,ei,bW,fs,eU⟩:=I0 Tryz.pC;have vE:c=n:=by omega
 subst vE;have iX:¬ ((i:Int)=(c:Int)):=by omega
 have lN:(c:Int)<(c:Int)+1:=by omega
 have Az:(c:Int)+1-(i:Int)=((c+1-i:Nat):Int):=by omega
 have DB:i+(c+1-i)=c+1:=by omega
 have hold:(QJ i0.size i (U (Z ⟨g,0,Y⟩) i c)).run be w.drew=.ok (cur.toList.take (i*6)).toArray w.drew:=by
  rw[fs];exact Um w.drew 6 i ⟨g,0,Y⟩ i c (cur.toList.take (i*6)) (by rw[Iu,IQ];omega) (λj v hj=>by
   have e:w.drew.cell? ((⟨g,0,Y⟩:Addr).add j)=cur[j]?:=by rw[I3,IM];exact af hg _
   rw[e];rw[QK] at hj;split at hj
   .simpa using hj
   .cases hj)
 have yN:∀ty,∃G lE,c+1<=G/\G<=Ij/\lE.size=G*6/\lE.toList.take (i*6)=cur.toList.take (i*6)/\(Ut #[28,3] ty #[U (Z ⟨g,0,Y⟩) i c,O J ((c:Int)+1-(i:Int))]).run be w =
  .ok (U (Z ⟨w.heap.size,0,Y⟩) (c+1) G) (w.drew.alloc (AT lE 142)):=λty=>by
  have h:=QB w 28 3 ty 142 i0 _ J J OK IG ei bW (Z ⟨g,0,Y⟩) i c (cur.toList.take (i*6)) hold (c+1-i) (by omega) (by omega) (by omega) (by omega) (by rw[eU];omega) (by rw[eU,DB];exact growslice_fits cV (by omega));rw[DB] at h;rw[Az];have h1:=grownCap_ge w (c+1) c 142;refine⟨_,_,h1,UC w (c+1) c 142 (by unfold Ij;omega),?_,?_,h⟩
  .simp only[Array.size_append,Oa,size_zeroCells,Iu,IQ,cM,Value.cells]
   simp;omega
  .simp only[Un,I1]
   exact Qs (by simp only[Iu,IQ,cM];omega)
 obtain⟨G,lE,kT,vG,Cs,Gb,yN⟩:=yN 28;have aaz:G<=9223372036854775807:=by unfold Ij at vG;omega
 obtain⟨W2,W3,oy,ui,HF⟩:=oR OK Ft hg cM hi hv oN kR lZ kT Cs Gb;obtain⟨W1,e9⟩:∃W1,W1=(w.alloc (AT lE 142)).drew:=⟨_,rfl⟩;have Fg:w.drew.alloc (AT lE 142)=W1:=by rw[e9];rfl
 rw[Fg] at yN;rw[<- e9] at oy;have HF:Hid _:=HF;have De:IntKind.i64.wrap ((i:Int)+1)=(i:Int)+1:=by rw[IK];omega
 have al:(0:Int)<=(i:Int)+1:=by omega
 have DA:i<=c:=by omega
 have L3:((i:Int)+1).toNat=i+1:=by omega
 have hGi:¬ (G=i):=by omega
 have aaA:¬ (G=i+1):=by omega
 have hci:¬ (c=i):=by omega
 clear e9 kR lZ Fg Cs Gb Az DB hold hg hv ei bW fs eU;go_enter Tryz.func151,Tryz.ntmps151;go_wp2_with (at_builtin;refine Q2 _ rfl _ _ _ _ rfl _ _ rfl rfl _ _ yN ?_);go_region_law (refine cY rfl _ _ 28 28 rfl _ _ (by simp[OO,Qe]) (by simp[OO,Qe]) (ui _ _ _) ?_)
 go_wp2_with fail;go_ret;exact⟨G,rfl,kT,vG,HF.out⟩
theorem fX(base n vb:Nat)(v:Value)(xs vs:List Value)(w:World)(hown:w.ownsRow base 142 6 v n xs)(hn:n<=1000)(hbase:base<=w.heap.size)(hv:w.heap[vb]?=Z (AT vs.toArray 142 (0,0)))(oN:vs.length=6)(lZ:∀v∈vs,v.oneCell'=true) :
 aP 151 #[v,O J n,U (Z ⟨vb,0,Y⟩) 1 1] w λe w'=>∃v',e=sh v'/\w'.ownsRow base 142 6 v' (n+1) (xs++vs)/\w.grownBy w' v.ownBlock:=by
 obtain⟨i0,ei,bW,fs,eU⟩:=I0 Tryz.pC;have hnews:∀j u,vs[j]?=Z u->w.cell? ((⟨vb,0,Y⟩:Addr).add j)=Z u:=λj v hj=>by rw[I3,af hv];simpa using hj
 have HO:Hid (w.ownsRow base 142 6 v n xs):=hown;rcases hown.2 with⟨rfl,rfl⟩|⟨g,c,cur,rfl,_,_,eC,dj,_,_⟩;rotate_left;unfold Ij at dj;by_cases vE:c=n;subst vE;all_goals
  clear hown hv;go_enter Tryz.func151,Tryz.ntmps151;go_wp2_with (at_builtin;refine I5 _ rfl _ _ 28 rfl base 142 i0 _ 6 56 OK ei bW fs eU rfl (by omega) _ _ xs rfl HO.out ⟨vb,0,Y⟩ 1 1 vs rfl (by omega) hnews lZ (by unfold Ij;omega) (by omega) hbase ?_);intro v' w' r1 r2 r3;go_wp2_with fail;go_ret;exact⟨v',rfl,r1,r2⟩
theorem fQ(base i vb:Nat)(v:Value)(ms:List bC)(m:bC)(w:World)(hown:Own base w v ms)(hi:i<=ms.length)(hn:ms.length<=1000)(hbase:base<=w.heap.size)(hv:w.heap[vb]?=Z (AT m.cs.toArray 142 (0,0)))(bu:v.ownBlock≠Z vb) :
 aP 151 #[v,O J i,U (Z ⟨vb,0,Y⟩) 1 1] w λe w'=>∃v',e=sh v'/\Own base w' v' (ms.take i++m::ms.drop i)/\w.grownBy w' v.ownBlock:=by
 have hlen:(ms.take i++m::ms.drop i).length=ms.length+1:=by simp;omega
 have oi:fl (ms.take i++m::ms.drop i)=(fl ms).take (i*6)++m.cs++(fl ms).drop (i*6):=by rw[cF,aT,gC,gD,I1]
 by_cases DA:i=ms.length
 .subst DA
  refine(fX base ms.length vb v (fl ms) m.cs w hown hn hbase hv rfl (cC m)).mono ?_;rintro e w' ⟨v',rfl,h1,h2⟩;refine⟨v',rfl,?_,h2⟩;have e1:ms.take ms.length++m::ms.drop ms.length=ms++[m]:=by simp
  have e2:fl (ms++[m])=fl ms++m.cs:=by rw[cF,aT];simp[fl]
  rw[e1];show w'.ownsRow base 142 6 v' (ms++[m]).length (fl (ms++[m]));rw[e2,show(ms++[m]).length=ms.length+1 by simp];exact h1
 .rcases hown.2 with⟨_,h0⟩|⟨g,c,cur,rfl,dQ,hg,eC,dj,cM,aO⟩
  .omega
  .have qa:vb≠g:=λe=>bu (by simp[I2,e])
   have kR:∀v∈cur.toList.take (ms.length*6),v.oneCell'=true:=by rw[aO];exact fi ms
   have T1:cur.toList.take (i*6)=(fl ms).take (i*6):=by rw[<- aO,Q8];congr 1;omega
   have key:∀l:List Value,l=cur.toList.take (i*6)++m.cs++(cur.toList.take (ms.length*6)).drop (i*6)->l=fl (ms.take i++m::ms.drop i):=λl hl=>by rw[hl,oi,aO,T1]
   by_cases cV:ms.length+1<=c
   .refine(fk g ms.length c i vb cur m.cs w hg cM (by omega) cV (by unfold Ij at dj;omega) qa hv rfl kR (cC m)).mono ?_
    rintro e w' ⟨rfl,dF,h1,h2,h3,h4⟩;refine⟨_,rfl,?_,h4⟩;rw[<- hlen];exact fV dQ h1 h2 (by omega) dj (key _ (by rw[hlen];exact h3))
   .refine(fm g ms.length c i vb cur m.cs w hg cM (by omega) eC (by omega) hn hv rfl kR (cC m)).mono ?_
    rintro e w' ⟨G,rfl,kT,vG,dF,h1,h2,h3,h4⟩;refine⟨_,rfl,?_,mW h4 _⟩;rw[<- hlen];exact fV hbase h1 h2 (by omega) vG (key _ (by rw[hlen];exact h3))
end Wh
namespace Sv
open Go.RowKit
structure aI where
 node:ByteArray
 bF:ByteArray
 name:ByteArray
 tag:ByteArray
 addr:Int
 port:Int
 au:Bool
 version:Int
 gone:Bool
def dm:aI:=⟨Ih,Ih,Ih,Ih,0,0,false,0,false⟩
def aI.ok(m:aI):Prop:=m.node.size<=Ij/\m.bF.size<=Ij/\m.name.size<=Ij/\m.tag.size<=Ij
theorem nU:dm.ok:=by simp[aI.ok,dm]
abbrev As(w:World)(b o:Nat)(m:aI):Prop:=w.cell? ⟨b,o,Y⟩=Z (I m.node)/\w.cell? ⟨b,o+1,Y⟩=Z (I m.bF)/\w.cell? ⟨b,o+2,Y⟩=Z (I m.name)/\w.cell? ⟨b,o+3,Y⟩=Z (I m.tag)/\w.cell? ⟨b,o+4,Y⟩=Z (O J m.addr)/\w.cell? ⟨b,o+5,Y⟩=Z (O J m.port)/\w.cell? ⟨b,o+6,Y⟩=Z (AI m.au)/\w.cell? ⟨b,o+7,Y⟩=Z (O J m.version)/\w.cell? ⟨b,o+8,Y⟩=Z (AI m.gone)
theorem As.re{w:World}{b o:Nat}{m:aI}(h:As w b o m):∀d os,As (Go.Sort.grow (redrawn w d) os) b o m:=λd os=>by
 obtain⟨c0,c1,c2,c3,c4,c5,c6,c7,c8⟩:=h;exact⟨Iq c0 d os,Iq c1 d os,Iq c2 d os,Iq c3 d os,Iq c4 d os,Iq c5 d os,Iq c6 d os,Iq c7 d os,Iq c8 d os⟩
theorem As.eq{w w':World}{b o:Nat}{m:aI}(h:As w b o m)(e:∀o,w'.cell? ⟨b,o,Y⟩=w.cell? ⟨b,o,Y⟩):As w' b o m:=by
 obtain⟨c0,c1,c2,c3,c4,c5,c6,c7,c8⟩:=h;exact⟨(e _).trans c0,(e _).trans c1,(e _).trans c2,(e _).trans c3,(e _).trans c4,(e _).trans c5,(e _).trans c6,(e _).trans c7,(e _).trans c8⟩
def Row(w:World)(b off:Nat)(ms:List aI):Prop:=∀j,j<ms.length->As w b (off+j*9) (ms.getD j dm)
def Sl(w:World)(v:Value)(ms:List aI):Prop:=
 ∃(a:Option Addr) (cap:Nat),v=U a ms.length cap/\(∀j,(ms.getD j dm).ok) /\
  (ms=[]\/∃b off,a=Z ⟨b,off,Y⟩/\b<w.heap.size/\Row w b off ms)
def aI.cs(m:aI):List Value:=[I m.node,I m.bF,I m.name,I m.tag,O J m.addr,O J m.port,AI m.au,O J m.version,AI m.gone]
def fl(ms:List aI):List Value:=ms.flatMap aI.cs
theorem bl(m:aI):m.cs.length=9:=rfl
theorem aT(m:aI)(r:List aI):fl (m::r)=m.cs++fl r:=by simp[fl]
theorem cF(a b:List aI):fl (a++b)=fl a++fl b:=by simp[fl]
theorem cT:∀ms:List aI,(fl ms).length=ms.length*9
 |[]=>rfl
 |m::r=>by rw[aT,Ii,cT r,bl,IY];omega
theorem gC:∀(ms:List aI) (i:Nat),(fl ms).take (i*9)=fl (ms.take i)
 |[],i=>by simp[fl]
 |m::r,0=>by simp[fl]
 |m::r,i+1=>by
  rw[aT,On,aT,show(i+1)*9=m.cs.length+i*9 by rw[bl];omega,OE,gC r i]
theorem gD:∀(ms:List aI) (i:Nat),(fl ms).drop (i*9)=fl (ms.drop i)
 |[],i=>by simp[fl]
 |m::r,0=>by simp
 |m::r,i+1=>by
  rw[aT,Qa,show(i+1)*9=m.cs.length+i*9 by rw[bl];omega,OF,gD r i]
theorem cC(m:aI):∀v∈m.cs,v.oneCell'=true:=by
 intro v hv;simp[aI.cs] at hv;rcases hv with rfl|rfl|rfl|rfl|rfl|rfl|rfl|rfl|rfl<;>rfl
theorem fi(ms:List aI):∀v∈fl ms,v.oneCell'=true:=by
 intro v hv;obtain⟨m,_,h⟩:=OT.1 hv;exact cC m v h
theorem ed(ms:List aI)(j:Nat)(hj:j<ms.length)(t:Nat)(ht:t<9):(fl ms)[j*9+t]?=(ms.getD j dm).cs[t]?:=by
 induction ms generalizing j with
 |nil=>simp at hj
 |cons m r ih=>
  rw[aT];cases j with
  |zero=>rw[JA (by rw[bl];omega)];simp
  |succ j=>
   rw[JE (by rw[bl];omega),bl,show(j+1)*9+t-9=j*9+t by omega,ih j (by simpa using hj)];simp
theorem uj(ms:List aI)(p:Nat)(hp:p<ms.length)(m:aI):((((((((((fl ms).set (p*9) (I m.node)).set (p*9+1) (I m.bF)).set (p*9+2) (I m.name)).set (p*9+3) (I m.tag)).set (p*9+4) (O J m.addr)).set (p*9+5) (O J m.port)).set (p*9+6) (AI m.au)).set (p*9+7) (O J m.version)).set (p*9+8) (AI m.gone))=fl (ms.set p m):=by
 induction ms generalizing p with
 |nil=>simp at hp
 |cons x r ih=>
  cases p with
  |zero=>simp[fl,aI.cs]
  |succ p=>
   have XK:=ih p (by simpa using hp);rw[Qk,aT,aT,<- XK];simp only[Nat.add_mul,Nat.one_mul];have e:∀(l:List Value) (k:Nat) (v:Value),(x.cs++l).set (k+9) v=x.cs++l.set k v:=λl k v=>by
    rw[List.set_append,if_neg (by rw[bl];omega),bl,Nat.add_sub_cancel]
   have c:∀i:Nat,p*9+9+i=(p*9+i)+9:=λi=>by omega
   simp only[c];rw[e,e,e,e,e,e,e,e,e]
abbrev Own(base:Nat)(w:World)(v:Value)(ms:List aI):Prop:=w.ownsRow base 52 9 v ms.length (fl ms)
theorem fV{base g G:Nat}{w:World}{cur:Array Value}{ms:List aI}(hb:base<=g)(hg:w.heap[g]?=Z (AT cur 52 (0,0)))(hs:cur.size=G*9)(hn:ms.length<=G)(hG:G<=Ij)(ht:cur.toList.take (ms.length*9)=fl ms) :
 Own base w (U (Z ⟨g,0,Y⟩) ms.length G) ms:=⟨cT ms,.inr ⟨g,G,cur,rfl,hb,hg,hn,hG,hs,ht⟩⟩
theorem Own.sl{base:Nat}{w:World}{v:Value}{ms:List aI}(h:Own base w v ms)(hs:∀j,(ms.getD j dm).ok):Sl w v ms:=by
 rcases h.2 with⟨rfl,h0⟩|⟨g,c,cur,rfl,dQ,hg,eC,dj,cM,aO⟩
 .exact⟨Y,0,by rw[h0],hs,.inl (IX h0)⟩
 .refine⟨_,c,rfl,hs,.inr ⟨g,0,rfl,(Ia.1 hg).1,λj hj=>?_⟩⟩
  have hc:∀t,t<9->w.cell? ⟨g,0+j*9+t,Y⟩=(ms.getD j dm).cs[t]?:=λt ht=>by
   rw[af hg,<- ed ms j hj t ht,<- aO,IF (by omega)];simp
  exact⟨hc 0 (by omega),hc 1 (by omega),hc 2 (by omega),hc 3 (by omega),hc 4 (by omega),hc 5 (by omega),hc 6 (by omega),hc 7 (by omega),hc 8 (by omega)⟩
theorem Own.below{base:Nat}{w w':World}{v:Value}{ms:List aI}(h:Own base w v ms)(hb:Below w.heap.size w w'):Own base w' v ms:=by
 rcases h.2 with⟨rfl,h0⟩|⟨g,c,cur,rfl,dQ,hg,eC,dj,cM,aO⟩
 .exact⟨h.1,.inl ⟨rfl,h0⟩⟩
 .have aL:=(Ia.1 hg).1
  exact⟨h.1,.inr ⟨g,c,cur,rfl,dQ,(hb.block g aL).trans hg,eC,dj,cM,aO⟩⟩
theorem Own.lt{base:Nat}{w:World}{v:Value}{ms:List aI}(h:Own base w v ms)(k:Nat)(hk:v.ownBlock=Z k):base<=k/\k<w.heap.size:=I6 h k hk
theorem below_grown{base:Nat}{w w1 w2:World}{v:Value}{ms:List aI}(hb:Below base w w1)(h:Own base w1 v ms)(hg:w1.grownBy w2 v.ownBlock)(hbase:base<=w1.heap.size):Below base w w2:=
 hb.grown hg hbase (λk hk=>(h.lt k hk).1)
theorem dH{base g c:Nat}{w:World}{ms:List aI}(h:Own base w (U (Z ⟨g,0,Y⟩) ms.length c) ms)(j:Nat)(hj:j<ms.length) :
 As w g (j*9) (ms.getD j dm):=by
 rcases h.2 with⟨h1,_⟩|⟨g',c',cur,h1,dQ,hg,eC,dj,cM,aO⟩
 .cases h1
 .simp only[Value.slice.injEq,Option.some.injEq,Addr.mk.injEq] at h1
  obtain⟨⟨rfl,_,_⟩,_,_⟩:=h1;have hc:∀t,t<9->w.cell? ⟨g,j*9+t,Y⟩=(ms.getD j dm).cs[t]?:=λt ht=>by
   rw[af hg,<- ed ms j hj t ht,<- aO,IF (by omega)];simp
  exact⟨hc 0 (by omega),hc 1 (by omega),hc 2 (by omega),hc 3 (by omega),hc 4 (by omega),hc 5 (by omega),hc 6 (by omega),hc 7 (by omega),hc 8 (by omega)⟩
theorem eL{base:Nat}{w:World}{v:Value}{ms:List aI}(h:Own base w v ms)(p:Nat)(hp:p<ms.length):∃g c,v=U (Z ⟨g,0,Y⟩) ms.length c:=by
 rcases h.2 with⟨_,h0⟩|⟨g,c,cur,h1,_⟩
 .omega
 .exact⟨g,c,h1⟩
theorem oW{base g c p:Nat}{W:World}{ms:List aI}(h:Own base W (U (Z ⟨g,0,Y⟩) ms.length c) ms)(hp:p<ms.length)(m:aI) :
 Own base (((((((((W.setCell ⟨g,p*9,Y⟩ (I m.node)).setCell ⟨g,p*9+1,Y⟩ (I m.bF)).setCell ⟨g,p*9+2,Y⟩ (I m.name)).setCell ⟨g,p*9+3,Y⟩ (I m.tag)).setCell ⟨g,p*9+4,Y⟩ (O J m.addr)).setCell ⟨g,p*9+5,Y⟩ (O J m.port)).setCell ⟨g,p*9+6,Y⟩ (AI m.au)).setCell ⟨g,p*9+7,Y⟩ (O J m.version)).setCell ⟨g,p*9+8,Y⟩ (AI m.gone)) (U (Z ⟨g,0,Y⟩) ms.length c) (ms.set p m):=by
 have h1:=IW h (p*9) (I m.node);have h2:=IW h1.1 (p*9+1) (I m.bF);have h3:=IW h2.1 (p*9+2) (I m.name);have h4:=IW h3.1 (p*9+3) (I m.tag);have h5:=IW h4.1 (p*9+4) (O J m.addr);have h6:=IW h5.1 (p*9+5) (O J m.port);have h7:=IW h6.1 (p*9+6) (AI m.au);have h8:=IW h7.1 (p*9+7) (O J m.version);have h9:=IW h8.1 (p*9+8) (AI m.gone);have e:=h9.1;rw[uj ms p hp m] at e;show World.ownsRow _ _ _ _ _ (ms.set p m).length _;rw[List.length_set];exact e
theorem Sl.below{w w':World}{v:Value}{ms:List aI}(h:Sl w v ms)(hb:Below w.heap.size w w'):Sl w' v ms:=by
 obtain⟨a,cap,rfl,hs,h⟩:=h;refine⟨a,cap,rfl,hs,?_⟩;rcases h with h|⟨b,off,rfl,aL,hr⟩
 .exact .inl h
 .refine .inr ⟨b,off,rfl,Iv aL hb.size,λj hj=>?_⟩
  exact(hr j hj).eq (λo=>(cH hb).1 b o aL)
theorem Row.later{w w':World}{b off:Nat}{ms:List aI}(hr:Row w b off ms)(hb:Below w.heap.size w w')(aL:b<w.heap.size):Row w' b off ms:=λj hj=>(hr j hj).eq (λo=>(cH hb).1 b o aL)
theorem Own.mono{base jS:Nat}{w:World}{v:Value}{ms:List aI}(h:Own base w v ms)(hb:jS<=base):Own jS w v ms:=by
 rcases h.2 with⟨rfl,h0⟩|⟨g,c,cur,rfl,dQ,hg,eC,dj,cM,aO⟩
 .exact⟨h.1,.inl ⟨rfl,h0⟩⟩
 .exact⟨h.1,.inr ⟨g,c,cur,rfl,Ir hb dQ,hg,eC,dj,cM,aO⟩⟩
theorem bj(base:Nat)(w:World):Own base w (U Y 0 0) []:=Jp w base 52 9
theorem cZ{ms:List aI}(h:∀j,(ms.getD j dm).ok):∀m∈ms,(m).ok:=by
 intro m hm;obtain⟨j,hj,rfl⟩:=Jw hm;have:=h j;simpa[Io,Ic hj] using this
theorem cB{ms:List aI}(h:∀m∈ms,(m).ok):∀j,(ms.getD j dm).ok:=by
 intro j;by_cases hj:j<ms.length
 .have:=h ms[j] (IV hj)
  simpa[Io,Ic hj] using this
 .rw[Io,IP (QF hj)];exact nU
theorem gd{base:Nat}{w:World}{v:Value}{ms:List aI}(h:Own base w v ms)(hs:∀m∈ms,(m).ok):Sl w v ms:=h.sl (cB hs)
theorem qe(w:World)(b cap:Nat)(m:aI)(hm:(m).ok)(hg:w.heap[b]?=Z (AT #[I m.node,I m.bF,I m.name,I m.tag,O J m.addr,O J m.port,AI m.au,O J m.version,AI m.gone] 52 (0,0))):Sl w (U (Z ⟨b,0,Y⟩) 1 cap) [m]:=by
 refine⟨_,cap,rfl,cB (λx hx=>by simp at hx;subst hx;exact hm),.inr ⟨b,0,rfl,(Ia.1 hg).1,λj hj=>?_⟩⟩
 have:j=0:=by simpa using hj
 subst this;exact⟨af hg (0+0*9),af hg (0+0*9+1),af hg (0+0*9+2),af hg (0+0*9+3),af hg (0+0*9+4),af hg (0+0*9+5),af hg (0+0*9+6),af hg (0+0*9+7),af hg (0+0*9+8)⟩
theorem eM{base:Nat}{w:World}{v:Value}{L:List aI}{m:aI}(h:w.ownsRow base 52 9 v (L.length+1) (fl L++m.cs)):Own base w v (L++[m]):=by
 have e:fl (L++[m])=fl L++m.cs:=by rw[cF,aT];simp[fl]
 show w.ownsRow base 52 9 v (L++[m]).length (fl (L++[m]));rw[e,Ii];exact h
end Sv
namespace Sv
open Go.RowKit
theorem Tryz.qo:(Tryz.prog.info? 52).map (λi=>(i.zero,i.size,i.bytes))=Z (Z (.agg #[I ⟨#[]⟩,I ⟨#[]⟩,I ⟨#[]⟩,I ⟨#[]⟩,O J 0,O J 0,AI false,O J 0,AI false]),9,104):=by kernel_rfl
theorem N1:(Tryz.prog.info? 52).map (·.size)=Z 9:=by
 obtain⟨i,hi,h1,h2,h3⟩:=I0 Tryz.qo;rw[hi];simp[h2]
theorem sizeOf52(w:World):(Go.sizeOf 52).run be w=.ok 9 w:=by
 obtain⟨i,hi,h1,h2,h3⟩:=I0 Tryz.qo;simp[Go.sizeOf,typeInfo,hi,h2]
theorem eI(w:World)(g vb o lb cb:Nat)(cur vs:Array Value)(hg:w.heap[g]?=Z (AT cur 52 (0,0)))(hv:w.heap[vb]?=Z (AT vs 52 (0,0)))(bu:vb≠g)(hk:cur.size≠0) : (callFunc 272 #[U (Z ⟨vb,0,Y⟩) 1 1,U (Z ⟨g,o,Y⟩) lb cb]).run be w=.ok (.value (AI false)) w:=by
 rw[O9 Tryz.func272 (by kernel_rfl) (by kernel_rfl) (by kernel_rfl) (e:=OX #[24,24] #[4]) (by kernel_rfl),
  QT w 24 4 52 JK 9 sizeOf52 ⟨vb,0,Y⟩ ⟨g,o,Y⟩ 1 1 lb cb bu 52 52 vs.size cur.size (by simp[O8,hv]) (by simp[O8,hg]) hk (by simp[Ig,hv]) (by simp[Ig,hv])]
 rfl
theorem fk(g n c i vb:Nat)(cur:Array Value)(vs:List Value)(w:World)(hg:w.heap[g]?=Z (AT cur 52 (0,0)))(cM:cur.size=c*9)(hi:i<n)(cV:n+1<=c)(Dz:c<=9223372036854775807)(qa:vb≠g)(hv:w.heap[vb]?=Z (AT vs.toArray 52 (0,0)))(oN:vs.length=9)(kR:∀v∈cur.toList.take (n*9),v.oneCell'=true)(lZ:∀v∈vs,v.oneCell'=true) :
 aP 249 #[U (Z ⟨g,0,Y⟩) n c,O J i,U (Z ⟨vb,0,Y⟩) 1 1] w λe w'=>e=sh (U (Z ⟨g,0,Y⟩) (n+1) c) /\
  ∃dF:Array Value,w'.heap[g]?=Z (AT dF 52 (0,0))/\dF.size=c*9/\dF.toList.take ((n+1)*9)=cur.toList.take (i*9)++vs++(cur.toList.take (n*9)).drop (i*9)/\w.grownBy w' (Z g):=by
 have hov:=λo lb cb=>eI w g vb o lb cb cur vs.toArray hg hv qa (by omega);have iX:¬ ((i:Int)=(n:Int)):=by omega
 have aC:¬ (c=i+1):=by omega
 have fa:¬ (c=i):=by omega
 have bf:(i:Int)<=(n:Int)+1:=by omega
 obtain⟨W1,W2,oy,ui,HF⟩:=oQ JK N1 hg cM hi cV qa hv oN kR lZ;have HF:Hid _:=HF;clear kR lZ hg hv;have De:IntKind.i64.wrap ((i:Int)+1)=(i:Int)+1:=by rw[IK];omega
 have al:(0:Int)<=(i:Int)+1:=by omega
 have DA:i<=n:=by omega
 have L3:((i:Int)+1).toNat=i+1:=by omega
 go_enter Tryz.func249,Tryz.ntmps249;go_wp2_with (simp only[hov]);go_region_law (refine cY rfl _ _ 24 24 rfl _ _ (by simp[OO,Qe]) (by simp[OO,Qe]) (oy _ _ _) ?_)
 go_wp2_with fail;go_ret;exact⟨rfl,HF.out⟩
theorem fm(g n c i vb:Nat)(cur:Array Value)(vs:List Value)(w:World)(hg:w.heap[g]?=Z (AT cur 52 (0,0)))(cM:cur.size=c*9)(hi:i<n)(eC:n<=c)(cV:c<n+1)(Dz:n<=1000)(hv:w.heap[vb]?=Z (AT vs.toArray 52 (0,0)))(oN:vs.length=9)(kR:∀v∈cur.toList.take (n*9),v.oneCell'=true)(lZ:∀v∈vs,v.oneCell'=true) :
 aP 249 #[U (Z ⟨g,0,Y⟩) n c,O J i,U (Z ⟨vb,0,Y⟩) 1 1] w λe w'=>∃G,e=sh (U (Z ⟨w.heap.size,0,Y⟩) (n+1) G)/\n+1<=G/\G<=Ij /\
  ∃dF:Array Value,w'.heap[w.heap.size]?=Z (AT dF 52 (0,0))/\dF.size=G*9/\dF.toList.take ((n+1)*9)=cur.toList.take (i*9)++vs++(cur.toList.take (n*9)).drop (i*9)/\w.grownBy w' Y:=by
 obtain⟨i0,ei,bW,fs,eU⟩:=I0 Tryz.qo;have vE:c=n:=by omega
 subst vE;have iX:¬ ((i:Int)=(c:Int)):=by omega
 have lN:(c:Int)<(c:Int)+1:=by omega
 have Az:(c:Int)+1-(i:Int)=((c+1-i:Nat):Int):=by omega
 have DB:i+(c+1-i)=c+1:=by omega
 have hold:(QJ i0.size i (U (Z ⟨g,0,Y⟩) i c)).run be w.drew=.ok (cur.toList.take (i*9)).toArray w.drew:=by
  rw[fs];exact Um w.drew 9 i ⟨g,0,Y⟩ i c (cur.toList.take (i*9)) (by rw[Iu,IQ];omega) (λj v hj=>by
   have e:w.drew.cell? ((⟨g,0,Y⟩:Addr).add j)=cur[j]?:=by rw[I3,IM];exact af hg _
   rw[e];rw[QK] at hj;split at hj
   .simpa using hj
   .cases hj)
 have yN:∀ty,∃G lE,c+1<=G/\G<=Ij/\lE.size=G*9/\lE.toList.take (i*9)=cur.toList.take (i*9)/\(Ut #[24,3] ty #[U (Z ⟨g,0,Y⟩) i c,O J ((c:Int)+1-(i:Int))]).run be w =
  .ok (U (Z ⟨w.heap.size,0,Y⟩) (c+1) G) (w.drew.alloc (AT lE 52)):=λty=>by
  have h:=QB w 24 3 ty 52 i0 _ J J JK IG ei bW (Z ⟨g,0,Y⟩) i c (cur.toList.take (i*9)) hold (c+1-i) (by omega) (by omega) (by omega) (by omega) (by rw[eU];omega) (by rw[eU,DB];exact growslice_fits cV (by omega));rw[DB] at h;rw[Az];have h1:=grownCap_ge w (c+1) c 52;refine⟨_,_,h1,UC w (c+1) c 52 (by unfold Ij;omega),?_,?_,h⟩
  .simp only[Array.size_append,Oa,size_zeroCells,Iu,IQ,cM,Value.cells]
   simp;omega
  .simp only[Un,I1]
   exact Qs (by simp only[Iu,IQ,cM];omega)
 obtain⟨G,lE,kT,vG,Cs,Gb,yN⟩:=yN 24;have aaz:G<=9223372036854775807:=by unfold Ij at vG;omega
 obtain⟨W2,W3,oy,ui,HF⟩:=oR JK N1 hg cM hi hv oN kR lZ kT Cs Gb;obtain⟨W1,e9⟩:∃W1,W1=(w.alloc (AT lE 52)).drew:=⟨_,rfl⟩;have Fg:w.drew.alloc (AT lE 52)=W1:=by rw[e9];rfl
 rw[Fg] at yN;rw[<- e9] at oy;have HF:Hid _:=HF;have De:IntKind.i64.wrap ((i:Int)+1)=(i:Int)+1:=by rw[IK];omega
 have al:(0:Int)<=(i:Int)+1:=by omega
 have DA:i<=c:=by omega
 have L3:((i:Int)+1).toNat=i+1:=by omega
 have hGi:¬ (G=i):=by omega
 have aaA:¬ (G=i+1):=by omega
 have hci:¬ (c=i):=by omega
 clear e9 kR lZ Fg Cs Gb Az DB hold hg hv ei bW fs eU;go_enter Tryz.func249,Tryz.ntmps249;go_wp2_with (at_builtin;refine Q2 _ rfl _ _ _ _ rfl _ _ rfl rfl _ _ yN ?_);go_region_law (refine cY rfl _ _ 24 24 rfl _ _ (by simp[OO,Qe]) (by simp[OO,Qe]) (ui _ _ _) ?_)
 go_wp2_with fail;go_ret;exact⟨G,rfl,kT,vG,HF.out⟩
theorem fX(base n vb:Nat)(v:Value)(xs vs:List Value)(w:World)(hown:w.ownsRow base 52 9 v n xs)(hn:n<=1000)(hbase:base<=w.heap.size)(hv:w.heap[vb]?=Z (AT vs.toArray 52 (0,0)))(oN:vs.length=9)(lZ:∀v∈vs,v.oneCell'=true) :
 aP 249 #[v,O J n,U (Z ⟨vb,0,Y⟩) 1 1] w λe w'=>∃v',e=sh v'/\w'.ownsRow base 52 9 v' (n+1) (xs++vs)/\w.grownBy w' v.ownBlock:=by
 obtain⟨i0,ei,bW,fs,eU⟩:=I0 Tryz.qo;have hnews:∀j u,vs[j]?=Z u->w.cell? ((⟨vb,0,Y⟩:Addr).add j)=Z u:=λj v hj=>by rw[I3,af hv];simpa using hj
 have HO:Hid (w.ownsRow base 52 9 v n xs):=hown;rcases hown.2 with⟨rfl,rfl⟩|⟨g,c,cur,rfl,_,_,eC,dj,_,_⟩;rotate_left;unfold Ij at dj;by_cases vE:c=n;subst vE;all_goals
  clear hown hv;go_enter Tryz.func249,Tryz.ntmps249;go_wp2_with (at_builtin;refine I5 _ rfl _ _ 24 rfl base 52 i0 _ 9 104 JK ei bW fs eU rfl (by omega) _ _ xs rfl HO.out ⟨vb,0,Y⟩ 1 1 vs rfl (by omega) hnews lZ (by unfold Ij;omega) (by omega) hbase ?_);intro v' w' r1 r2 r3;go_wp2_with fail;go_ret;exact⟨v',rfl,r1,r2⟩
theorem fQ(base i vb:Nat)(v:Value)(ms:List aI)(m:aI)(w:World)(hown:Own base w v ms)(hi:i<=ms.length)(hn:ms.length<=1000)(hbase:base<=w.heap.size)(hv:w.heap[vb]?=Z (AT m.cs.toArray 52 (0,0)))(bu:v.ownBlock≠Z vb) :
 aP 249 #[v,O J i,U (Z ⟨vb,0,Y⟩) 1 1] w λe w'=>∃v',e=sh v'/\Own base w' v' (ms.take i++m::ms.drop i)/\w.grownBy w' v.ownBlock:=by
 have hlen:(ms.take i++m::ms.drop i).length=ms.length+1:=by simp;omega
 have oi:fl (ms.take i++m::ms.drop i)=(fl ms).take (i*9)++m.cs++(fl ms).drop (i*9):=by rw[cF,aT,gC,gD,I1]
 by_cases DA:i=ms.length
 .subst DA
  refine(fX base ms.length vb v (fl ms) m.cs w hown hn hbase hv rfl (cC m)).mono ?_;rintro e w' ⟨v',rfl,h1,h2⟩;refine⟨v',rfl,?_,h2⟩;have e1:ms.take ms.length++m::ms.drop ms.length=ms++[m]:=by simp
  have e2:fl (ms++[m])=fl ms++m.cs:=by rw[cF,aT];simp[fl]
  rw[e1];show w'.ownsRow base 52 9 v' (ms++[m]).length (fl (ms++[m]));rw[e2,show(ms++[m]).length=ms.length+1 by simp];exact h1
 .rcases hown.2 with⟨_,h0⟩|⟨g,c,cur,rfl,dQ,hg,eC,dj,cM,aO⟩
  .omega
  .have qa:vb≠g:=λe=>bu (by simp[I2,e])
   have kR:∀v∈cur.toList.take (ms.length*9),v.oneCell'=true:=by rw[aO];exact fi ms
   have T1:cur.toList.take (i*9)=(fl ms).take (i*9):=by rw[<- aO,Q8];congr 1;omega
   have key:∀l:List Value,l=cur.toList.take (i*9)++m.cs++(cur.toList.take (ms.length*9)).drop (i*9)->l=fl (ms.take i++m::ms.drop i):=λl hl=>by rw[hl,oi,aO,T1]
   by_cases cV:ms.length+1<=c
   .refine(fk g ms.length c i vb cur m.cs w hg cM (by omega) cV (by unfold Ij at dj;omega) qa hv rfl kR (cC m)).mono ?_
    rintro e w' ⟨rfl,dF,h1,h2,h3,h4⟩;refine⟨_,rfl,?_,h4⟩;rw[<- hlen];exact fV dQ h1 h2 (by omega) dj (key _ (by rw[hlen];exact h3))
   .refine(fm g ms.length c i vb cur m.cs w hg cM (by omega) eC (by omega) hn hv rfl kR (cC m)).mono ?_
    rintro e w' ⟨G,rfl,kT,vG,dF,h1,h2,h3,h4⟩;refine⟨_,rfl,?_,mW h4 _⟩;rw[<- hlen];exact fV hbase h1 h2 (by omega) vG (key _ (by rw[hlen];exact h3))
end Sv
namespace Sv
open Go.RowKit
theorem fZ(ms:List aI)(v:Value)(w:World)(h:Sl w v ms)(hn:ms.length<=1000) :
 aP 91 #[v] w λe w'=>∃v',e=sh v'/\Own w.heap.size w' v' ms/\Below w.heap.size w w':=by
 obtain⟨a,cap,rfl,hs,h⟩:=h;obtain⟨i0,ei,bW,fs,eU⟩:=I0 Tryz.qo;cases a with
 |none=>
  have he:ms=[]:=by
   rcases h with h|⟨b,off,h,_⟩
   .exact h
   .cases h
  subst he;clear h hs;have iD:=λ(w:World)=>Jz (P:=be) w 24 52 Y 0 cap 0 0 JK;simp only[JI,Qh] at iD ⊢;go_enter Tryz.func91,Tryz.ntmps91;go_wp2_with fail;go_ret;exact⟨_,rfl,bj _ _,Below.refl _ _⟩
 |some a=>
  have iD:=λ(w:World)=>Jz (P:=be) w 24 52 (Z a) ms.length cap 0 0 JK;simp only[Qi] at iD;have hnews:Hid (∀j u,(fl ms)[j]?=Z u->(w.alloc (AT #[] 52)).cell? (a.add j)=Z u):=by
   intro j u hj;rcases h with h|⟨b,off,h,hb,hr⟩
   .subst h;simp[fl] at hj
   .cases h
    have Sm:j<ms.length*9:=by rw[<- cT];exact(Jg.1 hj).1
    have h1:=ed ms (j/9) (by omega) (j%9) (by omega);rw[show j/9*9+j%9=j by omega,hj] at h1;rw[I3,J4 (w:=w) _ b _ hb];obtain⟨c0,c1,c2,c3,c4,c5,c6,c7,c8⟩:=hr (j/9) (by omega);have cM:j%9=0\/j%9=1\/j%9=2\/j%9=3\/j%9=4\/j%9=5\/j%9=6\/j%9=7\/j%9=8:=by omega
    rcases cM with e|e|e|e|e|e|e|e|e
    .rw[show off+j=off+j/9*9 by omega,c0];rw[e] at h1;simpa[aI.cs] using h1.symm
    .rw[show off+j=off+j/9*9+1 by omega,c1];rw[e] at h1;simpa[aI.cs] using h1.symm
    .rw[show off+j=off+j/9*9+2 by omega,c2];rw[e] at h1;simpa[aI.cs] using h1.symm
    .rw[show off+j=off+j/9*9+3 by omega,c3];rw[e] at h1;simpa[aI.cs] using h1.symm
    .rw[show off+j=off+j/9*9+4 by omega,c4];rw[e] at h1;simpa[aI.cs] using h1.symm
    .rw[show off+j=off+j/9*9+5 by omega,c5];rw[e] at h1;simpa[aI.cs] using h1.symm
    .rw[show off+j=off+j/9*9+6 by omega,c6];rw[e] at h1;simpa[aI.cs] using h1.symm
    .rw[show off+j=off+j/9*9+7 by omega,c7];rw[e] at h1;simpa[aI.cs] using h1.symm
    .rw[show off+j=off+j/9*9+8 by omega,c8];rw[e] at h1;simpa[aI.cs] using h1.symm
  have HO:Hid ((w.alloc (AT #[] 52)).ownsRow w.heap.size 52 9 (U (Z ⟨w.heap.size,0,Y⟩) 0 0) 0 []):=Qj w #[] 0 (By _) (by unfold Ij;omega) rfl;clear h hs;go_enter Tryz.func91,Tryz.ntmps91;go_wp2_with (at_builtin;refine I5 _ rfl _ _ 24 rfl w.heap.size 52 i0 _ 9 104 JK ei bW fs eU rfl (by omega) _ 0 [] rfl HO.out a ms.length cap (fl ms) rfl (cT ms) hnews.out (fi ms) (by unfold Ij;omega) (by omega) (by simp) ?_);intro v' w' r1 r2 r3;go_wp2_with fail;go_ret;refine⟨v',rfl,?_,?_⟩
  .simpa using r1
  .exact((Below.refl _ _).alloc (By _) _).grown r2 (by simp) (λk hk=>by simp[I2] at hk;omega)
end Sv
namespace Wh
open Go.RowKit
theorem fZ(ms:List bC)(v:Value)(w:World)(h:Sl w v ms)(hn:ms.length<=1000) :
 aP 93 #[v] w λe w'=>∃v',e=sh v'/\Own w.heap.size w' v' ms/\Below w.heap.size w w':=by
 obtain⟨a,cap,rfl,hs,h⟩:=h;obtain⟨i0,ei,bW,fs,eU⟩:=I0 Tryz.pC;cases a with
 |none=>
  have he:ms=[]:=by
   rcases h with h|⟨b,off,h,_⟩
   .exact h
   .cases h
  subst he;clear h hs;have iD:=λ(w:World)=>Jz (P:=be) w 28 142 Y 0 cap 0 0 OK;simp only[JI,Qh] at iD ⊢;go_enter Tryz.func93,Tryz.ntmps93;go_wp2_with fail;go_ret;exact⟨_,rfl,bj _ _,Below.refl _ _⟩
 |some a=>
  have iD:=λ(w:World)=>Jz (P:=be) w 28 142 (Z a) ms.length cap 0 0 OK;simp only[Qi] at iD;have hnews:Hid (∀j u,(fl ms)[j]?=Z u->(w.alloc (AT #[] 142)).cell? (a.add j)=Z u):=by
   intro j u hj;rcases h with h|⟨b,off,h,hb,hr⟩
   .subst h;simp[fl] at hj
   .cases h
    have Sm:j<ms.length*6:=by rw[<- cT];exact(Jg.1 hj).1
    have h1:=ed ms (j/6) (by omega) (j%6) (by omega);rw[show j/6*6+j%6=j by omega,hj] at h1;rw[I3,J4 (w:=w) _ b _ hb];obtain⟨c0,c1,c2,c3,c4,c5⟩:=hr (j/6) (by omega);have cM:j%6=0\/j%6=1\/j%6=2\/j%6=3\/j%6=4\/j%6=5:=by omega
    rcases cM with e|e|e|e|e|e
    .rw[show off+j=off+j/6*6 by omega,c0];rw[e] at h1;simpa[bC.cs] using h1.symm
    .rw[show off+j=off+j/6*6+1 by omega,c1];rw[e] at h1;simpa[bC.cs] using h1.symm
    .rw[show off+j=off+j/6*6+2 by omega,c2];rw[e] at h1;simpa[bC.cs] using h1.symm
    .rw[show off+j=off+j/6*6+3 by omega,c3];rw[e] at h1;simpa[bC.cs] using h1.symm
    .rw[show off+j=off+j/6*6+4 by omega,c4];rw[e] at h1;simpa[bC.cs] using h1.symm
    .rw[show off+j=off+j/6*6+5 by omega,c5];rw[e] at h1;simpa[bC.cs] using h1.symm
  have HO:Hid ((w.alloc (AT #[] 142)).ownsRow w.heap.size 142 6 (U (Z ⟨w.heap.size,0,Y⟩) 0 0) 0 []):=Qj w #[] 0 (By _) (by unfold Ij;omega) rfl;clear h hs;go_enter Tryz.func93,Tryz.ntmps93;go_wp2_with (at_builtin;refine I5 _ rfl _ _ 28 rfl w.heap.size 142 i0 _ 6 56 OK ei bW fs eU rfl (by omega) _ 0 [] rfl HO.out a ms.length cap (fl ms) rfl (cT ms) hnews.out (fi ms) (by unfold Ij;omega) (by omega) (by simp) ?_);intro v' w' r1 r2 r3;go_wp2_with fail;go_ret;refine⟨v',rfl,?_,?_⟩
  .simpa using r1
  .exact((Below.refl _ _).alloc (By _) _).grown r2 (by simp) (λk hk=>by simp[I2] at hk;omega)
end Wh
end Go.Proofs.YtfidjlcdlakceaaGreatDoor
