import Derived.Test.YtfidjlcdlakceaaGreatDoortf2
set_option maxHeartbeats 1000000
set_option maxRecDepth 100000
open Go renaming maxLen→Ij,cell_regrown→Iq,info_parts→I0,wpList_append_own→I5
open Go.Value renaming string→I,int→O,slice→U,agg→Im,ownBlock→I2
open Go.IntKind renaming i64→J,wrap_i64→IK
open Option renaming none→Y,some→Z
open Go.Obj renaming cells→AT
open Array renaming getElem?_eq_some_iff→Ia,length_toList→IQ
open List renaming getElem?_take_of_lt→IF,getD→Io,getElem?_eq_getElem→Ic,length_take→Iu,append_assoc→I1,getD_cons_zero→IT,getD_cons_succ→Jx
open Go.World.ownsRow renaming lt→I6,stored→IW
open Go.Proofs.Tryz renaming prog→be,underlying25→OL
open Go.Ending renaming returned→sh
open Go.Act renaming eval→OO,put→Qe
open Nat renaming le_refl→By
namespace Go.Proofs.YtfidjlcdlakceaaGreatDoor
open Go.RowKit
theorem xn(a:ByteArray):bz a a=0:=(cU a a).2 rfl
theorem qB(a b:ByteArray):0<bz a b↔bz b a<0:=by rw[mV,fu]
theorem oj(a b c:ByteArray)(h1:bz a b<0)(h2:bz b c<0):bz a c<0:=by
 rw[fu] at *;exact fN h1 h2
namespace RL
section
variable {α:Type}
theorem ni(f:α->ByteArray):Keyed λa b=>bz (f a) (f b) where
 refl a:=xn _
 gt a b:=qB _ _
 trans a b c h1 h2:=oj _ _ _ h1 h2
 left a b c h:=by rw[(cU _ _).1 h]
 right a b c h:=by rw[(cU _ _).1 h]
def bI(b:Bool):Int:=if b=true then 1 else 0
theorem XM{a b:Bool}(h:bI a-bI b=0):a=b:=by cases a<;>cases b<;>simp[bI] at h ⊢
def lex(o p:α->α->Int)(a b:α):Int:=if o a b=0 then p a b else o a b
theorem Gs{o p:α->α->Int}(h:Keyed o)(k:Keyed p):Keyed (lex o p) where
 refl a:=by rw[lex,if_pos (h.refl a),k.refl a]
 gt a b:=by
  unfold lex;by_cases e:o a b=0
  .rw[if_pos e,if_pos (h.symm e)];exact k.gt a b
  .rw[if_neg e,if_neg (λe2=>e (h.symm e2))];exact h.gt a b
 trans a b c h1 h2:=by
  unfold lex at *;by_cases e:o a b=0
  .rw[if_pos e] at h1
   by_cases e2:o b c=0
   .rw[if_pos e2] at h2
    rw[if_pos (h.eqt e e2)];exact k.trans _ _ _ h1 h2
   .rw[if_neg e2] at h2
    rw[if_neg (λe3=>e2 (h.eqt (h.symm e) e3)),h.left a b c e];exact h2
  .rw[if_neg e] at h1
   by_cases e2:o b c=0
   .rw[if_neg (λe3=>e (h.eqt e3 (h.symm e2))),<- h.right b c a e2];exact h1
   .rw[if_neg e2] at h2
    have h3:=h.trans _ _ _ h1 h2;rw[if_neg (by omega)];exact h3
 left a b c e:=by
  unfold lex at *;by_cases e1:o a b=0
  .rw[if_pos e1] at e
   rw[h.left a b c e1,k.left a b c e]
  .rw[if_neg e1] at e;exact absurd e e1
 right a b c e:=by
  unfold lex at *;by_cases e1:o a b=0
  .rw[if_pos e1] at e
   rw[h.right a b c e1,k.right a b c e]
  .rw[if_neg e1] at e;exact absurd e e1
end
end RL
end Go.Proofs.YtfidjlcdlakceaaGreatDoor
namespace Go.Proofs.YtfidjlcdlakceaaGreatDoor
namespace Gw
open Go.RowKit
structure cD where
 ai:ByteArray
 addr:Int
 version:Int
def dm:cD:=⟨ByteArray.empty,0,0⟩
def cD.ok(m:cD):Prop:=m.ai.size<=Ij
theorem nU:dm.ok:=by simp[cD.ok,dm]
abbrev As(w:World)(b o:Nat)(m:cD):Prop:=w.cell? ⟨b,o,Y⟩=Z (I m.ai)/\w.cell? ⟨b,o+1,Y⟩=Z (O J m.addr)/\w.cell? ⟨b,o+2,Y⟩=Z (O J m.version)
theorem As.re{w:World}{b o:Nat}{m:cD}(h:As w b o m):∀d os,As (Go.Sort.grow (redrawn w d) os) b o m:=λd os=>by
 obtain⟨c0,c1,c2⟩:=h;exact⟨Iq c0 d os,Iq c1 d os,Iq c2 d os⟩
theorem As.eq{w w':World}{b o:Nat}{m:cD}(h:As w b o m)(e:∀o,w'.cell? ⟨b,o,Y⟩=w.cell? ⟨b,o,Y⟩):As w' b o m:=by
 obtain⟨c0,c1,c2⟩:=h;exact⟨(e _).trans c0,(e _).trans c1,(e _).trans c2⟩
def Row(w:World)(b off:Nat)(ms:List cD):Prop:=∀j,j<ms.length->As w b (off+j*3) (ms.getD j dm)
def Sl(w:World)(v:Value)(ms:List cD):Prop:=
 ∃(a:Option Addr) (cap:Nat),v=U a ms.length cap/\(∀j,(ms.getD j dm).ok) /\
  (ms=[]\/∃b off,a=Z ⟨b,off,Y⟩/\b<w.heap.size/\Row w b off ms)
def cD.cs(m:cD):List Value:=[I m.ai,O J m.addr,O J m.version]
def fl(ms:List cD):List Value:=ms.flatMap cD.cs
theorem bl(m:cD):m.cs.length=3:=rfl
theorem aT(m:cD)(r:List cD):fl (m::r)=m.cs++fl r:=by simp[fl]
theorem cF(a b:List cD):fl (a++b)=fl a++fl b:=by simp[fl]
theorem cT:∀ms:List cD,(fl ms).length=ms.length*3
 |[]=>rfl
 |m::r=>by rw[aT,List.length_append,cT r,bl,List.length_cons];omega
theorem gC:∀(ms:List cD) (i:Nat),(fl ms).take (i*3)=fl (ms.take i)
 |[],i=>by simp[fl]
 |m::r,0=>by simp[fl]
 |m::r,i+1=>by
  rw[aT,List.take_succ_cons,aT,show(i+1)*3=m.cs.length+i*3 by rw[bl];omega,List.take_length_add_append,gC r i]
theorem gD:∀(ms:List cD) (i:Nat),(fl ms).drop (i*3)=fl (ms.drop i)
 |[],i=>by simp[fl]
 |m::r,0=>by simp
 |m::r,i+1=>by
  rw[aT,List.drop_succ_cons,show(i+1)*3=m.cs.length+i*3 by rw[bl];omega,List.drop_length_add_append,gD r i]
theorem cC(m:cD):∀v∈m.cs,v.oneCell'=true:=by
 intro v hv;simp[cD.cs] at hv;rcases hv with rfl|rfl|rfl<;>rfl
theorem fi(ms:List cD):∀v∈fl ms,v.oneCell'=true:=by
 intro v hv;obtain⟨m,_,h⟩:=List.mem_flatMap.1 hv;exact cC m v h
theorem ed(ms:List cD)(j:Nat)(hj:j<ms.length)(t:Nat)(ht:t<3):(fl ms)[j*3+t]?=(ms.getD j dm).cs[t]?:=by
 induction ms generalizing j with
 |nil=>simp at hj
 |cons m r ih=>
  rw[aT];cases j with
  |zero=>rw[List.getElem?_append_left (by rw[bl];omega)];simp
  |succ j=>
   rw[List.getElem?_append_right (by rw[bl];omega),bl,show(j+1)*3+t-3=j*3+t by omega,ih j (by simpa using hj)];simp
theorem uj(ms:List cD)(p:Nat)(hp:p<ms.length)(m:cD):((((fl ms).set (p*3) (I m.ai)).set (p*3+1) (O J m.addr)).set (p*3+2) (O J m.version))=fl (ms.set p m):=by
 induction ms generalizing p with
 |nil=>simp at hp
 |cons x r ih=>
  cases p with
  |zero=>simp[fl,cD.cs]
  |succ p=>
   have XK:=ih p (by simpa using hp);rw[List.set_cons_succ,aT,aT,<- XK];simp only[Nat.add_mul,Nat.one_mul];have e:∀(l:List Value) (k:Nat) (v:Value),(x.cs++l).set (k+3) v=x.cs++l.set k v:=λl k v=>by
    rw[List.set_append,if_neg (by rw[bl];omega),bl,Nat.add_sub_cancel]
   have c:∀i:Nat,p*3+3+i=(p*3+i)+3:=λi=>by omega
   simp only[c];rw[e,e,e]
abbrev Own(base:Nat)(w:World)(v:Value)(ms:List cD):Prop:=w.ownsRow base 49 3 v ms.length (fl ms)
theorem fV{base g G:Nat}{w:World}{cur:Array Value}{ms:List cD}(hb:base<=g)(hg:w.heap[g]?=Z (AT cur 49 (0,0)))(hs:cur.size=G*3)(hn:ms.length<=G)(hG:G<=Ij)(ht:cur.toList.take (ms.length*3)=fl ms) :
 Own base w (U (Z ⟨g,0,Y⟩) ms.length G) ms:=⟨cT ms,.inr ⟨g,G,cur,rfl,hb,hg,hn,hG,hs,ht⟩⟩
theorem Own.sl{base:Nat}{w:World}{v:Value}{ms:List cD}(h:Own base w v ms)(hs:∀j,(ms.getD j dm).ok):Sl w v ms:=by
 rcases h.2 with⟨rfl,h0⟩|⟨g,c,cur,rfl,dQ,hg,eC,dj,cM,aO⟩
 .exact⟨Y,0,by rw[h0],hs,.inl (List.eq_nil_of_length_eq_zero h0)⟩
 .refine⟨_,c,rfl,hs,.inr ⟨g,0,rfl,(Ia.1 hg).1,λj hj=>?_⟩⟩
  have hc:∀t,t<3->w.cell? ⟨g,0+j*3+t,Y⟩=(ms.getD j dm).cs[t]?:=λt ht=>by
   rw[af hg,<- ed ms j hj t ht,<- aO,IF (by omega)];simp
  exact⟨hc 0 (by omega),hc 1 (by omega),hc 2 (by omega)⟩
theorem Own.below{base:Nat}{w w':World}{v:Value}{ms:List cD}(h:Own base w v ms)(hb:Below w.heap.size w w'):Own base w' v ms:=by
 rcases h.2 with⟨rfl,h0⟩|⟨g,c,cur,rfl,dQ,hg,eC,dj,cM,aO⟩
 .exact⟨h.1,.inl ⟨rfl,h0⟩⟩
 .have aL:=(Ia.1 hg).1
  exact⟨h.1,.inr ⟨g,c,cur,rfl,dQ,(hb.block g aL).trans hg,eC,dj,cM,aO⟩⟩
theorem Own.lt{base:Nat}{w:World}{v:Value}{ms:List cD}(h:Own base w v ms)(k:Nat)(hk:v.ownBlock=Z k):base<=k/\k<w.heap.size:=I6 h k hk
theorem below_grown{base:Nat}{w w1 w2:World}{v:Value}{ms:List cD}(hb:Below base w w1)(h:Own base w1 v ms)(hg:w1.grownBy w2 v.ownBlock)(hbase:base<=w1.heap.size):Below base w w2:=
 hb.grown hg hbase (λk hk=>(h.lt k hk).1)
theorem dH{base g c:Nat}{w:World}{ms:List cD}(h:Own base w (U (Z ⟨g,0,Y⟩) ms.length c) ms)(j:Nat)(hj:j<ms.length) :
 As w g (j*3) (ms.getD j dm):=by
 rcases h.2 with⟨h1,_⟩|⟨g',c',cur,h1,dQ,hg,eC,dj,cM,aO⟩
 .cases h1
 .simp only[Value.slice.injEq,Option.some.injEq,Addr.mk.injEq] at h1
  obtain⟨⟨rfl,_,_⟩,_,_⟩:=h1;have hc:∀t,t<3->w.cell? ⟨g,j*3+t,Y⟩=(ms.getD j dm).cs[t]?:=λt ht=>by
   rw[af hg,<- ed ms j hj t ht,<- aO,IF (by omega)];simp
  exact⟨hc 0 (by omega),hc 1 (by omega),hc 2 (by omega)⟩
theorem eL{base:Nat}{w:World}{v:Value}{ms:List cD}(h:Own base w v ms)(p:Nat)(hp:p<ms.length):∃g c,v=U (Z ⟨g,0,Y⟩) ms.length c:=by
 rcases h.2 with⟨_,h0⟩|⟨g,c,cur,h1,_⟩
 .omega
 .exact⟨g,c,h1⟩
theorem oW{base g c p:Nat}{W:World}{ms:List cD}(h:Own base W (U (Z ⟨g,0,Y⟩) ms.length c) ms)(hp:p<ms.length)(m:cD) :
 Own base (((W.setCell ⟨g,p*3,Y⟩ (I m.ai)).setCell ⟨g,p*3+1,Y⟩ (O J m.addr)).setCell ⟨g,p*3+2,Y⟩ (O J m.version)) (U (Z ⟨g,0,Y⟩) ms.length c) (ms.set p m):=by
 have h1:=IW h (p*3) (I m.ai);have h2:=IW h1.1 (p*3+1) (O J m.addr);have h3:=IW h2.1 (p*3+2) (O J m.version);have e:=h3.1;rw[uj ms p hp m] at e;show World.ownsRow _ _ _ _ _ (ms.set p m).length _;rw[List.length_set];exact e
theorem Sl.below{w w':World}{v:Value}{ms:List cD}(h:Sl w v ms)(hb:Below w.heap.size w w'):Sl w' v ms:=by
 obtain⟨a,cap,rfl,hs,h⟩:=h;refine⟨a,cap,rfl,hs,?_⟩;rcases h with h|⟨b,off,rfl,aL,hr⟩
 .exact .inl h
 .refine .inr ⟨b,off,rfl,Nat.lt_of_lt_of_le aL hb.size,λj hj=>?_⟩
  exact(hr j hj).eq (λo=>(cH hb).1 b o aL)
theorem Row.later{w w':World}{b off:Nat}{ms:List cD}(hr:Row w b off ms)(hb:Below w.heap.size w w')(aL:b<w.heap.size):Row w' b off ms:=λj hj=>(hr j hj).eq (λo=>(cH hb).1 b o aL)
theorem Own.mono{base jS:Nat}{w:World}{v:Value}{ms:List cD}(h:Own base w v ms)(hb:jS<=base):Own jS w v ms:=by
 rcases h.2 with⟨rfl,h0⟩|⟨g,c,cur,rfl,dQ,hg,eC,dj,cM,aO⟩
 .exact⟨h.1,.inl ⟨rfl,h0⟩⟩
 .exact⟨h.1,.inr ⟨g,c,cur,rfl,Nat.le_trans hb dQ,hg,eC,dj,cM,aO⟩⟩
theorem bj(base:Nat)(w:World):Own base w (U Y 0 0) []:=World.ownsRow_nil w base 49 3
theorem cZ{ms:List cD}(h:∀j,(ms.getD j dm).ok):∀m∈ms,(m).ok:=by
 intro m hm;obtain⟨j,hj,rfl⟩:=List.getElem_of_mem hm;have:=h j;simpa[Io,Ic hj] using this
theorem cB{ms:List cD}(h:∀m∈ms,(m).ok):∀j,(ms.getD j dm).ok:=by
 intro j;by_cases hj:j<ms.length
 .have:=h ms[j] (List.getElem_mem hj)
  simpa[Io,Ic hj] using this
 .rw[Io,List.getElem?_eq_none (Nat.le_of_not_lt hj)];exact nU
end Gw
namespace Gw
open Go.RowKit
theorem Tryz.uB:(Tryz.prog.info? 49).map (λi=>(i.zero,i.size,i.bytes))=Z (Z (Im #[I ⟨#[]⟩,O J 0,O J 0]),3,32):=by kernel_rfl
theorem PK:(Tryz.prog.info? 49).map (·.size)=Z 3:=by
 obtain⟨i,hi,h1,h2,h3⟩:=I0 Tryz.uB;rw[hi];simp[h2]
theorem sizeOf49(w:World):(Go.sizeOf 49).run be w=.ok 3 w:=by
 obtain⟨i,hi,h1,h2,h3⟩:=I0 Tryz.uB;simp[Go.sizeOf,typeInfo,hi,h2]
theorem eI(w:World)(g vb o lb cb:Nat)(cur vs:Array Value)(hg:w.heap[g]?=Z (AT cur 49 (0,0)))(hv:w.heap[vb]?=Z (AT vs 49 (0,0)))(bu:vb≠g)(hk:cur.size≠0) : (callFunc 274 #[U (Z ⟨vb,0,Y⟩) 1 1,U (Z ⟨g,o,Y⟩) lb cb]).run be w=.ok (.value (.bool false)) w:=by
 rw[run_callFunc_extern Tryz.func274 (by kernel_rfl) (by kernel_rfl) (by kernel_rfl) (e:=Extern.SlicesOverlaps.overlaps #[25,25] #[4]) (by kernel_rfl),
  Lib.run_overlaps_apart w 25 4 49 OL 3 sizeOf49 ⟨vb,0,Y⟩ ⟨g,o,Y⟩ 1 1 lb cb bu 49 49 vs.size cur.size (by simp[World.shape?,hv]) (by simp[World.shape?,hg]) hk (by simp[World.frozen?,hv]) (by simp[World.frozen?,hv])]
 rfl
theorem fk(g n c i vb:Nat)(cur:Array Value)(vs:List Value)(w:World)(hg:w.heap[g]?=Z (AT cur 49 (0,0)))(cM:cur.size=c*3)(hi:i<n)(cV:n+1<=c)(Dz:c<=9223372036854775807)(qa:vb≠g)(hv:w.heap[vb]?=Z (AT vs.toArray 49 (0,0)))(oN:vs.length=3)(kR:∀v∈cur.toList.take (n*3),v.oneCell'=true)(lZ:∀v∈vs,v.oneCell'=true) :
 aP 250 #[U (Z ⟨g,0,Y⟩) n c,O J i,U (Z ⟨vb,0,Y⟩) 1 1] w λe w'=>e=sh (U (Z ⟨g,0,Y⟩) (n+1) c) /\
  ∃dF:Array Value,w'.heap[g]?=Z (AT dF 49 (0,0))/\dF.size=c*3/\dF.toList.take ((n+1)*3)=cur.toList.take (i*3)++vs++(cur.toList.take (n*3)).drop (i*3)/\w.grownBy w' (Z g):=by
 have hov:=λo lb cb=>eI w g vb o lb cb cur vs.toArray hg hv qa (by omega);have iX:¬ ((i:Int)=(n:Int)):=by omega
 have aC:¬ (c=i+1):=by omega
 have fa:¬ (c=i):=by omega
 have bf:(i:Int)<=(n:Int)+1:=by omega
 obtain⟨W1,W2,oy,ui,HF⟩:=oQ OL PK hg cM hi cV qa hv oN kR lZ;have HF:Hid _:=HF;clear kR lZ hg hv;have De:IntKind.i64.wrap ((i:Int)+1)=(i:Int)+1:=by rw[IK];omega
 have al:(0:Int)<=(i:Int)+1:=by omega
 have DA:i<=n:=by omega
 have L3:((i:Int)+1).toNat=i+1:=by omega
 go_enter Tryz.func250,Tryz.ntmps250;go_wp2_with (simp only[hov]);go_region_law (refine cY rfl _ _ 25 25 rfl _ _ (by simp[OO,Qe]) (by simp[OO,Qe]) (oy _ _ _) ?_)
 go_wp2_with fail;go_ret;exact⟨rfl,HF.out⟩
theorem fm(g n c i vb:Nat)(cur:Array Value)(vs:List Value)(w:World)(hg:w.heap[g]?=Z (AT cur 49 (0,0)))(cM:cur.size=c*3)(hi:i<n)(eC:n<=c)(cV:c<n+1)(Dz:n<=1000)(hv:w.heap[vb]?=Z (AT vs.toArray 49 (0,0)))(oN:vs.length=3)(kR:∀v∈cur.toList.take (n*3),v.oneCell'=true)(lZ:∀v∈vs,v.oneCell'=true) :
 aP 250 #[U (Z ⟨g,0,Y⟩) n c,O J i,U (Z ⟨vb,0,Y⟩) 1 1] w λe w'=>∃G,e=sh (U (Z ⟨w.heap.size,0,Y⟩) (n+1) G)/\n+1<=G/\G<=Ij /\
  ∃dF:Array Value,w'.heap[w.heap.size]?=Z (AT dF 49 (0,0))/\dF.size=G*3/\dF.toList.take ((n+1)*3)=cur.toList.take (i*3)++vs++(cur.toList.take (n*3)).drop (i*3)/\w.grownBy w' Y:=by
 obtain⟨i0,ei,bW,fs,eU⟩:=I0 Tryz.uB;have vE:c=n:=by omega
 subst vE;have iX:¬ ((i:Int)=(c:Int)):=by omega
 have lN:(c:Int)<(c:Int)+1:=by omega
 have Az:(c:Int)+1-(i:Int)=((c+1-i:Nat):Int):=by omega
 have DB:i+(c+1-i)=c+1:=by omega
 have hold:(Builtin.firstCells i0.size i (U (Z ⟨g,0,Y⟩) i c)).run be w.drew=.ok (cur.toList.take (i*3)).toArray w.drew:=by
  rw[fs];exact run_firstCells_some w.drew 3 i ⟨g,0,Y⟩ i c (cur.toList.take (i*3)) (by rw[Iu,IQ];omega) (λj v hj=>by
   have e:w.drew.cell? ((⟨g,0,Y⟩:Addr).add j)=cur[j]?:=by rw[Addr.add_lit,Nat.zero_add];exact af hg _
   rw[e];rw[List.getElem?_take] at hj;split at hj
   .simpa using hj
   .cases hj)
 have yN:∀ty,∃G lE,c+1<=G/\G<=Ij/\lE.size=G*3/\lE.toList.take (i*3)=cur.toList.take (i*3)/\(Builtin.append_ #[25,3] ty #[U (Z ⟨g,0,Y⟩) i c,O J ((c:Int)+1-(i:Int))]).run be w =
  .ok (U (Z ⟨w.heap.size,0,Y⟩) (c+1) G) (w.drew.alloc (AT lE 49)):=λty=>by
  have h:=Lib.run_append_grow_zeros w 25 3 ty 49 i0 _ J J OL Tryz.underlying3 ei bW (Z ⟨g,0,Y⟩) i c (cur.toList.take (i*3)) hold (c+1-i) (by omega) (by omega) (by omega) (by omega) (by rw[eU];omega) (by rw[eU,DB];exact growslice_fits cV (by omega));rw[DB] at h;rw[Az];have h1:=grownCap_ge w (c+1) c 49;refine⟨_,_,h1,grownCap_le_maxLen w (c+1) c 49 (by unfold Ij;omega),?_,?_,h⟩
  .simp only[Array.size_append,List.size_toArray,size_zeroCells,Iu,IQ,cM,Value.cells]
   simp;omega
  .simp only[Array.toList_append,I1]
   exact List.take_left' (by simp only[Iu,IQ,cM];omega)
 obtain⟨G,lE,kT,vG,Cs,Gb,yN⟩:=yN 25;have aaz:G<=9223372036854775807:=by unfold Ij at vG;omega
 obtain⟨W2,W3,oy,ui,HF⟩:=oR OL PK hg cM hi hv oN kR lZ kT Cs Gb;obtain⟨W1,e9⟩:∃W1,W1=(w.alloc (AT lE 49)).drew:=⟨_,rfl⟩;have Fg:w.drew.alloc (AT lE 49)=W1:=by rw[e9];rfl
 rw[Fg] at yN;rw[<- e9] at oy;have HF:Hid _:=HF;have De:IntKind.i64.wrap ((i:Int)+1)=(i:Int)+1:=by rw[IK];omega
 have al:(0:Int)<=(i:Int)+1:=by omega
 have DA:i<=c:=by omega
 have L3:((i:Int)+1).toNat=i+1:=by omega
 have hGi:¬ (G=i):=by omega
 have aaA:¬ (G=i+1):=by omega
 have hci:¬ (c=i):=by omega
 clear e9 kR lZ Fg Cs Gb Az DB hold hg hv ei bW fs eU;go_enter Tryz.func250,Tryz.ntmps250;go_wp2_with (at_builtin;refine Lib.wpList_append_run _ rfl _ _ _ _ rfl _ _ rfl rfl _ _ yN ?_);go_region_law (refine cY rfl _ _ 25 25 rfl _ _ (by simp[OO,Qe]) (by simp[OO,Qe]) (ui _ _ _) ?_)
 go_wp2_with fail;go_ret;exact⟨G,rfl,kT,vG,HF.out⟩
theorem fX(base n vb:Nat)(v:Value)(xs vs:List Value)(w:World)(hown:w.ownsRow base 49 3 v n xs)(hn:n<=1000)(hbase:base<=w.heap.size)(hv:w.heap[vb]?=Z (AT vs.toArray 49 (0,0)))(oN:vs.length=3)(lZ:∀v∈vs,v.oneCell'=true) :
 aP 250 #[v,O J n,U (Z ⟨vb,0,Y⟩) 1 1] w λe w'=>∃v',e=sh v'/\w'.ownsRow base 49 3 v' (n+1) (xs++vs)/\w.grownBy w' v.ownBlock:=by
 obtain⟨i0,ei,bW,fs,eU⟩:=I0 Tryz.uB;have hnews:∀j u,vs[j]?=Z u->w.cell? ((⟨vb,0,Y⟩:Addr).add j)=Z u:=λj v hj=>by rw[Addr.add_lit,af hv];simpa using hj
 have HO:Hid (w.ownsRow base 49 3 v n xs):=hown;rcases hown.2 with⟨rfl,rfl⟩|⟨g,c,cur,rfl,_,_,eC,dj,_,_⟩;rotate_left;unfold Ij at dj;by_cases vE:c=n;subst vE;all_goals
  clear hown hv;go_enter Tryz.func250,Tryz.ntmps250;go_wp2_with (at_builtin;refine I5 _ rfl _ _ 25 rfl base 49 i0 _ 3 32 OL ei bW fs eU rfl (by omega) _ _ xs rfl HO.out ⟨vb,0,Y⟩ 1 1 vs rfl (by omega) hnews lZ (by unfold Ij;omega) (by omega) hbase ?_);intro v' w' r1 r2 r3;go_wp2_with fail;go_ret;exact⟨v',rfl,r1,r2⟩
theorem fQ(base i vb:Nat)(v:Value)(ms:List cD)(m:cD)(w:World)(hown:Own base w v ms)(hi:i<=ms.length)(hn:ms.length<=1000)(hbase:base<=w.heap.size)(hv:w.heap[vb]?=Z (AT m.cs.toArray 49 (0,0)))(bu:v.ownBlock≠Z vb) :
 aP 250 #[v,O J i,U (Z ⟨vb,0,Y⟩) 1 1] w λe w'=>∃v',e=sh v'/\Own base w' v' (ms.take i++m::ms.drop i)/\w.grownBy w' v.ownBlock:=by
 have hlen:(ms.take i++m::ms.drop i).length=ms.length+1:=by simp;omega
 have oi:fl (ms.take i++m::ms.drop i)=(fl ms).take (i*3)++m.cs++(fl ms).drop (i*3):=by rw[cF,aT,gC,gD,I1]
 by_cases DA:i=ms.length
 .subst DA
  refine(fX base ms.length vb v (fl ms) m.cs w hown hn hbase hv rfl (cC m)).mono ?_;rintro e w' ⟨v',rfl,h1,h2⟩;refine⟨v',rfl,?_,h2⟩;have e1:ms.take ms.length++m::ms.drop ms.length=ms++[m]:=by simp
  have e2:fl (ms++[m])=fl ms++m.cs:=by rw[cF,aT];simp[fl]
  rw[e1];show w'.ownsRow base 49 3 v' (ms++[m]).length (fl (ms++[m]));rw[e2,show(ms++[m]).length=ms.length+1 by simp];exact h1
 .rcases hown.2 with⟨_,h0⟩|⟨g,c,cur,rfl,dQ,hg,eC,dj,cM,aO⟩
  .omega
  .have qa:vb≠g:=λe=>bu (by simp[I2,e])
   have kR:∀v∈cur.toList.take (ms.length*3),v.oneCell'=true:=by rw[aO];exact fi ms
   have T1:cur.toList.take (i*3)=(fl ms).take (i*3):=by rw[<- aO,List.take_take];congr 1;omega
   have key:∀l:List Value,l=cur.toList.take (i*3)++m.cs++(cur.toList.take (ms.length*3)).drop (i*3)->l=fl (ms.take i++m::ms.drop i):=λl hl=>by rw[hl,oi,aO,T1]
   by_cases cV:ms.length+1<=c
   .refine(fk g ms.length c i vb cur m.cs w hg cM (by omega) cV (by unfold Ij at dj;omega) qa hv rfl kR (cC m)).mono ?_
    rintro e w' ⟨rfl,dF,h1,h2,h3,h4⟩;refine⟨_,rfl,?_,h4⟩;rw[<- hlen];exact fV dQ h1 h2 (by omega) dj (key _ (by rw[hlen];exact h3))
   .refine(fm g ms.length c i vb cur m.cs w hg cM (by omega) eC (by omega) hn hv rfl kR (cC m)).mono ?_
    rintro e w' ⟨G,rfl,kT,vG,dF,h1,h2,h3,h4⟩;refine⟨_,rfl,?_,mW h4 _⟩;rw[<- hlen];exact fV hbase h1 h2 (by omega) vG (key _ (by rw[hlen];exact h3))
end Gw
namespace Gw
open Go.RowKit
def ord(a b:cD):Int:=bz a.ai b.ai
theorem keyed:RL.Keyed ord:=RL.ni cD.ai
def MT:cD->cD->Int:=RL.lex (λa b=>a.version-b.version) (λa b=>a.addr-b.addr)
def cP(a b:cD):Bool:=decide (0<MT a b)
abbrev bO(ms:List cD):Prop:=RL.bO ord ms
abbrev aZ(ms:List cD)(m:cD):List cD:=RL.iE ord cP ms m
abbrev ay(a b:List cD):List cD:=RL.join ord cP a b
abbrev At(ms:List cD)(t:cD)(p:Nat)(f:Bool):Prop:=RL.At ord dm ms t p f
abbrev aE(ms:List cD):Bool:=RL.aE ord ms
theorem dG{ms:List cD}(h:bO ms)(t:cD):∀i j,i<=j->j<ms.length->ord (ms.getD j dm) t<0->ord (ms.getD i dm) t<0:=RL.dG ord dm keyed h t
theorem fe(ms:List cD)(h:∀j,j+1<ms.length->ord (ms.getD j dm) (ms.getD (j+1) dm)<0):aE ms=true:=RL.gf ord dm ms h
theorem fc(ms:List cD)(h:aE ms=true):∀j,j+1<ms.length->ord (ms.getD j dm) (ms.getD (j+1) dm)<0:=RL.gS ord dm ms h
theorem qJ(ms:List cD)(hr:bO ms)(t:cD):∃p f,At ms t p f:=RL.qJ ord dm keyed ms hr t
theorem eV{ms:List cD}{t:cD}{p q:Nat}{f e:Bool}(h:At ms t p f)(k:At ms t q e):p=q/\f=e:=RL.eV ord dm h k
theorem dM(ms:List cD)(m:cD)(p:Nat)(f:Bool)(h:At ms m p f) :
 aZ ms m=if f=true then(if cP m (ms.getD p dm)=true then ms.set p m else ms) else ms.take p++m::ms.drop p:=RL.sQ ord cP dm ms m p f h
theorem gQ(b a:List cD)(h:bO a):bO (ay a b):=RL.qj ord cP keyed b a h
theorem dY(b a:List cD):(ay a b).length<=a.length+b.length:=RL.tH ord cP b a
theorem qk(b a:List cD)(x:cD)(h:x∈ay a b):x∈a\/x∈b:=RL.tI ord cP b a x h
theorem jb(a b:List cD)(j:Nat)(hj:j<b.length):ay a (b.take (j+1))=aZ (ay a (b.take j)) (b.getD j dm):=RL.xe ord cP dm a b j hj
theorem j9(b:List cD)(h:bO b):ay [] b=b:=RL.join_nil ord cP b h
theorem jR(b a:List cD)(ha:∀m∈a,m.ok)(hb:∀m∈b,m.ok):∀x∈ay a b,x.ok:=by
 intro x hx;rcases qk b a x hx with h|h
 .exact ha x h
 .exact hb x h
def cD.e(m:cD):Int:=if aN m.ai=true then(if within m.addr 0 4294967295=true then(if within m.version 1 1000000=true then 0 else 3) else 3) else 1
def aV:List cD->Int
 |[]=>0
 |m::r=>if m.e=0 then aV r else m.e
theorem bY:∀(ms:List cD),(∀j,j<ms.length->(ms.getD j dm).e=0)->aV ms=0
 |[],_=>rfl
 |m::r,h=>by
  have h0:=h 0 (by simp);simp only[IT] at h0;rw[aV,if_pos h0];exact bY r λj hj=>by have:=h (j+1) (by simpa using hj);simpa using this
theorem dI:∀(ms:List cD) (k:Nat),k<ms.length->(∀j,j<k->(ms.getD j dm).e=0)->(ms.getD k dm).e≠0->aV ms=(ms.getD k dm).e
 |[],k,h,_,_=>by simp at h
 |m::r,0,_,_,bu=>by
  simp only[IT] at bu ⊢;rw[aV,if_neg bu]
 |m::r,k+1,h,hz,bu=>by
  have h0:=hz 0 (by omega);simp only[IT] at h0;rw[aV,if_pos h0,Jx];rw[Jx] at bu;exact dI r k (by simpa using h) (λj hj=>by have:=hz (j+1) (by omega);simpa using this) bu
def ba(ms:List cD):Int:=if 6<ms.length then 2 else if aV ms=0 then(if aE ms=true then 0 else 4) else aV ms
theorem tC(ms:List cD)(k:Nat)(hn:ms.length<=6)(hk:k<ms.length)(hz:∀j,j<k->(ms.getD j dm).e=0)(bu:(ms.getD k dm).e≠0):ba ms=(ms.getD k dm).e:=by
 have h:=dI ms k hk hz bu;rw[ba,if_neg (by omega),h,if_neg bu]
theorem rD(ms:List cD)(hn:ms.length<=6)(hz:∀j,j<ms.length->(ms.getD j dm).e=0):ba ms=if aE ms=true then 0 else 4:=by
 rw[ba,if_neg (by omega),bY ms hz,if_pos rfl]
theorem aF{ms:List cD}(h:ba ms=0):ms.length<=6/\bO ms/\aV ms=0:=by
 unfold ba at h;split at h
 .omega
 .split at h
  .rename_i h1 h2
   split at h
   .rename_i h3
    exact⟨by omega,RL.kY ord keyed ms h3,h2⟩
   .omega
  .rename_i h1 h2;exact absurd h h2
def aJ(a b:List cD):Int:=if ba a=0 then ba b else ba a
def eK(a b:List cD)(k:Nat):List cD:=if k=0 then[] else if k=1 then a else ay a b
def aA(a b:List cD):Int:=if aJ a b=0 then(if 6<(ay a b).length then 2 else 0) else aJ a b
end Gw
namespace Gw
open Go.RowKit
theorem cW(a b:cD)(w:World) :
 aP 185 #[Im #[I a.ai,O J a.addr,O J a.version],Im #[I b.ai,O J b.addr,O J b.version]] w λe w'=>e=sh (O J (ord a b))/\Below w.heap.size w w':=by
 go_enter Tryz.func185,Tryz.ntmps185;go_wp2_with (go_at_call 110;refine(fb _ _ _).mono ?_;rintro e w' ⟨rfl,rfl⟩);go_ret;exact⟨rfl,((Below.refl _ _).alloc (By _) _).alloc (by simp) _⟩
theorem ja(a b:cD)(w:World) :
 aP 210 #[Im #[I a.ai,O J a.addr,O J a.version],Im #[I b.ai,O J b.addr,O J b.version]] w λe w'=>e=sh (.bool (cP a b))/\Below w.heap.size w w':=by
 have hd:∀a b:cD,cP a b=if a.version=b.version then decide (b.addr<a.addr) else decide (b.version<a.version):=λa b=>by
  simp only[cP,MT,RL.lex];by_cases h:a.version=b.version
  .rw[if_pos (by omega),if_pos h];congr 1;apply propext;omega
  .rw[if_neg (by omega),if_neg h];congr 1;apply propext;omega
 have HD:Hid (cP a b=if a.version=b.version then decide (b.addr<a.addr) else decide (b.version<a.version)):=hd a b;clear hd;obtain⟨ca,aa,va⟩:=a;obtain⟨cb,ab,vb⟩:=b;by_cases h1:va=vb
 .subst h1
  go_enter Tryz.func210,Tryz.ntmps210;go_wp2;go_ret;exact⟨aD (by rw[HD.out];simp),((Below.refl _ _).alloc (By _) _).alloc (by simp) _⟩
 .have CR:(va !=vb)=true:=by simpa using h1
  go_enter Tryz.func210,Tryz.ntmps210;go_wp2;go_ret;exact⟨aD (by rw[HD.out];simp[h1]),((Below.refl _ _).alloc (By _) _).alloc (by simp) _⟩
end Gw
namespace Gw
open Go.RowKit
theorem fZ(ms:List cD)(v:Value)(w:World)(h:Sl w v ms)(hn:ms.length<=1000) :
 aP 92 #[v] w λe w'=>∃v',e=sh v'/\Own w.heap.size w' v' ms/\Below w.heap.size w w':=by
 obtain⟨a,cap,rfl,hs,h⟩:=h;obtain⟨i0,ei,bW,fs,eU⟩:=I0 Tryz.uB;cases a with
 |none=>
  have he:ms=[]:=by
   rcases h with h|⟨b,off,h,_⟩
   .exact h
   .cases h
  subst he;clear h hs;have iD:=λ(w:World)=>Lib.run_eql_slice_nil (P:=be) w 25 49 Y 0 cap 0 0 OL;simp only[List.length_nil,Option.isNone_none] at iD ⊢;go_enter Tryz.func92,Tryz.ntmps92;go_wp2_with fail;go_ret;exact⟨_,rfl,bj _ _,Below.refl _ _⟩
 |some a=>
  have iD:=λ(w:World)=>Lib.run_eql_slice_nil (P:=be) w 25 49 (Z a) ms.length cap 0 0 OL;simp only[Option.isNone_some] at iD;have hnews:Hid (∀j u,(fl ms)[j]?=Z u->(w.alloc (AT #[] 49)).cell? (a.add j)=Z u):=by
   intro j u hj;rcases h with h|⟨b,off,h,hb,hr⟩
   .subst h;simp[fl] at hj
   .cases h
    have Sm:j<ms.length*3:=by rw[<- cT];exact(List.getElem?_eq_some_iff.1 hj).1
    have h1:=ed ms (j/3) (by omega) (j%3) (by omega);rw[show j/3*3+j%3=j by omega,hj] at h1;rw[Addr.add_lit,World.cell?_alloc_past (w:=w) _ b _ hb];obtain⟨c0,c1,c2⟩:=hr (j/3) (by omega);have cM:j%3=0\/j%3=1\/j%3=2:=by omega
    rcases cM with e|e|e
    .rw[show off+j=off+j/3*3 by omega,c0];rw[e] at h1;simpa[cD.cs] using h1.symm
    .rw[show off+j=off+j/3*3+1 by omega,c1];rw[e] at h1;simpa[cD.cs] using h1.symm
    .rw[show off+j=off+j/3*3+2 by omega,c2];rw[e] at h1;simpa[cD.cs] using h1.symm
  have HO:Hid ((w.alloc (AT #[] 49)).ownsRow w.heap.size 49 3 (U (Z ⟨w.heap.size,0,Y⟩) 0 0) 0 []):=World.ownsRow_made w #[] 0 (By _) (by unfold Ij;omega) rfl;clear h hs;go_enter Tryz.func92,Tryz.ntmps92;go_wp2_with (at_builtin;refine I5 _ rfl _ _ 25 rfl w.heap.size 49 i0 _ 3 32 OL ei bW fs eU rfl (by omega) _ 0 [] rfl HO.out a ms.length cap (fl ms) rfl (cT ms) hnews.out (fi ms) (by unfold Ij;omega) (by omega) (by simp) ?_);intro v' w' r1 r2 r3;go_wp2_with fail;go_ret;refine⟨v',rfl,?_,?_⟩
  .simpa using r1
  .exact((Below.refl _ _).alloc (By _) _).grown r2 (by simp) (λk hk=>by simp[I2] at hk;omega)
end Gw
end Go.Proofs.YtfidjlcdlakceaaGreatDoor
