import Derived.Test.YtfidjlcdlakceaaGreatDoortf3
set_option maxHeartbeats 1000000
set_option maxRecDepth 100000
open Go.Value renaming string→I,int→O,bool→AI,slice→U
open Go.IntKind renaming i64→J,wrap_i64→IK
open Option renaming none→Y,some→Z
open Go renaming cell_regrown→Iq,maxLen→Ij,info_parts→I0
open List renaming length_cons→IY,set_cons_succ→Qk,getElem?_take_of_lt→IF,getD→Io,getElem?_eq_getElem→Ic,length_take→Iu,append_assoc→I1,getD_cons_zero→IT,getD_cons_succ→Jx,pairwise_cons→Jl,mem_cons→Jd,rel_of_pairwise_cons→Ul,foldl_cons→Qw
open Go.Obj renaming cells→AT
open Array renaming getElem?_eq_some_iff→Ia,length_toList→IQ
open Go.World.ownsRow renaming lt→I6,stored→IW
open Go.Proofs.Tryz renaming prog→be,underlying22→Od
open Go.Ending renaming returned→sh
open Go.Act renaming eval→OO,put→Qe
open Bool renaming true_and→Qb,and_eq_true→IJ
namespace Go.Proofs.YtfidjlcdlakceaaGreatDoor
open Go.RowKit
structure Mem where
 name:ByteArray
 state:Int
 aX:Int
 addr:Int
 server:Bool
def dm:Mem:=⟨ByteArray.empty,0,0,0,false⟩
abbrev As(w:World)(b o:Nat)(m:Mem):Prop:=w.cell? ⟨b,o,Y⟩=Z (I m.name)/\w.cell? ⟨b,o+1,Y⟩=Z (O J m.state)/\w.cell? ⟨b,o+2,Y⟩=Z (O J m.aX)/\w.cell? ⟨b,o+3,Y⟩=Z (O J m.addr)/\w.cell? ⟨b,o+4,Y⟩=Z (AI m.server)
theorem As.re{w:World}{b o:Nat}{m:Mem}(h:As w b o m):∀d os,As (Go.Sort.grow (redrawn w d) os) b o m:=λd os=>by
 obtain⟨c0,c1,c2,c3,c4⟩:=h;exact⟨Iq c0 d os,Iq c1 d os,Iq c2 d os,Iq c3 d os,Iq c4 d os⟩
theorem As.eq{w w':World}{b o:Nat}{m:Mem}(h:As w b o m)(e:∀o,w'.cell? ⟨b,o,Y⟩=w.cell? ⟨b,o,Y⟩):As w' b o m:=by
 obtain⟨c0,c1,c2,c3,c4⟩:=h;exact⟨(e _).trans c0,(e _).trans c1,(e _).trans c2,(e _).trans c3,(e _).trans c4⟩
def Row(w:World)(b off:Nat)(ms:List Mem):Prop:=∀j,j<ms.length->As w b (off+j*5) (ms.getD j dm)
def Sl(w:World)(v:Value)(ms:List Mem):Prop:=
 ∃(a:Option Addr) (cap:Nat),v=U a ms.length cap/\(∀j,(ms.getD j dm).name.size<=Ij) /\
  (ms=[]\/∃b off,a=Z ⟨b,off,Y⟩/\b<w.heap.size/\Row w b off ms)
def Mem.cs(m:Mem):List Value:=[I m.name,O J m.state,O J m.aX,O J m.addr,AI m.server]
def fl(ms:List Mem):List Value:=ms.flatMap Mem.cs
theorem bl(m:Mem):m.cs.length=5:=rfl
theorem aT(m:Mem)(r:List Mem):fl (m::r)=m.cs++fl r:=by simp[fl]
theorem cF(a b:List Mem):fl (a++b)=fl a++fl b:=by simp[fl]
theorem cT:∀ms:List Mem,(fl ms).length=ms.length*5
 |[]=>rfl
 |m::r=>by rw[aT,List.length_append,cT r,bl,IY];omega
theorem gC:∀(ms:List Mem) (i:Nat),(fl ms).take (i*5)=fl (ms.take i)
 |[],i=>by simp[fl]
 |m::r,0=>by simp[fl]
 |m::r,i+1=>by
  rw[aT,List.take_succ_cons,aT,show(i+1)*5=m.cs.length+i*5 by rw[bl];omega,List.take_length_add_append,gC r i]
theorem gD:∀(ms:List Mem) (i:Nat),(fl ms).drop (i*5)=fl (ms.drop i)
 |[],i=>by simp[fl]
 |m::r,0=>by simp
 |m::r,i+1=>by
  rw[aT,List.drop_succ_cons,show(i+1)*5=m.cs.length+i*5 by rw[bl];omega,List.drop_length_add_append,gD r i]
theorem cC(m:Mem):∀v∈m.cs,v.oneCell'=true:=by
 intro v hv;simp[Mem.cs] at hv;rcases hv with rfl|rfl|rfl|rfl|rfl<;>rfl
theorem fi(ms:List Mem):∀v∈fl ms,v.oneCell'=true:=by
 intro v hv;obtain⟨m,_,h⟩:=List.mem_flatMap.1 hv;exact cC m v h
theorem ed(ms:List Mem)(j:Nat)(hj:j<ms.length)(t:Nat)(ht:t<5):(fl ms)[j*5+t]?=(ms.getD j dm).cs[t]?:=by
 induction ms generalizing j with
 |nil=>simp at hj
 |cons m r ih=>
  rw[aT];cases j with
  |zero=>rw[List.getElem?_append_left (by rw[bl];omega)];simp
  |succ j=>
   rw[List.getElem?_append_right (by rw[bl];omega),bl,show(j+1)*5+t-5=j*5+t by omega,ih j (by simpa using hj)];simp
theorem uj(ms:List Mem)(p:Nat)(hp:p<ms.length)(m:Mem):((((((fl ms).set (p*5) (I m.name)).set (p*5+1) (O J m.state)).set (p*5+2) (O J m.aX)).set (p*5+3) (O J m.addr)).set (p*5+4) (AI m.server))=fl (ms.set p m):=by
 induction ms generalizing p with
 |nil=>simp at hp
 |cons x r ih=>
  cases p with
  |zero=>simp[fl,Mem.cs]
  |succ p=>
   have XK:=ih p (by simpa using hp);rw[Qk,aT,aT,<- XK];simp only[Nat.add_mul,Nat.one_mul];have e:∀(l:List Value) (k:Nat) (v:Value),(x.cs++l).set (k+5) v=x.cs++l.set k v:=λl k v=>by
    rw[List.set_append,if_neg (by rw[bl];omega),bl,Nat.add_sub_cancel]
   have c:∀i:Nat,p*5+5+i=(p*5+i)+5:=λi=>by omega
   simp only[c];rw[e,e,e,e,e]
abbrev Own(base:Nat)(w:World)(v:Value)(ms:List Mem):Prop:=w.ownsRow base 70 5 v ms.length (fl ms)
theorem fV{base g G:Nat}{w:World}{cur:Array Value}{ms:List Mem}(hb:base<=g)(hg:w.heap[g]?=Z (AT cur 70 (0,0)))(hs:cur.size=G*5)(hn:ms.length<=G)(hG:G<=Ij)(ht:cur.toList.take (ms.length*5)=fl ms) :
 Own base w (U (Z ⟨g,0,Y⟩) ms.length G) ms:=⟨cT ms,.inr ⟨g,G,cur,rfl,hb,hg,hn,hG,hs,ht⟩⟩
theorem Own.sl{base:Nat}{w:World}{v:Value}{ms:List Mem}(h:Own base w v ms)(hs:∀j,(ms.getD j dm).name.size<=Ij):Sl w v ms:=by
 rcases h.2 with⟨rfl,h0⟩|⟨g,c,cur,rfl,dQ,hg,eC,dj,cM,aO⟩
 .exact⟨Y,0,by rw[h0],hs,.inl (List.eq_nil_of_length_eq_zero h0)⟩
 .refine⟨_,c,rfl,hs,.inr ⟨g,0,rfl,(Ia.1 hg).1,λj hj=>?_⟩⟩
  have hc:∀t,t<5->w.cell? ⟨g,0+j*5+t,Y⟩=(ms.getD j dm).cs[t]?:=λt ht=>by
   rw[af hg,<- ed ms j hj t ht,<- aO,IF (by omega)];simp
  exact⟨hc 0 (by omega),hc 1 (by omega),hc 2 (by omega),hc 3 (by omega),hc 4 (by omega)⟩
theorem Own.below{base:Nat}{w w':World}{v:Value}{ms:List Mem}(h:Own base w v ms)(hb:Below w.heap.size w w'):Own base w' v ms:=by
 rcases h.2 with⟨rfl,h0⟩|⟨g,c,cur,rfl,dQ,hg,eC,dj,cM,aO⟩
 .exact⟨h.1,.inl ⟨rfl,h0⟩⟩
 .have aL:=(Ia.1 hg).1
  exact⟨h.1,.inr ⟨g,c,cur,rfl,dQ,(hb.block g aL).trans hg,eC,dj,cM,aO⟩⟩
theorem Own.lt{base:Nat}{w:World}{v:Value}{ms:List Mem}(h:Own base w v ms)(k:Nat)(hk:v.ownBlock=Z k):base<=k/\k<w.heap.size:=I6 h k hk
theorem below_grown{base:Nat}{w w1 w2:World}{v:Value}{ms:List Mem}(hb:Below base w w1)(h:Own base w1 v ms)(hg:w1.grownBy w2 v.ownBlock)(hbase:base<=w1.heap.size):Below base w w2:=
 hb.grown hg hbase (λk hk=>(h.lt k hk).1)
theorem dH{base g c:Nat}{w:World}{ms:List Mem}(h:Own base w (U (Z ⟨g,0,Y⟩) ms.length c) ms)(j:Nat)(hj:j<ms.length) :
 As w g (j*5) (ms.getD j dm):=by
 rcases h.2 with⟨h1,_⟩|⟨g',c',cur,h1,dQ,hg,eC,dj,cM,aO⟩
 .cases h1
 .simp only[Value.slice.injEq,Option.some.injEq,Addr.mk.injEq] at h1
  obtain⟨⟨rfl,_,_⟩,_,_⟩:=h1;have hc:∀t,t<5->w.cell? ⟨g,j*5+t,Y⟩=(ms.getD j dm).cs[t]?:=λt ht=>by
   rw[af hg,<- ed ms j hj t ht,<- aO,IF (by omega)];simp
  exact⟨hc 0 (by omega),hc 1 (by omega),hc 2 (by omega),hc 3 (by omega),hc 4 (by omega)⟩
theorem eL{base:Nat}{w:World}{v:Value}{ms:List Mem}(h:Own base w v ms)(p:Nat)(hp:p<ms.length):∃g c,v=U (Z ⟨g,0,Y⟩) ms.length c:=by
 rcases h.2 with⟨_,h0⟩|⟨g,c,cur,h1,_⟩
 .omega
 .exact⟨g,c,h1⟩
theorem oW{base g c p:Nat}{W:World}{ms:List Mem}(h:Own base W (U (Z ⟨g,0,Y⟩) ms.length c) ms)(hp:p<ms.length)(m:Mem) :
 Own base (((((W.setCell ⟨g,p*5,Y⟩ (I m.name)).setCell ⟨g,p*5+1,Y⟩ (O J m.state)).setCell ⟨g,p*5+2,Y⟩ (O J m.aX)).setCell ⟨g,p*5+3,Y⟩ (O J m.addr)).setCell ⟨g,p*5+4,Y⟩ (AI m.server)) (U (Z ⟨g,0,Y⟩) ms.length c) (ms.set p m):=by
 have h1:=IW h (p*5) (I m.name);have h2:=IW h1.1 (p*5+1) (O J m.state);have h3:=IW h2.1 (p*5+2) (O J m.aX);have h4:=IW h3.1 (p*5+3) (O J m.addr);have h5:=IW h4.1 (p*5+4) (AI m.server);have e:=h5.1;rw[uj ms p hp m] at e;show World.ownsRow _ _ _ _ _ (ms.set p m).length _;rw[List.length_set];exact e
theorem Sl.below{w w':World}{v:Value}{ms:List Mem}(h:Sl w v ms)(hb:Below w.heap.size w w'):Sl w' v ms:=by
 obtain⟨a,cap,rfl,hs,h⟩:=h;refine⟨a,cap,rfl,hs,?_⟩;rcases h with h|⟨b,off,rfl,aL,hr⟩
 .exact .inl h
 .refine .inr ⟨b,off,rfl,Nat.lt_of_lt_of_le aL hb.size,λj hj=>?_⟩
  exact(hr j hj).eq (λo=>(cH hb).1 b o aL)
theorem Row.later{w w':World}{b off:Nat}{ms:List Mem}(hr:Row w b off ms)(hb:Below w.heap.size w w')(aL:b<w.heap.size):Row w' b off ms:=λj hj=>(hr j hj).eq (λo=>(cH hb).1 b o aL)
theorem Own.mono{base jS:Nat}{w:World}{v:Value}{ms:List Mem}(h:Own base w v ms)(hb:jS<=base):Own jS w v ms:=by
 rcases h.2 with⟨rfl,h0⟩|⟨g,c,cur,rfl,dQ,hg,eC,dj,cM,aO⟩
 .exact⟨h.1,.inl ⟨rfl,h0⟩⟩
 .exact⟨h.1,.inr ⟨g,c,cur,rfl,Nat.le_trans hb dQ,hg,eC,dj,cM,aO⟩⟩
theorem bj(base:Nat)(w:World):Own base w (U Y 0 0) []:=World.ownsRow_nil w base 70 5
theorem cZ{ms:List Mem}(h:∀j,(ms.getD j dm).name.size<=Ij):∀m∈ms,(m).name.size<=Ij:=by
 intro m hm;obtain⟨j,hj,rfl⟩:=List.getElem_of_mem hm;have:=h j;simpa[Io,Ic hj] using this
theorem cB{ms:List Mem}(h:∀m∈ms,(m).name.size<=Ij):∀j,(ms.getD j dm).name.size<=Ij:=by
 intro j;by_cases hj:j<ms.length
 .have:=h ms[j] (List.getElem_mem hj)
  simpa[Io,Ic hj] using this
 .simp[Io,List.getElem?_eq_none (Nat.le_of_not_lt hj),dm]
theorem gd{base:Nat}{w:World}{v:Value}{ms:List Mem}(h:Own base w v ms)(hs:∀m∈ms,(m).name.size<=Ij):Sl w v ms:=h.sl (cB hs)
theorem qe(w:World)(b cap:Nat)(m:Mem)(hm:(m).name.size<=Ij)(hg:w.heap[b]?=Z (AT #[I m.name,O J m.state,O J m.aX,O J m.addr,AI m.server] 70 (0,0))):Sl w (U (Z ⟨b,0,Y⟩) 1 cap) [m]:=by
 refine⟨_,cap,rfl,cB (λx hx=>by simp at hx;subst hx;exact hm),.inr ⟨b,0,rfl,(Ia.1 hg).1,λj hj=>?_⟩⟩
 have:j=0:=by simpa using hj
 subst this;exact⟨af hg (0+0*5),af hg (0+0*5+1),af hg (0+0*5+2),af hg (0+0*5+3),af hg (0+0*5+4)⟩
theorem Tryz.qd:(Tryz.prog.info? 70).map (λi=>(i.zero,i.size,i.bytes))=Z (Z (.agg #[I ⟨#[]⟩,O J 0,O J 0,O J 0,AI false]),5,48):=by kernel_rfl
theorem Se:(Tryz.prog.info? 70).map (·.size)=Z 5:=by
 obtain⟨i,hi,h1,h2,h3⟩:=I0 Tryz.qd;rw[hi];simp[h2]
theorem sizeOf70(w:World):(Go.sizeOf 70).run be w=.ok 5 w:=by
 obtain⟨i,hi,h1,h2,h3⟩:=I0 Tryz.qd;simp[Go.sizeOf,typeInfo,hi,h2]
theorem eI(w:World)(g vb o lb cb:Nat)(cur vs:Array Value)(hg:w.heap[g]?=Z (AT cur 70 (0,0)))(hv:w.heap[vb]?=Z (AT vs 70 (0,0)))(bu:vb≠g)(hk:cur.size≠0) : (callFunc 288 #[U (Z ⟨vb,0,Y⟩) 1 1,U (Z ⟨g,o,Y⟩) lb cb]).run be w=.ok (.value (AI false)) w:=by
 rw[run_callFunc_extern Tryz.func288 (by kernel_rfl) (by kernel_rfl) (by kernel_rfl) (e:=Extern.SlicesOverlaps.overlaps #[22,22] #[4]) (by kernel_rfl),
  Lib.run_overlaps_apart w 22 4 70 Od 5 sizeOf70 ⟨vb,0,Y⟩ ⟨g,o,Y⟩ 1 1 lb cb bu 70 70 vs.size cur.size (by simp[World.shape?,hv]) (by simp[World.shape?,hg]) hk (by simp[World.frozen?,hv]) (by simp[World.frozen?,hv])]
 rfl
theorem fk(g n c i vb:Nat)(cur:Array Value)(vs:List Value)(w:World)(hg:w.heap[g]?=Z (AT cur 70 (0,0)))(cM:cur.size=c*5)(hi:i<n)(cV:n+1<=c)(Dz:c<=9223372036854775807)(qa:vb≠g)(hv:w.heap[vb]?=Z (AT vs.toArray 70 (0,0)))(oN:vs.length=5)(kR:∀v∈cur.toList.take (n*5),v.oneCell'=true)(lZ:∀v∈vs,v.oneCell'=true) :
 aP 270 #[U (Z ⟨g,0,Y⟩) n c,O J i,U (Z ⟨vb,0,Y⟩) 1 1] w λe w'=>e=sh (U (Z ⟨g,0,Y⟩) (n+1) c) /\
  ∃dF:Array Value,w'.heap[g]?=Z (AT dF 70 (0,0))/\dF.size=c*5/\dF.toList.take ((n+1)*5)=cur.toList.take (i*5)++vs++(cur.toList.take (n*5)).drop (i*5)/\w.grownBy w' (Z g):=by
 have hov:=λo lb cb=>eI w g vb o lb cb cur vs.toArray hg hv qa (by omega);have iX:¬ ((i:Int)=(n:Int)):=by omega
 have aC:¬ (c=i+1):=by omega
 have fa:¬ (c=i):=by omega
 have bf:(i:Int)<=(n:Int)+1:=by omega
 obtain⟨W1,W2,oy,ui,HF⟩:=oQ Od Se hg cM hi cV qa hv oN kR lZ;have HF:Hid _:=HF;clear kR lZ hg hv;have De:IntKind.i64.wrap ((i:Int)+1)=(i:Int)+1:=by rw[IK];omega
 have al:(0:Int)<=(i:Int)+1:=by omega
 have DA:i<=n:=by omega
 have L3:((i:Int)+1).toNat=i+1:=by omega
 go_enter Tryz.func270,Tryz.ntmps270;go_wp2_with (simp only[hov]);go_region_law (refine cY rfl _ _ 22 22 rfl _ _ (by simp[OO,Qe]) (by simp[OO,Qe]) (oy _ _ _) ?_)
 go_wp2_with fail;go_ret;exact⟨rfl,HF.out⟩
theorem fm(g n c i vb:Nat)(cur:Array Value)(vs:List Value)(w:World)(hg:w.heap[g]?=Z (AT cur 70 (0,0)))(cM:cur.size=c*5)(hi:i<n)(eC:n<=c)(cV:c<n+1)(Dz:n<=1000)(hv:w.heap[vb]?=Z (AT vs.toArray 70 (0,0)))(oN:vs.length=5)(kR:∀v∈cur.toList.take (n*5),v.oneCell'=true)(lZ:∀v∈vs,v.oneCell'=true) :
 aP 270 #[U (Z ⟨g,0,Y⟩) n c,O J i,U (Z ⟨vb,0,Y⟩) 1 1] w λe w'=>∃G,e=sh (U (Z ⟨w.heap.size,0,Y⟩) (n+1) G)/\n+1<=G/\G<=Ij /\
  ∃dF:Array Value,w'.heap[w.heap.size]?=Z (AT dF 70 (0,0))/\dF.size=G*5/\dF.toList.take ((n+1)*5)=cur.toList.take (i*5)++vs++(cur.toList.take (n*5)).drop (i*5)/\w.grownBy w' Y:=by
 obtain⟨i0,ei,bW,fs,eU⟩:=I0 Tryz.qd;have vE:c=n:=by omega
 subst vE;have iX:¬ ((i:Int)=(c:Int)):=by omega
 have lN:(c:Int)<(c:Int)+1:=by omega
 have Az:(c:Int)+1-(i:Int)=((c+1-i:Nat):Int):=by omega
 have DB:i+(c+1-i)=c+1:=by omega
 have hold:(Builtin.firstCells i0.size i (U (Z ⟨g,0,Y⟩) i c)).run be w.drew=.ok (cur.toList.take (i*5)).toArray w.drew:=by
  rw[fs];exact run_firstCells_some w.drew 5 i ⟨g,0,Y⟩ i c (cur.toList.take (i*5)) (by rw[Iu,IQ];omega) (λj v hj=>by
   have e:w.drew.cell? ((⟨g,0,Y⟩:Addr).add j)=cur[j]?:=by rw[Addr.add_lit,Nat.zero_add];exact af hg _
   rw[e];rw[List.getElem?_take] at hj;split at hj
   .simpa using hj
   .cases hj)
 have yN:∀ty,∃G lE,c+1<=G/\G<=Ij/\lE.size=G*5/\lE.toList.take (i*5)=cur.toList.take (i*5)/\(Builtin.append_ #[22,3] ty #[U (Z ⟨g,0,Y⟩) i c,O J ((c:Int)+1-(i:Int))]).run be w =
  .ok (U (Z ⟨w.heap.size,0,Y⟩) (c+1) G) (w.drew.alloc (AT lE 70)):=λty=>by
  have h:=Lib.run_append_grow_zeros w 22 3 ty 70 i0 _ J J Od Tryz.underlying3 ei bW (Z ⟨g,0,Y⟩) i c (cur.toList.take (i*5)) hold (c+1-i) (by omega) (by omega) (by omega) (by omega) (by rw[eU];omega) (by rw[eU,DB];exact growslice_fits cV (by omega));rw[DB] at h;rw[Az];have h1:=grownCap_ge w (c+1) c 70;refine⟨_,_,h1,grownCap_le_maxLen w (c+1) c 70 (by unfold Ij;omega),?_,?_,h⟩
  .simp only[Array.size_append,List.size_toArray,size_zeroCells,Iu,IQ,cM,Value.cells]
   simp;omega
  .simp only[Array.toList_append,I1]
   exact List.take_left' (by simp only[Iu,IQ,cM];omega)
 obtain⟨G,lE,kT,vG,Cs,Gb,yN⟩:=yN 22;have aaz:G<=9223372036854775807:=by unfold Ij at vG;omega
 obtain⟨W2,W3,oy,ui,HF⟩:=oR Od Se hg cM hi hv oN kR lZ kT Cs Gb;obtain⟨W1,e9⟩:∃W1,W1=(w.alloc (AT lE 70)).drew:=⟨_,rfl⟩;have Fg:w.drew.alloc (AT lE 70)=W1:=by rw[e9];rfl
 rw[Fg] at yN;rw[<- e9] at oy;have HF:Hid _:=HF;have De:IntKind.i64.wrap ((i:Int)+1)=(i:Int)+1:=by rw[IK];omega
 have al:(0:Int)<=(i:Int)+1:=by omega
 have DA:i<=c:=by omega
 have L3:((i:Int)+1).toNat=i+1:=by omega
 have hGi:¬ (G=i):=by omega
 have aaA:¬ (G=i+1):=by omega
 have hci:¬ (c=i):=by omega
 clear e9 kR lZ Fg Cs Gb Az DB hold hg hv ei bW fs eU;go_enter Tryz.func270,Tryz.ntmps270;go_wp2_with (at_builtin;refine Lib.wpList_append_run _ rfl _ _ _ _ rfl _ _ rfl rfl _ _ yN ?_);go_region_law (refine cY rfl _ _ 22 22 rfl _ _ (by simp[OO,Qe]) (by simp[OO,Qe]) (ui _ _ _) ?_)
 go_wp2_with fail;go_ret;exact⟨G,rfl,kT,vG,HF.out⟩
theorem fX(base n vb:Nat)(v:Value)(xs vs:List Value)(w:World)(hown:w.ownsRow base 70 5 v n xs)(hn:n<=1000)(hbase:base<=w.heap.size)(hv:w.heap[vb]?=Z (AT vs.toArray 70 (0,0)))(oN:vs.length=5)(lZ:∀v∈vs,v.oneCell'=true) :
 aP 270 #[v,O J n,U (Z ⟨vb,0,Y⟩) 1 1] w λe w'=>∃v',e=sh v'/\w'.ownsRow base 70 5 v' (n+1) (xs++vs)/\w.grownBy w' v.ownBlock:=by
 obtain⟨i0,ei,bW,fs,eU⟩:=I0 Tryz.qd;have hnews:∀j u,vs[j]?=Z u->w.cell? ((⟨vb,0,Y⟩:Addr).add j)=Z u:=λj v hj=>by rw[Addr.add_lit,af hv];simpa using hj
 have HO:Hid (w.ownsRow base 70 5 v n xs):=hown;rcases hown.2 with⟨rfl,rfl⟩|⟨g,c,cur,rfl,_,_,eC,dj,_,_⟩;rotate_left;unfold Ij at dj;by_cases vE:c=n;subst vE;all_goals
  clear hown hv;go_enter Tryz.func270,Tryz.ntmps270;go_wp2_with (at_builtin;refine wpList_append_own _ rfl _ _ 22 rfl base 70 i0 _ 5 48 Od ei bW fs eU rfl (by omega) _ _ xs rfl HO.out ⟨vb,0,Y⟩ 1 1 vs rfl (by omega) hnews lZ (by unfold Ij;omega) (by omega) hbase ?_);intro v' w' r1 r2 r3;go_wp2_with fail;go_ret;exact⟨v',rfl,r1,r2⟩
theorem fQ(base i vb:Nat)(v:Value)(ms:List Mem)(m:Mem)(w:World)(hown:Own base w v ms)(hi:i<=ms.length)(hn:ms.length<=1000)(hbase:base<=w.heap.size)(hv:w.heap[vb]?=Z (AT m.cs.toArray 70 (0,0)))(bu:v.ownBlock≠Z vb) :
 aP 270 #[v,O J i,U (Z ⟨vb,0,Y⟩) 1 1] w λe w'=>∃v',e=sh v'/\Own base w' v' (ms.take i++m::ms.drop i)/\w.grownBy w' v.ownBlock:=by
 have hlen:(ms.take i++m::ms.drop i).length=ms.length+1:=by simp;omega
 have oi:fl (ms.take i++m::ms.drop i)=(fl ms).take (i*5)++m.cs++(fl ms).drop (i*5):=by rw[cF,aT,gC,gD,I1]
 by_cases DA:i=ms.length
 .subst DA
  refine(fX base ms.length vb v (fl ms) m.cs w hown hn hbase hv rfl (cC m)).mono ?_;rintro e w' ⟨v',rfl,h1,h2⟩;refine⟨v',rfl,?_,h2⟩;have e1:ms.take ms.length++m::ms.drop ms.length=ms++[m]:=by simp
  have e2:fl (ms++[m])=fl ms++m.cs:=by rw[cF,aT];simp[fl]
  rw[e1];show w'.ownsRow base 70 5 v' (ms++[m]).length (fl (ms++[m]));rw[e2,show(ms++[m]).length=ms.length+1 by simp];exact h1
 .rcases hown.2 with⟨_,h0⟩|⟨g,c,cur,rfl,dQ,hg,eC,dj,cM,aO⟩
  .omega
  .have qa:vb≠g:=λe=>bu (by simp[Value.ownBlock,e])
   have kR:∀v∈cur.toList.take (ms.length*5),v.oneCell'=true:=by rw[aO];exact fi ms
   have T1:cur.toList.take (i*5)=(fl ms).take (i*5):=by rw[<- aO,List.take_take];congr 1;omega
   have key:∀l:List Value,l=cur.toList.take (i*5)++m.cs++(cur.toList.take (ms.length*5)).drop (i*5)->l=fl (ms.take i++m::ms.drop i):=λl hl=>by rw[hl,oi,aO,T1]
   by_cases cV:ms.length+1<=c
   .refine(fk g ms.length c i vb cur m.cs w hg cM (by omega) cV (by unfold Ij at dj;omega) qa hv rfl kR (cC m)).mono ?_
    rintro e w' ⟨rfl,dF,h1,h2,h3,h4⟩;refine⟨_,rfl,?_,h4⟩;rw[<- hlen];exact fV dQ h1 h2 (by omega) dj (key _ (by rw[hlen];exact h3))
   .refine(fm g ms.length c i vb cur m.cs w hg cM (by omega) eC (by omega) hn hv rfl kR (cC m)).mono ?_
    rintro e w' ⟨G,rfl,kT,vG,dF,h1,h2,h3,h4⟩;refine⟨_,rfl,?_,mW h4 _⟩;rw[<- hlen];exact fV hbase h1 h2 (by omega) vG (key _ (by rw[hlen];exact h3))
def wk(nm:ByteArray)(st lf ad:Int):Int:=
 if aN nm=true then(if within st 1 4=true then(if within lf 1 1000000=true then(if within ad 0 4294967295=true then 0 else 3) else 3) else 7) else 1
def Bg(sa la aa:Int)(va:Bool)(sb lb ab:Int)(vb:Bool):Bool:=
 if la=lb then(if sa=sb then(if aa=ab then(va&&!vb) else decide (ab<aa)) else decide (sb<sa)) else decide (lb<la)
theorem ym(nm:ByteArray)(st lf ad:Int)(sv:Bool)(w:World)(hs:nm.size<=Ij) :
 aP 175 #[.agg #[I nm,O J st,O J lf,O J ad,AI sv]] w λe w'=>e=sh (O J (wk nm st lf ad))/\w'=w.alloc (AT #[I nm,O J st,O J lf,O J ad,AI sv] 70):=by
 rcases h1:aN nm with _|_
 .go_enter Tryz.func175,Tryz.ntmps175
  go_wp2_with (go_at_call 65;refine(bc _ _ hs).mono ?_;rintro e w' ⟨rfl,rfl⟩;rw[h1]);go_ret;exact⟨aj (by simp[wk,h1]),rfl⟩
 .rcases h2:within st 1 4 with _|_
  .go_enter Tryz.func175,Tryz.ntmps175
   go_wp2_with (first|(go_at_call 65;refine(bc _ _ hs).mono ?_;rintro e w' ⟨rfl,rfl⟩;rw[h1])|(go_at_call 70;refine(bD _ _ _ _).mono ?_;rintro e w' ⟨rfl,rfl⟩;rw[h2]));go_ret;exact⟨aj (by simp[wk,h1,h2]),rfl⟩
  .rcases h3:within lf 1 1000000 with _|_
   .go_enter Tryz.func175,Tryz.ntmps175
    go_wp2_with (first|(go_at_call 65;refine(bc _ _ hs).mono ?_;rintro e w' ⟨rfl,rfl⟩;rw[h1])|(go_at_call 70;refine(bD _ _ _ _).mono ?_;rintro e w' ⟨rfl,rfl⟩;first|rw[h2]|rw[h3]));go_ret;exact⟨aj (by simp[wk,h1,h2,h3]),rfl⟩
   .rcases h4:within ad 0 4294967295 with _|_
    all_goals
     go_enter Tryz.func175,Tryz.ntmps175;go_wp2_with (first|(go_at_call 65;refine(bc _ _ hs).mono ?_;rintro e w' ⟨rfl,rfl⟩;rw[h1])|(go_at_call 70;refine(bD _ _ _ _).mono ?_;rintro e w' ⟨rfl,rfl⟩;first|rw[h2]|rw[h3])|(go_at_call 44;refine(ea _ _).mono ?_;rintro e w' ⟨rfl,rfl⟩;rw[h4]));go_ret;exact⟨aj (by simp[wk,h1,h2,h3,h4]),rfl⟩
theorem xa(na nb:ByteArray)(sa la aa:Int)(va:Bool)(sb lb ab:Int)(vb:Bool)(w:World) :
 aP 239 #[.agg #[I na,O J sa,O J la,O J aa,AI va],.agg #[I nb,O J sb,O J lb,O J ab,AI vb]] w λe w'=>e=sh (AI (Bg sa la aa va sb lb ab vb))/\w'=(w.alloc (AT #[I na,O J sa,O J la,O J aa,AI va] 70)).alloc (AT #[I nb,O J sb,O J lb,O J ab,AI vb] 70):=by
 by_cases h1:la=lb
 .subst h1
  by_cases h2:sa=sb
  .subst h2
   by_cases h3:aa=ab
   .subst h3
    cases va
    all_goals
     go_enter Tryz.func239,Tryz.ntmps239;go_wp2;go_ret;exact⟨aD (by simp[Bg]),rfl⟩
   .have h3':(aa !=ab)=true:=by simpa using h3
    go_enter Tryz.func239,Tryz.ntmps239;go_wp2;go_ret;exact⟨aD (by simp[Bg,h3]),rfl⟩
  .have yA:(sa !=sb)=true:=by simpa using h2
   go_enter Tryz.func239,Tryz.ntmps239;go_wp2;go_ret;exact⟨aD (by simp[Bg,h2]),rfl⟩
 .have CR:(la !=lb)=true:=by simpa using h1
  go_enter Tryz.func239,Tryz.ntmps239;go_wp2;go_ret;exact⟨aD (by simp[Bg,h1]),rfl⟩
def Mem.e(m:Mem):Int:=wk m.name m.state m.aX m.addr
def aV:List Mem->Int
 |[]=>0
 |m::r=>if m.e=0 then aV r else m.e
theorem bY:∀(ms:List Mem),(∀j,j<ms.length->(ms.getD j dm).e=0)->aV ms=0
 |[],_=>rfl
 |m::r,h=>by
  have h0:=h 0 (by simp);simp only[IT] at h0;rw[aV,if_pos h0];exact bY r λj hj=>by have:=h (j+1) (by simpa using hj);simpa using this
theorem dI:∀(ms:List Mem) (k:Nat),k<ms.length->(∀j,j<k->(ms.getD j dm).e=0)->(ms.getD k dm).e≠0->aV ms=(ms.getD k dm).e
 |[],k,h,_,_=>by simp at h
 |m::r,0,_,_,bu=>by
  simp only[IT] at bu ⊢;rw[aV,if_neg bu]
 |m::r,k+1,h,hz,bu=>by
  have h0:=hz 0 (by omega);simp only[IT] at h0;rw[aV,if_pos h0,Jx];rw[Jx] at bu;exact dI r k (by simpa using h) (λj hj=>by have:=hz (j+1) (by omega);simpa using this) bu
def aE:List Mem->Bool
 |a::b::r=>less a.name b.name&&aE (b::r)
 |_=>true
theorem gf:∀(ms:List Mem),(∀j,j+1<ms.length->less (ms.getD j dm).name (ms.getD (j+1) dm).name=true)->aE ms=true
 |[],_=>rfl
 |[_],_=>rfl
 |a::b::r,h=>by
  have h0:=h 0 (by simp);simp only[IT,Jx] at h0;rw[aE,h0,Qb];exact gf (b::r) λj hj=>by have:=h (j+1) (by simpa using hj);simpa using this
theorem gS:∀(ms:List Mem),aE ms=true->∀j,j+1<ms.length->less (ms.getD j dm).name (ms.getD (j+1) dm).name=true
 |[],_,j,h=>by simp at h
 |[_],_,j,h=>by simp at h
 |a::b::r,hr,0,_=>by
  rw[aE,IJ] at hr;simpa using hr.1
 |a::b::r,hr,j+1,h=>by
  rw[aE,IJ] at hr;have:=gS (b::r) hr.2 j (by simpa using h);simpa using this
def ba(ms:List Mem):Int:=if 20<ms.length then 2 else if aV ms=0 then(if aE ms=true then 0 else 4) else aV ms
theorem tC(ms:List Mem)(k:Nat)(hn:ms.length<=20)(hk:k<ms.length)(hz:∀j,j<k->(ms.getD j dm).e=0)(bu:(ms.getD k dm).e≠0):ba ms=(ms.getD k dm).e:=by
 have h:=dI ms k hk hz bu;rw[ba,if_neg (by omega),h,if_neg bu]
theorem alS(ms:List Mem)(hn:ms.length<=20)(hz:∀j,j<ms.length->(ms.getD j dm).e=0)(hl:∀j,j+1<ms.length->less (ms.getD j dm).name (ms.getD (j+1) dm).name=true):ba ms=0:=by
 rw[ba,if_neg (by omega),bY ms hz,if_pos rfl,if_pos (gf ms hl)]
structure At(ms:List Mem)(t:ByteArray)(p:Nat)(f:Bool):Prop where
 le:p<=ms.length
 lo:∀j,j<p->bz (ms.getD j dm).name t<0
 hi:∀j,p<=j->j<ms.length->0<=bz (ms.getD j dm).name t
 is:f=true↔p<ms.length/\bz (ms.getD p dm).name t=0
def jG(a b:Mem):Bool:=Bg a.state a.aX a.addr a.server b.state b.aX b.addr b.server
def aZ:List Mem->Mem->List Mem
 |[],m=>[m]
 |x::r,m=>if bz x.name m.name<0 then x::aZ r m else if bz x.name m.name=0 then(if jG m x=true then m::r else x::r) else m::x::r
abbrev bO(ms:List Mem):Prop:=ms.Pairwise λa b=>less a.name b.name=true
theorem kY:∀ms:List Mem,aE ms=true->bO ms
 |[],_=>.nil
 |[x],_=>by simp[bO]
 |a::b::r,h=>by
  rw[aE,IJ] at h;have ih:=kY (b::r) h.2;refine Jl.2 ⟨λc hc=>?_,ih⟩;rcases Jd.1 hc with rfl|hc
  .exact h.1
  .exact fN h.1 (Ul ih hc)
theorem Bt:∀ms:List Mem,bO ms->aE ms=true
 |[],_=>rfl
 |[x],_=>rfl
 |a::b::r,h=>by
  rw[aE,Ul h (by simp),Qb];exact Bt (b::r) (List.Pairwise.of_cons h)
theorem dG{ms:List Mem}(h:bO ms)(t:ByteArray):∀i j,i<=j->j<ms.length->bz (ms.getD j dm).name t<0->bz (ms.getD i dm).name t<0:=by
 intro i j lO hj aL;rcases Nat.lt_or_eq_of_le lO with aax|rfl
 .have hp:=List.pairwise_iff_getElem.1 h i j (by omega) hj aax
  rw[fu] at aL ⊢;have e1:ms.getD i dm=ms[i]:=by simp[Io,Ic (show i<ms.length by omega)]
  have e2:ms.getD j dm=ms[j]:=by simp[Io,Ic hj]
  rw[e1];rw[e2] at aL;exact fN hp aL
 .exact aL
theorem dM:∀(ms:List Mem) (m:Mem) (p:Nat) (f:Bool),At ms m.name p f ->
 aZ ms m=if f=true then(if jG m (ms.getD p dm)=true then ms.set p m else ms) else ms.take p++m::ms.drop p
 |[],m,p,f,h=>by
  have hp:p=0:=by have:=h.le;simpa using this
  subst hp;have hf:f=false:=by
   cases f
   .rfl
   .have:=h.is.1 rfl;simp at this
  subst hf;simp[aZ]
 |x::r,m,0,f,h=>by
  have h0:=h.hi 0 (Nat.le_refl _) (by simp);simp only[IT] at h0;rw[aZ,if_neg (by omega)];cases f
  .have bu:¬ bz x.name m.name=0:=λe=>by have:=h.is.2 ⟨by simp,by simpa using e⟩;cases this
   rw[if_neg bu];simp
  .have he:=(h.is.1 rfl).2
   simp only[IT] at he;rw[if_pos he];simp only[IT,List.set_cons_zero,if_pos]
 |x::r,m,p+1,f,h=>by
  have h0:=h.lo 0 (by omega);simp only[IT] at h0;have hr:At r m.name p f:=⟨by have:=h.le;simpa using this,λj hj=>by have:=h.lo (j+1) (by omega);simpa using this,
   λj hj hl=>by have:=h.hi (j+1) (by omega) (by simpa using hl);simpa using this,by have:=h.is;simpa using this⟩
  rw[aZ,if_pos h0,dM r m p f hr];cases f
  .simp
  .simp only[if_pos,Jx,Qk]
   split<;>rfl
theorem gX:∀(ms:List Mem) (m x:Mem),x∈aZ ms m->x=m\/x∈ms
 |[],m,x,h=>by simp[aZ] at h;exact .inl h
 |y::r,m,x,h=>by
  rw[aZ] at h;split at h
  .rcases Jd.1 h with rfl|h
   .exact .inr (by simp)
   .rcases gX r m x h with h|h
    .exact .inl h
    .exact .inr (by simp[h])
  .split at h
   .split at h
    .rcases Jd.1 h with h|h
     .exact .inl h
     .exact .inr (by simp[h])
    .exact .inr h
   .rcases Jd.1 h with h|h
    .exact .inl h
    .exact .inr h
theorem jC:∀(ms:List Mem) (m:Mem),bO ms->bO (aZ ms m)
 |[],m,_=>by simp[aZ]
 |x::r,m,h=>by
  have hx:=Jl.1 h;rw[aZ];split
  .rename_i aL
   refine Jl.2 ⟨λy hy=>?_,jC r m hx.2⟩;rcases gX r m y hy with rfl|hy
   .exact(fu _ _).1 aL
   .exact hx.1 y hy
  .rename_i aL
   split
   .rename_i he
    have hn:=(cU _ _).1 he;split
    .exact Jl.2 ⟨λy hy=>by rw[<- hn];exact hx.1 y hy,hx.2⟩
    .exact h
   .rename_i he
    have hg:less m.name x.name=true:=(mV _ _).1 (by omega);refine Jl.2 ⟨λy hy=>?_,h⟩;rcases Jd.1 hy with rfl|hy
    .exact hg
    .exact fN hg (hx.1 y hy)
theorem kt:∀(ms:List Mem) (m:Mem),ms.length<=(aZ ms m).length/\(aZ ms m).length<=ms.length+1
 |[],m=>by simp[aZ]
 |x::r,m=>by
  have:=kt r m;rw[aZ];split
  .simp;omega
  .split
   .split<;>simp
   .simp
def ay(a b:List Mem):List Mem:=b.foldl aZ a
theorem gQ:∀(b a:List Mem),bO a->bO (ay a b)
 |[],_,h=>h
 |m::r,a,h=>gQ r (aZ a m) (jC a m h)
theorem dY:∀(b a:List Mem),(ay a b).length<=a.length+b.length
 |[],_=>by simp[ay]
 |m::r,a=>by
  have h1:=dY r (aZ a m);have h2:=kt a m;simp only[ay,Qw,IY] at *;omega
theorem eV{ms:List Mem}{nm:ByteArray}{p q:Nat}{f e:Bool}(h:At ms nm p f)(k:At ms nm q e):p=q/\f=e:=by
 have hpq:p=q:=by
  rcases Nat.lt_trichotomy p q with aL|rfl|aL
  .have h1:=k.lo p aL
   have h2:=h.hi p (Nat.le_refl _) (by have:=k.le;omega);omega
  .rfl
  .have h1:=h.lo q aL
   have h2:=k.hi q (Nat.le_refl _) (by have:=h.le;omega);omega
 subst hpq;refine⟨rfl,?_⟩;rw[Bool.eq_iff_iff,h.is,k.is]
theorem sP{ms:List Mem}{m:Mem}(h:∀m∈ms,m.name.size<=Ij)(hm:m.name.size<=Ij):∀x∈aZ ms m,x.name.size<=Ij:=by
 intro x hx;rcases gX ms m x hx with rfl|hx
 .exact hm
 .exact h x hx
theorem jR:∀(b a:List Mem),(∀m∈a,m.name.size<=Ij)->(∀m∈b,m.name.size<=Ij)->∀x∈ay a b,x.name.size<=Ij
 |[],_,ha,_=>ha
 |m::r,a,ha,hb=>jR r (aZ a m) (sP ha (hb m (by simp))) (λx hx=>hb x (by simp[hx]))
theorem jb(a b:List Mem)(j:Nat)(hj:j<b.length):ay a (b.take (j+1))=aZ (ay a (b.take j)) (b.getD j dm):=by
 have e:b.getD j dm=b[j]:=by simp[Io,Ic hj]
 rw[e,List.take_succ_eq_append_getElem hj,ay,List.foldl_append,ay];rfl
theorem vq:∀(a:List Mem) (m:Mem),(∀x∈a,less x.name m.name=true)->aZ a m=a++[m]
 |[],_,_=>rfl
 |x::r,m,h=>by
  rw[aZ,if_pos ((fu _ _).2 (h x (by simp))),vq r m (λy hy=>h y (by simp[hy]))];rfl
theorem yc:∀(b a:List Mem),bO (a++b)->ay a b=a++b
 |[],a,_=>by simp[ay]
 |m::r,a,h=>by
  have h1:=vq a m λx hx=>(List.pairwise_append.1 h).2.2 x hx m (by simp);have h2:=yc r (a++[m]) (by simpa using h);simp only[ay,Qw,h1] at h2 ⊢;rw[h2];simp
theorem j9(b:List Mem)(h:bO b):ay [] b=b:=yc b [] h
theorem aF{ms:List Mem}(h:ba ms=0):ms.length<=20/\bO ms/\aV ms=0:=by
 unfold ba at h;split at h
 .omega
 .split at h
  .rename_i h1 h2
   split at h
   .rename_i h3
    exact⟨by omega,kY ms h3,h2⟩
   .omega
  .rename_i h1 h2;exact absurd h h2
def aJ(a b:List Mem):Int:=if ba a=0 then ba b else ba a
def eK(a b:List Mem)(k:Nat):List Mem:=if k=0 then[] else if k=1 then a else ay a b
def aA(a b:List Mem):Int:=if aJ a b=0 then(if 20<(ay a b).length then 2 else 0) else aJ a b
theorem fe(ms:List Mem)(h:∀j,j+1<ms.length->bz (ms.getD j dm).name (ms.getD (j+1) dm).name<0):aE ms=true:=gf ms λj hj=>(fu _ _).1 (h j hj)
theorem fc(ms:List Mem)(h:aE ms=true):∀j,j+1<ms.length->bz (ms.getD j dm).name (ms.getD (j+1) dm).name<0:=λj hj=>(fu _ _).2 (gS ms h j hj)
theorem rD(ms:List Mem)(hn:ms.length<=20)(hz:∀j,j<ms.length->(ms.getD j dm).e=0):ba ms=if aE ms=true then 0 else 4:=by
 rw[ba,if_neg (by omega),bY ms hz,if_pos rfl]
end Go.Proofs.YtfidjlcdlakceaaGreatDoor
