import Derived.Test.YtfidhgjmifendaaGreatDoorns2
import Derived.Lib.AppendIntMem
set_option maxHeartbeats 6400000
set_option maxRecDepth 100000
open Go.Value renaming string→Y,int→U,bool→Ia,slice→J,agg→Ij,pointer→Ie,tuple→Ik
open Go.IntKind renaming i64→O,wrap_i64→IW
open Option renaming none→be,some→AI
open Go renaming cell_regrown→Iq,maxLen→Il,info_parts→I6,bodyPost→JV,heap_alloc_new→Ih
open List renaming length_append→Ig,length_cons→Iw,set_cons_succ→Ou,getElem?_take_of_lt→IN,getElem_of_mem→IX,getD→Ip,getElem?_eq_getElem→If,getElem_mem→IJ,length_take→IA,size_toArray→JX,append_assoc→Io,getD_cons_zero→I4,getD_cons_succ→JB,pairwise_cons→JE,mem_cons→IQ,rel_of_pairwise_cons→JG,foldl_cons→OB,take_succ_eq_append_getElem→IH,not_mem_nil→Jy,length_nil→IV,length→Jt
open Go.Obj renaming cells→By
open Array renaming getElem?_eq_some_iff→BY,length_toList→IU
open Go.World.ownsRow renaming lt→OK,stored→II
open Nat renaming le_trans→Ir,le_refl→Ic
open Go.Proofs.Tryz renaming prog→AS,underlying34→JP,underlying3→ID
open Go.Ending renaming returned→AT
open Go.Act renaming eval→No,put→Oq
open Bool renaming true_and→QW,and_eq_true→IF
open Go.Lib renaming itoa→Qt,strCells→Ol,strCells_length→QV
open Go.RowKit.Below renaming refl→Ib
namespace Go.Proofs.YtfidhgjmifendaaGreatDoor
open Go.RowKit
structure Mem where
 name:ByteArray
 state:Int
 aJ:Int
 addr:Int
 server:Bool
def dm:Mem:=⟨ByteArray.empty,0,0,0,false⟩
abbrev As(w:World)(b o:Nat)(m:Mem):Prop:=w.cell? ⟨b,o,be⟩=AI (Y m.name)/\w.cell? ⟨b,o+1,be⟩=AI (U O m.state)/\w.cell? ⟨b,o+2,be⟩=AI (U O m.aJ)/\w.cell? ⟨b,o+3,be⟩=AI (U O m.addr)/\w.cell? ⟨b,o+4,be⟩=AI (Ia m.server)
theorem As.re{w:World}{b o:Nat}{m:Mem}(h:As w b o m):∀d os,As (Go.Sort.grow (redrawn w d) os) b o m:=λd os=>by
 obtain⟨c0,c1,c2,c3,c4⟩:=h;exact⟨Iq c0 d os,Iq c1 d os,Iq c2 d os,Iq c3 d os,Iq c4 d os⟩
theorem As.eq{w w':World}{b o:Nat}{m:Mem}(h:As w b o m)(e:∀o,w'.cell? ⟨b,o,be⟩=w.cell? ⟨b,o,be⟩):As w' b o m:=by
 obtain⟨c0,c1,c2,c3,c4⟩:=h;exact⟨(e _).trans c0,(e _).trans c1,(e _).trans c2,(e _).trans c3,(e _).trans c4⟩
def Row(w:World)(b off:Nat)(ms:List Mem):Prop:=∀j,j<ms.length->As w b (off+j*5) (ms.getD j dm)
def Sl(w:World)(v:Value)(ms:List Mem):Prop:=
 ∃(a:Option Addr) (cap:Nat),v=J a ms.length cap/\(∀j,(ms.getD j dm).name.size<=Il) /\
  (ms=[]\/∃b off,a=AI ⟨b,off,be⟩/\b<w.heap.size/\Row w b off ms)
def Mem.cs(m:Mem):List Value:=[Y m.name,U O m.state,U O m.aJ,U O m.addr,Ia m.server]
def fl(ms:List Mem):List Value:=ms.flatMap Mem.cs
theorem bD(m:Mem):m.cs.length=5:=rfl
theorem bb(m:Mem)(r:List Mem):fl (m::r)=m.cs++fl r:=by simp[fl]
theorem cK(a b:List Mem):fl (a++b)=fl a++fl b:=by simp[fl]
theorem cQ:∀ms:List Mem,(fl ms).length=ms.length*5
 |[]=>rfl
 |m::r=>by rw[bb,Ig,cQ r,bD,Iw];omega
theorem fk:∀(ms:List Mem) (i:Nat),(fl ms).take (i*5)=fl (ms.take i)
 |[],i=>by simp[fl]
 |m::r,0=>by simp[fl]
 |m::r,i+1=>by
  rw[bb,List.take_succ_cons,bb,show(i+1)*5=m.cs.length+i*5 by rw[bD];omega,List.take_length_add_append,fk r i]
theorem fm:∀(ms:List Mem) (i:Nat),(fl ms).drop (i*5)=fl (ms.drop i)
 |[],i=>by simp[fl]
 |m::r,0=>by simp
 |m::r,i+1=>by
  rw[bb,List.drop_succ_cons,show(i+1)*5=m.cs.length+i*5 by rw[bD];omega,List.drop_length_add_append,fm r i]
theorem dh(m:Mem):∀v∈m.cs,v.oneCell'=true:=by
 intro v hv;simp[Mem.cs] at hv;rcases hv with rfl|rfl|rfl|rfl|rfl<;>rfl
theorem gV(ms:List Mem):∀v∈fl ms,v.oneCell'=true:=by
 intro v hv;obtain⟨m,_,h⟩:=List.mem_flatMap.1 hv;exact dh m v h
theorem ei(ms:List Mem)(j:Nat)(hj:j<ms.length)(t:Nat)(ht:t<5):(fl ms)[j*5+t]?=(ms.getD j dm).cs[t]?:=by
 induction ms generalizing j with
 |nil=>simp at hj
 |cons m r ih=>
  rw[bb];cases j with
  |zero=>rw[List.getElem?_append_left (by rw[bD];omega)];simp
  |succ j=>
   rw[List.getElem?_append_right (by rw[bD];omega),bD,show(j+1)*5+t-5=j*5+t by omega,ih j (by simpa using hj)];simp
theorem oA(ms:List Mem)(p:Nat)(hp:p<ms.length)(m:Mem):((((((fl ms).set (p*5) (Y m.name)).set (p*5+1) (U O m.state)).set (p*5+2) (U O m.aJ)).set (p*5+3) (U O m.addr)).set (p*5+4) (Ia m.server))=fl (ms.set p m):=by
 induction ms generalizing p with
 |nil=>simp at hp
 |cons x r ih=>
  cases p with
  |zero=>simp[fl,Mem.cs]
  |succ p=>
   have MD:=ih p (by simpa using hp);rw[Ou,bb,bb,<- MD];simp only[Nat.add_mul,Nat.one_mul];have e:∀(l:List Value) (k:Nat) (v:Value),(x.cs++l).set (k+5) v=x.cs++l.set k v:=λl k v=>by
    rw[List.set_append,if_neg (by rw[bD];omega),bD,Nat.add_sub_cancel]
   have c:∀i:Nat,p*5+5+i=(p*5+i)+5:=λi=>by omega
   simp only[c];rw[e,e,e,e,e]
abbrev Own(base:Nat)(w:World)(v:Value)(ms:List Mem):Prop:=w.ownsRow base 50 5 v ms.length (fl ms)
theorem iC{base g G:Nat}{w:World}{cur:Array Value}{ms:List Mem}(hb:base<=g)(hg:w.heap[g]?=AI (By cur 50 (0,0)))(hs:cur.size=G*5)(hn:ms.length<=G)(hG:G<=Il)(ht:cur.toList.take (ms.length*5)=fl ms) :
 Own base w (J (AI ⟨g,0,be⟩) ms.length G) ms:=⟨cQ ms,.inr ⟨g,G,cur,rfl,hb,hg,hn,hG,hs,ht⟩⟩
theorem Own.sl{base:Nat}{w:World}{v:Value}{ms:List Mem}(h:Own base w v ms)(hs:∀j,(ms.getD j dm).name.size<=Il):Sl w v ms:=by
 rcases h.2 with⟨rfl,h0⟩|⟨g,c,cur,rfl,eD,hg,fP,dR,cf,bj⟩
 .exact⟨be,0,by rw[h0],hs,.inl (List.eq_nil_of_length_eq_zero h0)⟩
 .refine⟨_,c,rfl,hs,.inr ⟨g,0,rfl,(BY.1 hg).1,λj hj=>?_⟩⟩
  have hc:∀t,t<5->w.cell? ⟨g,0+j*5+t,be⟩=(ms.getD j dm).cs[t]?:=λt ht=>by
   rw[ae hg,<- ei ms j hj t ht,<- bj,IN (by omega)];simp
  exact⟨hc 0 (by omega),hc 1 (by omega),hc 2 (by omega),hc 3 (by omega),hc 4 (by omega)⟩
theorem Own.below{base:Nat}{w w':World}{v:Value}{ms:List Mem}(h:Own base w v ms)(hb:Below w.heap.size w w'):Own base w' v ms:=by
 rcases h.2 with⟨rfl,h0⟩|⟨g,c,cur,rfl,eD,hg,fP,dR,cf,bj⟩
 .exact⟨h.1,.inl ⟨rfl,h0⟩⟩
 .have aX:=(BY.1 hg).1
  exact⟨h.1,.inr ⟨g,c,cur,rfl,eD,(hb.block g aX).trans hg,fP,dR,cf,bj⟩⟩
theorem Own.lt{base:Nat}{w:World}{v:Value}{ms:List Mem}(h:Own base w v ms)(k:Nat)(hk:v.ownBlock=AI k):base<=k/\k<w.heap.size:=OK h k hk
theorem fq{base:Nat}{w w1 w2:World}{v:Value}{ms:List Mem}(hb:Below base w w1)(h:Own base w1 v ms)(hg:w1.grownBy w2 v.ownBlock)(hbase:base<=w1.heap.size):Below base w w2:=
 hb.grown hg hbase (λk hk=>(h.lt k hk).1)
theorem eE{base g c:Nat}{w:World}{ms:List Mem}(h:Own base w (J (AI ⟨g,0,be⟩) ms.length c) ms)(j:Nat)(hj:j<ms.length) :
 As w g (j*5) (ms.getD j dm):=by
 rcases h.2 with⟨h1,_⟩|⟨g',c',cur,h1,eD,hg,fP,dR,cf,bj⟩
 .cases h1
 .simp only[Value.slice.injEq,Option.some.injEq,Addr.mk.injEq] at h1
  obtain⟨⟨rfl,_,_⟩,_,_⟩:=h1;have hc:∀t,t<5->w.cell? ⟨g,j*5+t,be⟩=(ms.getD j dm).cs[t]?:=λt ht=>by
   rw[ae hg,<- ei ms j hj t ht,<- bj,IN (by omega)];simp
  exact⟨hc 0 (by omega),hc 1 (by omega),hc 2 (by omega),hc 3 (by omega),hc 4 (by omega)⟩
theorem jT{base:Nat}{w:World}{v:Value}{ms:List Mem}(h:Own base w v ms)(p:Nat)(hp:p<ms.length):∃g c,v=J (AI ⟨g,0,be⟩) ms.length c:=by
 rcases h.2 with⟨_,h0⟩|⟨g,c,cur,h1,_⟩
 .omega
 .exact⟨g,c,h1⟩
theorem lK{base g c p:Nat}{W:World}{ms:List Mem}(h:Own base W (J (AI ⟨g,0,be⟩) ms.length c) ms)(hp:p<ms.length)(m:Mem) :
 Own base (((((W.setCell ⟨g,p*5,be⟩ (Y m.name)).setCell ⟨g,p*5+1,be⟩ (U O m.state)).setCell ⟨g,p*5+2,be⟩ (U O m.aJ)).setCell ⟨g,p*5+3,be⟩ (U O m.addr)).setCell ⟨g,p*5+4,be⟩ (Ia m.server)) (J (AI ⟨g,0,be⟩) ms.length c) (ms.set p m):=by
 have h1:=II h (p*5) (Y m.name);have h2:=II h1.1 (p*5+1) (U O m.state);have h3:=II h2.1 (p*5+2) (U O m.aJ);have h4:=II h3.1 (p*5+3) (U O m.addr);have h5:=II h4.1 (p*5+4) (Ia m.server);have e:=h5.1;rw[oA ms p hp m] at e;show World.ownsRow _ _ _ _ _ (ms.set p m).length _;rw[List.length_set];exact e
theorem Sl.below{w w':World}{v:Value}{ms:List Mem}(h:Sl w v ms)(hb:Below w.heap.size w w'):Sl w' v ms:=by
 obtain⟨a,cap,rfl,hs,h⟩:=h;refine⟨a,cap,rfl,hs,?_⟩;rcases h with h|⟨b,off,rfl,aX,hr⟩
 .exact .inl h
 .refine .inr ⟨b,off,rfl,Nat.lt_of_lt_of_le aX hb.size,λj hj=>?_⟩
  exact(hr j hj).eq (λo=>(cC hb).1 b o aX)
theorem Row.later{w w':World}{b off:Nat}{ms:List Mem}(hr:Row w b off ms)(hb:Below w.heap.size w w')(aX:b<w.heap.size):Row w' b off ms:=λj hj=>(hr j hj).eq (λo=>(cC hb).1 b o aX)
theorem Own.mono{base iX:Nat}{w:World}{v:Value}{ms:List Mem}(h:Own base w v ms)(hb:iX<=base):Own iX w v ms:=by
 rcases h.2 with⟨rfl,h0⟩|⟨g,c,cur,rfl,eD,hg,fP,dR,cf,bj⟩
 .exact⟨h.1,.inl ⟨rfl,h0⟩⟩
 .exact⟨h.1,.inr ⟨g,c,cur,rfl,Ir hb eD,hg,fP,dR,cf,bj⟩⟩
theorem b9(base:Nat)(w:World):Own base w (J be 0 0) []:=World.ownsRow_nil w base 50 5
theorem dy{ms:List Mem}(h:∀j,(ms.getD j dm).name.size<=Il):∀m∈ms,(m).name.size<=Il:=by
 intro m hm;obtain⟨j,hj,rfl⟩:=IX hm;have:=h j;simpa[Ip,If hj] using this
theorem cy{ms:List Mem}(h:∀m∈ms,(m).name.size<=Il):∀j,(ms.getD j dm).name.size<=Il:=by
 intro j;by_cases hj:j<ms.length
 .have:=h ms[j] (IJ hj)
  simpa[Ip,If hj] using this
 .simp[Ip,List.getElem?_eq_none (Nat.le_of_not_lt hj),dm]
theorem bF{base:Nat}{w:World}{v:Value}{ms:List Mem}(h:Own base w v ms)(hs:∀m∈ms,(m).name.size<=Il):Sl w v ms:=h.sl (cy hs)
theorem oJ(w:World)(b cap:Nat)(m:Mem)(hm:(m).name.size<=Il)(hg:w.heap[b]?=AI (By #[Y m.name,U O m.state,U O m.aJ,U O m.addr,Ia m.server] 50 (0,0))):Sl w (J (AI ⟨b,0,be⟩) 1 cap) [m]:=by
 refine⟨_,cap,rfl,cy (λx hx=>by simp at hx;subst hx;exact hm),.inr ⟨b,0,rfl,(BY.1 hg).1,λj hj=>?_⟩⟩
 have:j=0:=by simpa using hj
 subst this;exact⟨ae hg (0+0*5),ae hg (0+0*5+1),ae hg (0+0*5+2),ae hg (0+0*5+3),ae hg (0+0*5+4)⟩
theorem jU{base:Nat}{w:World}{v:Value}{L:List Mem}{m:Mem}(h:w.ownsRow base 50 5 v (L.length+1) (fl L++m.cs)):Own base w v (L++[m]):=by
 have e:fl (L++[m])=fl L++m.cs:=by rw[cK,bb];simp[fl]
 show w.ownsRow base 50 5 v (L++[m]).length (fl (L++[m]));rw[e,Ig];exact h
theorem Tryz.oU:(Tryz.prog.info? 50).map (λi=>(i.zero,i.size,i.bytes))=AI (AI (Ij #[Y ⟨#[]⟩,U O 0,U O 0,U O 0,Ia false]),5,48):=by kernel_rfl
theorem KW:(Tryz.prog.info? 50).map (·.size)=AI 5:=by
 obtain⟨i,hi,h1,h2,h3⟩:=I6 Tryz.oU;rw[hi];simp[h2]
theorem sizeOf50(w:World):(Go.sizeOf 50).run AS w=.ok 5 w:=by
 obtain⟨i,hi,h1,h2,h3⟩:=I6 Tryz.oU;simp[Go.sizeOf,typeInfo,hi,h2]
theorem eP(w:World)(g vb o lb cb:Nat)(cur vs:Array Value)(hg:w.heap[g]?=AI (By cur 50 (0,0)))(hv:w.heap[vb]?=AI (By vs 50 (0,0)))(aQ:vb≠g)(hk:cur.size≠0) : (callFunc 272 #[J (AI ⟨vb,0,be⟩) 1 1,J (AI ⟨g,o,be⟩) lb cb]).run AS w=.ok (.value (Ia false)) w:=by
 rw[run_callFunc_extern Tryz.func272 (by kernel_rfl) (by kernel_rfl) (by kernel_rfl) (e:=Extern.SlicesOverlaps.overlaps #[34,34] #[4]) (by kernel_rfl),
  Lib.run_overlaps_apart w 34 4 50 JP 5 sizeOf50 ⟨vb,0,be⟩ ⟨g,o,be⟩ 1 1 lb cb aQ 50 50 vs.size cur.size (by simp[World.shape?,hv]) (by simp[World.shape?,hg]) hk (by simp[World.frozen?,hv]) (by simp[World.frozen?,hv])]
 rfl
theorem fA(g n c i vb:Nat)(cur:Array Value)(vs:List Value)(w:World)(hg:w.heap[g]?=AI (By cur 50 (0,0)))(cf:cur.size=c*5)(hi:i<n)(dz:n+1<=c)(BG:c<=9223372036854775807)(qf:vb≠g)(hv:w.heap[vb]?=AI (By vs.toArray 50 (0,0)))(kB:vs.length=5)(l9:∀v∈cur.toList.take (n*5),v.oneCell'=true)(mW:∀v∈vs,v.oneCell'=true) :
 aI 242 #[J (AI ⟨g,0,be⟩) n c,U O i,J (AI ⟨vb,0,be⟩) 1 1] w λe w'=>e=AT (J (AI ⟨g,0,be⟩) (n+1) c) /\
  ∃dV:Array Value,w'.heap[g]?=AI (By dV 50 (0,0))/\dV.size=c*5/\dV.toList.take ((n+1)*5)=cur.toList.take (i*5)++vs++(cur.toList.take (n*5)).drop (i*5)/\w.grownBy w' (AI g):=by
 have Sk:=λo lb cb=>eP w g vb o lb cb cur vs.toArray hg hv qf (by omega);have nW:¬ ((i:Int)=(n:Int)):=by omega
 have aK:¬ (c=i+1):=by omega
 have eU:¬ (c=i):=by omega
 have bX:(i:Int)<=(n:Int)+1:=by omega
 obtain⟨W1,W2,oS,tH,HF⟩:=qe JP KW hg cf hi dz qf hv kB l9 mW;have HF:Hid _:=HF;clear l9 mW hg hv;have MY:IntKind.i64.wrap ((i:Int)+1)=(i:Int)+1:=by rw[IW];omega
 have aB:(0:Int)<=(i:Int)+1:=by omega
 have mI:i<=n:=by omega
 have Et:((i:Int)+1).toNat=i+1:=by omega
 go_enter Tryz.func242,Tryz.ntmps242;go_wp2_with (simp only[Sk]);go_region_law (refine dw rfl _ _ 34 34 rfl _ _ (by simp[No,Oq]) (by simp[No,Oq]) (oS _ _ _) ?_)
 go_wp2_with fail;go_ret;exact⟨rfl,HF.out⟩
theorem fB(g n c i vb:Nat)(cur:Array Value)(vs:List Value)(w:World)(hg:w.heap[g]?=AI (By cur 50 (0,0)))(cf:cur.size=c*5)(hi:i<n)(fP:n<=c)(dz:c<n+1)(BG:n<=1000)(hv:w.heap[vb]?=AI (By vs.toArray 50 (0,0)))(kB:vs.length=5)(l9:∀v∈cur.toList.take (n*5),v.oneCell'=true)(mW:∀v∈vs,v.oneCell'=true) :
 aI 242 #[J (AI ⟨g,0,be⟩) n c,U O i,J (AI ⟨vb,0,be⟩) 1 1] w λe w'=>∃G,e=AT (J (AI ⟨w.heap.size,0,be⟩) (n+1) G)/\n+1<=G/\G<=Il /\
  ∃dV:Array Value,w'.heap[w.heap.size]?=AI (By dV 50 (0,0))/\dV.size=G*5/\dV.toList.take ((n+1)*5)=cur.toList.take (i*5)++vs++(cur.toList.take (n*5)).drop (i*5)/\w.grownBy w' be:=by
 obtain⟨i0,fV,di,il,gT⟩:=I6 Tryz.oU;have BH:c=n:=by omega
 subst BH;have nW:¬ ((i:Int)=(c:Int)):=by omega
 have qL:(c:Int)<(c:Int)+1:=by omega
 have rj:(c:Int)+1-(i:Int)=((c+1-i:Nat):Int):=by omega
 have BI:i+(c+1-i)=c+1:=by omega
 have hold:(Builtin.firstCells i0.size i (J (AI ⟨g,0,be⟩) i c)).run AS w.drew=.ok (cur.toList.take (i*5)).toArray w.drew:=by
  rw[il];exact run_firstCells_some w.drew 5 i ⟨g,0,be⟩ i c (cur.toList.take (i*5)) (by rw[IA,IU];omega) (λj v hj=>by
   have e:w.drew.cell? ((⟨g,0,be⟩:Addr).add j)=cur[j]?:=by rw[Addr.add_lit,Nat.zero_add];exact ae hg _
   rw[e];rw[List.getElem?_take] at hj;split at hj
   .simpa using hj
   .cases hj)
 have xF:∀ty,∃G mG,c+1<=G/\G<=Il/\mG.size=G*5/\mG.toList.take (i*5)=cur.toList.take (i*5)/\(Builtin.append_ #[34,3] ty #[J (AI ⟨g,0,be⟩) i c,U O ((c:Int)+1-(i:Int))]).run AS w =
  .ok (J (AI ⟨w.heap.size,0,be⟩) (c+1) G) (w.drew.alloc (By mG 50)):=λty=>by
  have h:=Lib.run_append_grow_zeros w 34 3 ty 50 i0 _ O O JP ID fV di (AI ⟨g,0,be⟩) i c (cur.toList.take (i*5)) hold (c+1-i) (by omega) (by omega) (by omega) (by omega) (by rw[gT];omega) (by rw[gT,BI];exact growslice_fits dz (by omega));rw[BI] at h;rw[rj];have h1:=grownCap_ge w (c+1) c 50;refine⟨_,_,h1,grownCap_le_maxLen w (c+1) c 50 (by unfold Il;omega),?_,?_,h⟩
  .simp only[Array.size_append,JX,size_zeroCells,IA,IU,cf,Value.cells]
   simp;omega
  .simp only[Array.toList_append,Io]
   exact List.take_left' (by simp only[IA,IU,cf];omega)
 obtain⟨G,mG,zG,xG,AV,Eu,xF⟩:=xF 34;have Sm:G<=9223372036854775807:=by unfold Il at xG;omega
 obtain⟨W2,W3,oS,tH,HF⟩:=qg JP KW hg cf hi hv kB l9 mW zG AV Eu;obtain⟨W1,cT⟩:∃W1,W1=(w.alloc (By mG 50)).drew:=⟨_,rfl⟩;have Kh:w.drew.alloc (By mG 50)=W1:=by rw[cT];rfl
 rw[Kh] at xF;rw[<- cT] at oS;have HF:Hid _:=HF;have MY:IntKind.i64.wrap ((i:Int)+1)=(i:Int)+1:=by rw[IW];omega
 have aB:(0:Int)<=(i:Int)+1:=by omega
 have mI:i<=c:=by omega
 have Et:((i:Int)+1).toNat=i+1:=by omega
 have hGi:¬ (G=i):=by omega
 have Sn:¬ (G=i+1):=by omega
 have hci:¬ (c=i):=by omega
 clear cT l9 mW Kh AV Eu rj BI hold hg hv fV di il gT;go_enter Tryz.func242,Tryz.ntmps242;go_wp2_with (at_builtin;refine Lib.wpList_append_run _ rfl _ _ _ _ rfl _ _ rfl rfl _ _ xF ?_);go_region_law (refine dw rfl _ _ 34 34 rfl _ _ (by simp[No,Oq]) (by simp[No,Oq]) (tH _ _ _) ?_)
 go_wp2_with fail;go_ret;exact⟨G,rfl,zG,xG,HF.out⟩
theorem gk(base n vb:Nat)(v:Value)(xs vs:List Value)(w:World)(hown:w.ownsRow base 50 5 v n xs)(hn:n<=1000)(hbase:base<=w.heap.size)(hv:w.heap[vb]?=AI (By vs.toArray 50 (0,0)))(kB:vs.length=5)(mW:∀v∈vs,v.oneCell'=true) :
 aI 242 #[v,U O n,J (AI ⟨vb,0,be⟩) 1 1] w λe w'=>∃v',e=AT v'/\w'.ownsRow base 50 5 v' (n+1) (xs++vs)/\w.grownBy w' v.ownBlock:=by
 obtain⟨i0,fV,di,il,gT⟩:=I6 Tryz.oU;have hnews:∀j u,vs[j]?=AI u->w.cell? ((⟨vb,0,be⟩:Addr).add j)=AI u:=λj v hj=>by rw[Addr.add_lit,ae hv];simpa using hj
 have HO:Hid (w.ownsRow base 50 5 v n xs):=hown;rcases hown.2 with⟨rfl,rfl⟩|⟨g,c,cur,rfl,_,_,fP,dR,_,_⟩;rotate_left;unfold Il at dR;by_cases BH:c=n;subst BH;all_goals
  clear hown hv;go_enter Tryz.func242,Tryz.ntmps242;go_wp2_with (at_builtin;refine wpList_append_own _ rfl _ _ 34 rfl base 50 i0 _ 5 48 JP fV di il gT rfl (by omega) _ _ xs rfl HO.out ⟨vb,0,be⟩ 1 1 vs rfl (by omega) hnews mW (by unfold Il;omega) (by omega) hbase ?_);intro v' w' r1 r2 r3;go_wp2_with fail;go_ret;exact⟨v',rfl,r1,r2⟩
theorem fC(base i vb:Nat)(v:Value)(ms:List Mem)(m:Mem)(w:World)(hown:Own base w v ms)(hi:i<=ms.length)(hn:ms.length<=1000)(hbase:base<=w.heap.size)(hv:w.heap[vb]?=AI (By m.cs.toArray 50 (0,0)))(aQ:v.ownBlock≠AI vb) :
 aI 242 #[v,U O i,J (AI ⟨vb,0,be⟩) 1 1] w λe w'=>∃v',e=AT v'/\Own base w' v' (ms.take i++m::ms.drop i)/\w.grownBy w' v.ownBlock:=by
 have hlen:(ms.take i++m::ms.drop i).length=ms.length+1:=by simp;omega
 have Hq:fl (ms.take i++m::ms.drop i)=(fl ms).take (i*5)++m.cs++(fl ms).drop (i*5):=by rw[cK,bb,fk,fm,Io]
 by_cases mI:i=ms.length
 .subst mI
  refine(gk base ms.length vb v (fl ms) m.cs w hown hn hbase hv rfl (dh m)).mono ?_;rintro e w' ⟨v',rfl,h1,h2⟩;refine⟨v',rfl,?_,h2⟩;have e1:ms.take ms.length++m::ms.drop ms.length=ms++[m]:=by simp
  have e2:fl (ms++[m])=fl ms++m.cs:=by rw[cK,bb];simp[fl]
  rw[e1];show w'.ownsRow base 50 5 v' (ms++[m]).length (fl (ms++[m]));rw[e2,show(ms++[m]).length=ms.length+1 by simp];exact h1
 .rcases hown.2 with⟨_,h0⟩|⟨g,c,cur,rfl,eD,hg,fP,dR,cf,bj⟩
  .omega
  .have qf:vb≠g:=λe=>aQ (by simp[Value.ownBlock,e])
   have l9:∀v∈cur.toList.take (ms.length*5),v.oneCell'=true:=by rw[bj];exact gV ms
   have MZ:cur.toList.take (i*5)=(fl ms).take (i*5):=by rw[<- bj,List.take_take];congr 1;omega
   have key:∀l:List Value,l=cur.toList.take (i*5)++m.cs++(cur.toList.take (ms.length*5)).drop (i*5)->l=fl (ms.take i++m::ms.drop i):=λl hl=>by rw[hl,Hq,bj,MZ]
   by_cases dz:ms.length+1<=c
   .refine(fA g ms.length c i vb cur m.cs w hg cf (by omega) dz (by unfold Il at dR;omega) qf hv rfl l9 (dh m)).mono ?_
    rintro e w' ⟨rfl,dV,h1,h2,h3,h4⟩;refine⟨_,rfl,?_,h4⟩;rw[<- hlen];exact iC eD h1 h2 (by omega) dR (key _ (by rw[hlen];exact h3))
   .refine(fB g ms.length c i vb cur m.cs w hg cf (by omega) fP (by omega) hn hv rfl l9 (dh m)).mono ?_
    rintro e w' ⟨G,rfl,zG,xG,dV,h1,h2,h3,h4⟩;refine⟨_,rfl,?_,nE h4 _⟩;rw[<- hlen];exact iC hbase h1 h2 (by omega) xG (key _ (by rw[hlen];exact h3))
def vo(nm:ByteArray)(st lf ad:Int):Int:=
 if bc nm=true then(if within st 1 4=true then(if within lf 1 1000000=true then(if within ad 0 4294967295=true then 0 else 3) else 3) else 7) else 1
def oK(sa la aa:Int)(va:Bool)(sb lb ab:Int)(vb:Bool):Bool:=
 if la=lb then(if sa=sb then(if aa=ab then(va&&!vb) else decide (ab<aa)) else decide (sb<sa)) else decide (lb<la)
theorem yd(nm:ByteArray)(st lf ad:Int)(sv:Bool)(w:World)(hs:nm.size<=Il) :
 aI 120 #[Ij #[Y nm,U O st,U O lf,U O ad,Ia sv]] w λe w'=>e=AT (U O (vo nm st lf ad))/\w'=w.alloc (By #[Y nm,U O st,U O lf,U O ad,Ia sv] 50):=by
 rcases h1:bc nm with _|_
 .go_enter Tryz.func120,Tryz.ntmps120
  go_wp2_with (go_at_call 53;refine(bV _ _ hs).mono ?_;rintro e w' ⟨rfl,rfl⟩;rw[h1]);go_ret;exact⟨ai (by simp[vo,h1]),rfl⟩
 .rcases h2:within st 1 4 with _|_
  .go_enter Tryz.func120,Tryz.ntmps120
   go_wp2_with (first|(go_at_call 53;refine(bV _ _ hs).mono ?_;rintro e w' ⟨rfl,rfl⟩;rw[h1])|(go_at_call 54;refine(cB _ _ _ _).mono ?_;rintro e w' ⟨rfl,rfl⟩;rw[h2]));go_ret;exact⟨ai (by simp[vo,h1,h2]),rfl⟩
  .rcases h3:within lf 1 1000000 with _|_
   .go_enter Tryz.func120,Tryz.ntmps120
    go_wp2_with (first|(go_at_call 53;refine(bV _ _ hs).mono ?_;rintro e w' ⟨rfl,rfl⟩;rw[h1])|(go_at_call 54;refine(cB _ _ _ _).mono ?_;rintro e w' ⟨rfl,rfl⟩;first|rw[h2]|rw[h3]));go_ret;exact⟨ai (by simp[vo,h1,h2,h3]),rfl⟩
   .rcases h4:within ad 0 4294967295 with _|_
    all_goals
     go_enter Tryz.func120,Tryz.ntmps120;go_wp2_with (first|(go_at_call 53;refine(bV _ _ hs).mono ?_;rintro e w' ⟨rfl,rfl⟩;rw[h1])|(go_at_call 54;refine(cB _ _ _ _).mono ?_;rintro e w' ⟨rfl,rfl⟩;first|rw[h2]|rw[h3])|(go_at_call 35;refine(eL _ _).mono ?_;rintro e w' ⟨rfl,rfl⟩;rw[h4]));go_ret;exact⟨ai (by simp[vo,h1,h2,h3,h4]),rfl⟩
theorem vV(na nb:ByteArray)(sa la aa:Int)(va:Bool)(sb lb ab:Int)(vb:Bool)(w:World) :
 aI 208 #[Ij #[Y na,U O sa,U O la,U O aa,Ia va],Ij #[Y nb,U O sb,U O lb,U O ab,Ia vb]] w λe w'=>e=AT (Ia (oK sa la aa va sb lb ab vb))/\w'=(w.alloc (By #[Y na,U O sa,U O la,U O aa,Ia va] 50)).alloc (By #[Y nb,U O sb,U O lb,U O ab,Ia vb] 50):=by
 by_cases h1:la=lb
 .subst h1
  by_cases h2:sa=sb
  .subst h2
   by_cases h3:aa=ab
   .subst h3
    cases va
    all_goals
     go_enter Tryz.func208,Tryz.ntmps208;go_wp2;go_ret;exact⟨aW (by simp[oK]),rfl⟩
   .have h3':(aa !=ab)=true:=by simpa using h3
    go_enter Tryz.func208,Tryz.ntmps208;go_wp2;go_ret;exact⟨aW (by simp[oK,h3]),rfl⟩
  .have H6:(sa !=sb)=true:=by simpa using h2
   go_enter Tryz.func208,Tryz.ntmps208;go_wp2;go_ret;exact⟨aW (by simp[oK,h2]),rfl⟩
 .have Np:(la !=lb)=true:=by simpa using h1
  go_enter Tryz.func208,Tryz.ntmps208;go_wp2;go_ret;exact⟨aW (by simp[oK,h1]),rfl⟩
theorem sC(na nb:ByteArray)(sa la aa:Int)(va:Bool)(sb lb ab:Int)(vb:Bool)(w:World) :
 aI 20 #[Ij #[Y na,U O sa,U O la,U O aa,Ia va],Ij #[Y nb,U O sb,U O lb,U O ab,Ia vb]] w λe w'=>e=AT (Ia (oK sa la aa va sb lb ab vb))/\w'=(w.alloc (By #[Y na,U O sa,U O la,U O aa,Ia va] 50)).alloc (By #[Y nb,U O sb,U O lb,U O ab,Ia vb] 50):=by
 by_cases h1:la=lb
 .subst h1
  by_cases h2:sa=sb
  .subst h2
   by_cases h3:aa=ab
   .subst h3
    cases va
    all_goals
     go_enter Tryz.func20,Tryz.ntmps20;go_wp2;go_ret;exact⟨aW (by simp[oK]),rfl⟩
   .have h3':(aa !=ab)=true:=by simpa using h3
    go_enter Tryz.func20,Tryz.ntmps20;go_wp2;go_ret;exact⟨aW (by simp[oK,h3]),rfl⟩
  .have H6:(sa !=sb)=true:=by simpa using h2
   go_enter Tryz.func20,Tryz.ntmps20;go_wp2;go_ret;exact⟨aW (by simp[oK,h2]),rfl⟩
 .have Np:(la !=lb)=true:=by simpa using h1
  go_enter Tryz.func20,Tryz.ntmps20;go_wp2;go_ret;exact⟨aW (by simp[oK,h1]),rfl⟩
def Mem.e(m:Mem):Int:=vo m.name m.state m.aJ m.addr
def aU:List Mem->Int
 |[]=>0
 |m::r=>if m.e=0 then aU r else m.e
theorem cG:∀(ms:List Mem),(∀j,j<ms.length->(ms.getD j dm).e=0)->aU ms=0
 |[],_=>rfl
 |m::r,h=>by
  have h0:=h 0 (by simp);simp only[I4] at h0;rw[aU,if_pos h0];exact cG r λj hj=>by have:=h (j+1) (by simpa using hj);simpa using this
theorem dX:∀(ms:List Mem) (k:Nat),k<ms.length->(∀j,j<k->(ms.getD j dm).e=0)->(ms.getD k dm).e≠0->aU ms=(ms.getD k dm).e
 |[],k,h,_,_=>by simp at h
 |m::r,0,_,_,aQ=>by
  simp only[I4] at aQ ⊢;rw[aU,if_neg aQ]
 |m::r,k+1,h,hz,aQ=>by
  have h0:=hz 0 (by omega);simp only[I4] at h0;rw[aU,if_pos h0,JB];rw[JB] at aQ;exact dX r k (by simpa using h) (λj hj=>by have:=hz (j+1) (by omega);simpa using this) aQ
def aM:List Mem->Bool
 |a::b::r=>less a.name b.name&&aM (b::r)
 |_=>true
theorem gF:∀(ms:List Mem),(∀j,j+1<ms.length->less (ms.getD j dm).name (ms.getD (j+1) dm).name=true)->aM ms=true
 |[],_=>rfl
 |[_],_=>rfl
 |a::b::r,h=>by
  have h0:=h 0 (by simp);simp only[I4,JB] at h0;rw[aM,h0,QW];exact gF (b::r) λj hj=>by have:=h (j+1) (by simpa using hj);simpa using this
theorem iB:∀(ms:List Mem),aM ms=true->∀j,j+1<ms.length->less (ms.getD j dm).name (ms.getD (j+1) dm).name=true
 |[],_,j,h=>by simp at h
 |[_],_,j,h=>by simp at h
 |a::b::r,hr,0,_=>by
  rw[aM,IF] at hr;simpa using hr.1
 |a::b::r,hr,j+1,h=>by
  rw[aM,IF] at hr;have:=iB (b::r) hr.2 j (by simpa using h);simpa using this
def bl(ms:List Mem):Int:=if 20<ms.length then 2 else if aU ms=0 then(if aM ms=true then 0 else 4) else aU ms
theorem tI(ms:List Mem)(k:Nat)(hn:ms.length<=20)(hk:k<ms.length)(hz:∀j,j<k->(ms.getD j dm).e=0)(aQ:(ms.getD k dm).e≠0):bl ms=(ms.getD k dm).e:=by
 have h:=dX ms k hk hz aQ;rw[bl,if_neg (by omega),h,if_neg aQ]
theorem ahW(ms:List Mem)(hn:ms.length<=20)(hz:∀j,j<ms.length->(ms.getD j dm).e=0)(hl:∀j,j+1<ms.length->less (ms.getD j dm).name (ms.getD (j+1) dm).name=true):bl ms=0:=by
 rw[bl,if_neg (by omega),cG ms hz,if_pos rfl,if_pos (gF ms hl)]
structure At(ms:List Mem)(t:ByteArray)(p:Nat)(f:Bool):Prop where
 le:p<=ms.length
 lo:∀j,j<p->bR (ms.getD j dm).name t<0
 hi:∀j,p<=j->j<ms.length->0<=bR (ms.getD j dm).name t
 is:f=true↔p<ms.length/\bR (ms.getD p dm).name t=0
def eb(a b:Mem):Bool:=oK a.state a.aJ a.addr a.server b.state b.aJ b.addr b.server
def aO:List Mem->Mem->List Mem
 |[],m=>[m]
 |x::r,m=>if bR x.name m.name<0 then x::aO r m else if bR x.name m.name=0 then(if eb m x=true then m::r else x::r) else m::x::r
abbrev bp(ms:List Mem):Prop:=ms.Pairwise λa b=>less a.name b.name=true
theorem lI:∀ms:List Mem,aM ms=true->bp ms
 |[],_=>.nil
 |[x],_=>by simp[bp]
 |a::b::r,h=>by
  rw[aM,IF] at h;have ih:=lI (b::r) h.2;refine JE.2 ⟨λc hc=>?_,ih⟩;rcases IQ.1 hc with rfl|hc
  .exact h.1
  .exact gd h.1 (JG ih hc)
theorem jR:∀ms:List Mem,bp ms->aM ms=true
 |[],_=>rfl
 |[x],_=>rfl
 |a::b::r,h=>by
  rw[aM,JG h (by simp),QW];exact jR (b::r) (List.Pairwise.of_cons h)
theorem dU{ms:List Mem}(h:bp ms)(t:ByteArray):∀i j,i<=j->j<ms.length->bR (ms.getD j dm).name t<0->bR (ms.getD i dm).name t<0:=by
 intro i j iS hj aX;rcases Nat.lt_or_eq_of_le iS with RH|rfl
 .have hp:=List.pairwise_iff_getElem.1 h i j (by omega) hj RH
  rw[fL] at aX ⊢;have e1:ms.getD i dm=ms[i]:=by simp[Ip,If (show i<ms.length by omega)]
  have e2:ms.getD j dm=ms[j]:=by simp[Ip,If hj]
  rw[e1];rw[e2] at aX;exact gd hp aX
 .exact aX
theorem df:∀(ms:List Mem) (m:Mem) (p:Nat) (f:Bool),At ms m.name p f ->
 aO ms m=if f=true then(if eb m (ms.getD p dm)=true then ms.set p m else ms) else ms.take p++m::ms.drop p
 |[],m,p,f,h=>by
  have hp:p=0:=by have:=h.le;simpa using this
  subst hp;have hf:f=false:=by
   cases f
   .rfl
   .have:=h.is.1 rfl;simp at this
  subst hf;simp[aO]
 |x::r,m,0,f,h=>by
  have h0:=h.hi 0 (Ic _) (by simp);simp only[I4] at h0;rw[aO,if_neg (by omega)];cases f
  .have aQ:¬ bR x.name m.name=0:=λe=>by have:=h.is.2 ⟨by simp,by simpa using e⟩;cases this
   rw[if_neg aQ];simp
  .have he:=(h.is.1 rfl).2
   simp only[I4] at he;rw[if_pos he];simp only[I4,List.set_cons_zero,if_pos]
 |x::r,m,p+1,f,h=>by
  have h0:=h.lo 0 (by omega);simp only[I4] at h0;have hr:At r m.name p f:=⟨by have:=h.le;simpa using this,λj hj=>by have:=h.lo (j+1) (by omega);simpa using this,
   λj hj hl=>by have:=h.hi (j+1) (by omega) (by simpa using hl);simpa using this,by have:=h.is;simpa using this⟩
  rw[aO,if_pos h0,df r m p f hr];cases f
  .simp
  .simp only[if_pos,JB,Ou]
   split<;>rfl
theorem dn:∀(ms:List Mem) (m x:Mem),x∈aO ms m->x=m\/x∈ms
 |[],m,x,h=>by simp[aO] at h;exact .inl h
 |y::r,m,x,h=>by
  rw[aO] at h;split at h
  .rcases IQ.1 h with rfl|h
   .exact .inr (by simp)
   .rcases dn r m x h with h|h
    .exact .inl h
    .exact .inr (by simp[h])
  .split at h
   .split at h
    .rcases IQ.1 h with h|h
     .exact .inl h
     .exact .inr (by simp[h])
    .exact .inr h
   .rcases IQ.1 h with h|h
    .exact .inl h
    .exact .inr h
theorem gq:∀(ms:List Mem) (m:Mem),bp ms->bp (aO ms m)
 |[],m,_=>by simp[aO]
 |x::r,m,h=>by
  have hx:=JE.1 h;rw[aO];split
  .rename_i aX
   refine JE.2 ⟨λy hy=>?_,gq r m hx.2⟩;rcases dn r m y hy with rfl|hy
   .exact(fL _ _).1 aX
   .exact hx.1 y hy
  .rename_i aX
   split
   .rename_i he
    have hn:=(bQ _ _).1 he;split
    .exact JE.2 ⟨λy hy=>by rw[<- hn];exact hx.1 y hy,hx.2⟩
    .exact h
   .rename_i he
    have hg:less m.name x.name=true:=(nD _ _).1 (by omega);refine JE.2 ⟨λy hy=>?_,h⟩;rcases IQ.1 hy with rfl|hy
    .exact hg
    .exact gd hg (hx.1 y hy)
theorem lu:∀(ms:List Mem) (m:Mem),ms.length<=(aO ms m).length/\(aO ms m).length<=ms.length+1
 |[],m=>by simp[aO]
 |x::r,m=>by
  have:=lu r m;rw[aO];split
  .simp;omega
  .split
   .split<;>simp
   .simp
def av(a b:List Mem):List Mem:=b.foldl aO a
theorem dF:∀(b a:List Mem),bp a->bp (av a b)
 |[],_,h=>h
 |m::r,a,h=>dF r (aO a m) (gq a m h)
theorem dj:∀(b a:List Mem),(av a b).length<=a.length+b.length
 |[],_=>by simp[av]
 |m::r,a=>by
  have h1:=dj r (aO a m);have h2:=lu a m;simp only[av,OB,Iw] at *;omega
theorem eN{ms:List Mem}{nm:ByteArray}{p q:Nat}{f e:Bool}(h:At ms nm p f)(k:At ms nm q e):p=q/\f=e:=by
 have G7:p=q:=by
  rcases Nat.lt_trichotomy p q with aX|rfl|aX
  .have h1:=k.lo p aX
   have h2:=h.hi p (Ic _) (by have:=k.le;omega);omega
  .rfl
  .have h1:=h.lo q aX
   have h2:=k.hi q (Ic _) (by have:=h.le;omega);omega
 subst G7;refine⟨rfl,?_⟩;rw[Bool.eq_iff_iff,h.is,k.is]
theorem qo{ms:List Mem}{m:Mem}(h:∀m∈ms,m.name.size<=Il)(hm:m.name.size<=Il):∀x∈aO ms m,x.name.size<=Il:=by
 intro x hx;rcases dn ms m x hx with rfl|hx
 .exact hm
 .exact h x hx
theorem iU:∀(b a:List Mem),(∀m∈a,m.name.size<=Il)->(∀m∈b,m.name.size<=Il)->∀x∈av a b,x.name.size<=Il
 |[],_,ha,_=>ha
 |m::r,a,ha,hb=>iU r (aO a m) (qo ha (hb m (by simp))) (λx hx=>hb x (by simp[hx]))
theorem gl(a b:List Mem)(j:Nat)(hj:j<b.length):av a (b.take (j+1))=aO (av a (b.take j)) (b.getD j dm):=by
 have e:b.getD j dm=b[j]:=by simp[Ip,If hj]
 rw[e,IH hj,av,List.foldl_append,av];rfl
theorem uk:∀(a:List Mem) (m:Mem),(∀x∈a,less x.name m.name=true)->aO a m=a++[m]
 |[],_,_=>rfl
 |x::r,m,h=>by
  rw[aO,if_pos ((fL _ _).2 (h x (by simp))),uk r m (λy hy=>h y (by simp[hy]))];rfl
theorem wK:∀(b a:List Mem),bp (a++b)->av a b=a++b
 |[],a,_=>by simp[av]
 |m::r,a,h=>by
  have h1:=uk a m λx hx=>(List.pairwise_append.1 h).2.2 x hx m (by simp);have h2:=wK r (a++[m]) (by simpa using h);simp only[av,OB,h1] at h2 ⊢;rw[h2];simp
theorem iJ(b:List Mem)(h:bp b):av [] b=b:=wK b [] h
theorem af{ms:List Mem}(h:bl ms=0):ms.length<=20/\bp ms/\aU ms=0:=by
 unfold bl at h;split at h
 .omega
 .split at h
  .rename_i h1 h2
   split at h
   .rename_i h3
    exact⟨by omega,lI ms h3,h2⟩
   .omega
  .rename_i h1 h2;exact absurd h h2
def aP(a b:List Mem):Int:=if bl a=0 then bl b else bl a
def dG(a b:List Mem)(k:Nat):List Mem:=if k=0 then[] else if k=1 then a else av a b
def aE(a b:List Mem):Int:=if aP a b=0 then(if 20<(av a b).length then 2 else 0) else aP a b
theorem fD(ms:List Mem)(h:∀j,j+1<ms.length->bR (ms.getD j dm).name (ms.getD (j+1) dm).name<0):aM ms=true:=gF ms λj hj=>(fL _ _).1 (h j hj)
theorem fE(ms:List Mem)(h:aM ms=true):∀j,j+1<ms.length->bR (ms.getD j dm).name (ms.getD (j+1) dm).name<0:=λj hj=>(fL _ _).2 (iB ms h j hj)
theorem rM(ms:List Mem)(hn:ms.length<=20)(hz:∀j,j<ms.length->(ms.getD j dm).e=0):bl ms=if aM ms=true then 0 else 4:=by
 rw[bl,if_neg (by omega),cG ms hz,if_pos rfl]
def cv(ms:List Mem)(t:ByteArray):Option Mem:=ms.find? λm=>decide (m.name=t)
def eF(ms:List Mem)(t:ByteArray):Mem:=(cv ms t).getD dm
theorem qW{ms:List Mem}{t:ByteArray}(h:∀j,j<ms.length->(ms.getD j dm).name≠t):cv ms t=be:=by
 unfold cv;rw[List.find?_eq_none];intro x hx;obtain⟨j,hj,rfl⟩:=IX hx;have:=h j hj;rw[show ms.getD j dm=ms[j] by simp[Ip,If hj]] at this;simpa using this
theorem nL{ms:List Mem}{t:ByteArray}{k:Nat}(hk:k<ms.length)(h1:∀j,j<k->(ms.getD j dm).name≠t)(h2:(ms.getD k dm).name=t):cv ms t=AI (ms.getD k dm):=by
 unfold cv;rw[show ms.getD k dm=ms[k] by simp[Ip,If hk]] at h2 ⊢;rw[List.find?_eq_some_iff_getElem];refine⟨by simpa using h2,k,hk,rfl,λj hj=>?_⟩;have:=h1 j hj;rw[show ms.getD j dm=ms[j]'(by omega) by simp[Ip,If (show j<ms.length by omega)]] at this;simpa using this
theorem j9{ms:List Mem}{t:ByteArray}{m:Mem}(h:cv ms t=AI m):m∈ms/\m.name=t:=by
 unfold cv at h;exact⟨List.mem_of_find?_eq_some h,by simpa using List.find?_some h⟩
end Go.Proofs.YtfidhgjmifendaaGreatDoor
namespace Go.Proofs
open Go.Shelf
def Tryz.ye:Go.Shelf.Ren:=⟨fun|171=>221|243=>255|246=>282|283=>296|284=>297|285=>298|286=>299|129=>124|317=>306|318=>307|319=>308|320=>309|337=>311|338=>312|n=>n,fun|3=>3|9=>9|2=>2|4=>4|171=>324|0=>0|53=>167|37=>266|5=>5|173=>326|212=>336|51=>165|20=>20|213=>337|46=>129|232=>340|233=>341|n=>n,fun|17=>3|18=>4|19=>5|n=>n⟩
theorem Tryz.KX:Go.Proofs.LaysM.n171 AS Tryz.ye:={
 mixed:=by kernel_rfl
 f129:=Tryz.func124.trans (congrArg AI (by kernel_rfl))
 f171:=Tryz.func221.trans (congrArg AI (by kernel_rfl))
 f243:=Tryz.func255.trans (congrArg AI (by kernel_rfl))
 f246:=Tryz.func282.trans (congrArg AI (by kernel_rfl))
 f283:=Tryz.func296.trans (congrArg AI (by kernel_rfl))
 f284:=Tryz.func297.trans (congrArg AI (by kernel_rfl))
 f285:=Tryz.func298.trans (congrArg AI (by kernel_rfl))
 f286:=Tryz.func299.trans (congrArg AI (by kernel_rfl))
 f317:=Tryz.func306.trans (congrArg AI (by kernel_rfl))
 f318:=Tryz.func307.trans (congrArg AI (by kernel_rfl))
 f319:=Tryz.func308.trans (congrArg AI (by kernel_rfl))
 f320:=Tryz.func309.trans (congrArg AI (by kernel_rfl))
 f337:=Tryz.func311.trans (congrArg AI (by kernel_rfl))
 f338:=Tryz.func312.trans (congrArg AI (by kernel_rfl))
 t0:=Tryz.underlying0
 a0:=Tryz.isAgg0
 z0:=Tryz.sizeOf0
 v0:=Tryz.zeroValue0
 t2:=Tryz.underlying2
 a2:=Tryz.isAgg2
 z2:=Tryz.sizeOf2
 v2:=Tryz.zeroValue2
 t3:=ID
 a3:=Tryz.isAgg3
 z3:=Tryz.sizeOf3
 v3:=Tryz.zeroValue3
 t4:=Tryz.underlying4
 a4:=Tryz.isAgg4
 z4:=Tryz.sizeOf4
 v4:=Tryz.zeroValue4
 t5:=Tryz.underlying5
 a5:=Tryz.isAgg5
 z5:=Tryz.sizeOf5
 v5:=Tryz.zeroValue5
 t9:=Tryz.underlying9
 a9:=Tryz.isAgg9
 z9:=Tryz.sizeOf9
 v9:=Tryz.zeroValue9
 t20:=Tryz.underlying20
 a20:=Tryz.isAgg20
 z20:=Tryz.sizeOf20
 v20:=Tryz.zeroValue20
 t37:=Tryz.underlying266
 a37:=Tryz.isAgg266
 z37:=Tryz.sizeOf266
 v37:=Tryz.zeroValue266
 t46:=Tryz.underlying129
 a46:=Tryz.isAgg129
 z46:=Tryz.sizeOf129
 v46:=Tryz.zeroValue129
 t51:=Tryz.underlying165
 a51:=Tryz.isAgg165
 z51:=Tryz.sizeOf165
 v51:=Tryz.zeroValue165
 t53:=Tryz.underlying167
 a53:=Tryz.isAgg167
 z53:=Tryz.sizeOf167
 v53:=Tryz.zeroValue167
 t171:=Tryz.underlying324
 a171:=Tryz.isAgg324
 z171:=Tryz.sizeOf324
 v171:=Tryz.zeroValue324
 t173:=Tryz.underlying326
 a173:=Tryz.isAgg326
 z173:=Tryz.sizeOf326
 v173:=Tryz.zeroValue326
 t212:=Tryz.underlying336
 a212:=Tryz.isAgg336
 z212:=Tryz.sizeOf336
 v212:=Tryz.zeroValue336
 t213:=Tryz.underlying337
 a213:=Tryz.isAgg337
 z213:=Tryz.sizeOf337
 t232:=Tryz.underlying340
 a232:=Tryz.isAgg340
 z232:=Tryz.sizeOf340
 v232:=Tryz.zeroValue340
 t233:=Tryz.underlying341
 a233:=Tryz.isAgg341
 z233:=Tryz.sizeOf341
 v233:=Tryz.zeroValue341
 g17:=by kernel_rfl
 g18:=by kernel_rfl
 g19:=by kernel_rfl
 i0:=by kernel_rfl
 i2:=by kernel_rfl
 i3:=by kernel_rfl
 i4:=by kernel_rfl
 i5:=by kernel_rfl
 i9:=by kernel_rfl
 i20:=by kernel_rfl
 i37:=by kernel_rfl
 i46:=by kernel_rfl
 i51:=by kernel_rfl
 i53:=by kernel_rfl
 i171:=by kernel_rfl
 i173:=by kernel_rfl
 i212:=by kernel_rfl
 i232:=by kernel_rfl
 i233:=by kernel_rfl
 m17:=by kernel_rfl
 m18:=by kernel_rfl
 m19:=by kernel_rfl }
open Go.RowKit Go.Sort Go.Lib in
theorem Tryz.strconv_Itoa(n : Int)(h0 : -9223372036854775808 <= n)(h1 : n <= 9223372036854775807)(w : World)(htab : Lib.TabIs AS w "internal/strconv.uint64pow10" .u64 Lib.pow10Tab) :
 Calls AS 221 #[U O n] w λe w'=>e=AT (Y ⟨(Qt n).toArray⟩)/\∃k os,w'=grow (w.drewN k) os:=Any.strconv_Itoa Tryz.KX n h0 h1 w htab
end Go.Proofs
namespace Go.Proofs.YtfidhgjmifendaaGreatDoor
open Go.RowKit
def mA(n:Int):ByteArray:=⟨(Qt n).toArray⟩
def bn(n:Int):List Value:=Ol (mA n)++[U .u8 59]
def fU(n:Int):Prop := -9223372036854775808<=n/\n<=9223372036854775807
def mw(B : Nat)(w : World) : Prop := Lib.TabBelow AS B w "internal/strconv.uint64pow10" .u64 Lib.pow10Tab
theorem mw.below{B:Nat}{w w':World}(h:mw B w)(hb:Below B w w'):mw B w':=λW hW=>h W (hb.trans hW)
theorem Kp.cj{B b:Nat}{w w':World}(hb:Below w.heap.size w w')(hB:B<=w.heap.size):Kp B b w w':=
 ⟨hb.mono hB,λk o hk _ _=>(hb.block k (BY.1 hk).1).trans hk,λNj=>⟨λk hk _ _=>hb.block k hk,.inl (by unfold oo;rw[hb.cell (p:=⟨b,1,be⟩) Nj])⟩⟩
theorem cY.below{B b:Nat}{bs:List Value}{w w':World}(h:cY B b bs w)(hb:Below w.heap.size w w'):cY B b bs w':=by
 have go:∀p,Mb B b p bs w->Mb B b p bs w':=λp ⟨hB,v,CU,ho,aQ⟩=>
  ⟨hB,v,(hb.block _ (BY.1 CU).1).trans CU,by
   refine⟨ho.1,?_⟩;rcases ho.2 with h|⟨g,c,cur,h1,h2,h3,h4⟩
   .exact .inl h
   .exact .inr ⟨g,c,cur,h1,h2,(hb.block _ (BY.1 h3).1).trans h3,h4⟩,aQ⟩
 rcases h with h|h
 .exact .inl (go _ h)
 .exact .inr (go _ h)
theorem cY.lt{B b:Nat}{bs:List Value}{w:World}(h:cY B b bs w):b<w.heap.size:=by
 rcases h with h|h
 .exact h.lt
 .exact h.lt
theorem zq(n:Int)(B:Nat)(w:World)(hn:fU n)(hT:mw B w) :
 kL 221 #[U O n] w (Y (mA n)):=by
 refine(Tryz.strconv_Itoa n hn.1 hn.2 w hT.here).mono ?_;rintro e w' ⟨rfl,k,os,rfl⟩;exact⟨rfl,Lib.below_grow _ w (Ic _) k os⟩
theorem uo{n:Int}(h:fU n):(mA n).size<=20:=by
 have hd:∀u:Nat,u<10^19->(Lib.decDigits u).length<=19:=λu hu=>by
  rw[Lib.decDigits_length];apply Classical.byContradiction;intro hc;have h1:∀(k u:Nat),Lib.nDigits u>=k+1->10^k<=u\/k=0:=by
   intro k;induction k with
   |zero=>intro u _;exact .inr rfl
   |succ k ih=>
    intro u hu;by_cases h10:u<10
    .rw[Lib.nDigits_small h10] at hu;omega
    .rw[Lib.nDigits_big h10] at hu
     rcases ih (u/10) (by omega) with h|h
     .left;rw[Nat.pow_succ];omega
     .subst h;left;omega
  rcases h1 19 u (by omega) with h|h
  .omega
  .cases h
 show(Qt n).toArray.size<=20;rw[JX];unfold Qt;obtain⟨h1,h2⟩:=h;split
 .rw[Iw];have:=hd n.natAbs (by omega);omega
 .have:=hd n.toNat (by omega);omega
theorem dJ{n:Int}(h:fU n):(bn n).length<=21:=by
 unfold bn;rw[Ig,QV];have:=uo h;simp;omega
theorem eZ:∀(ns:List Int),(∀n∈ns,fU n)->(ns.flatMap bn).length<=21*ns.length
 |[],_=>by simp
 |x::r,h=>by
  have h1:=dJ (h x (by simp));have h2:=eZ r (λn hn=>h n (by simp[hn]));rw[List.flatMap_cons,Ig,Iw];omega
theorem mo(B b g cap:Nat)(ns:List Int)(cs:Array Value)(fz:Nat×Nat)(bs:List Value)(w:World)(h:cY B b bs w)(hlen:bs.length+21*ns.length<=900000)(gW:B<=w.heap.size)(hT:mw B w)(hg:w.heap[g]?=AI (By cs 3 fz))(Bq:g≠b)(cf:∀j,j<ns.length->cs[j]?=AI (U O (ns.getD j 0)))(hn:∀n∈ns,fU n) :
 aI 263 #[Ie (AI ⟨b,0,be⟩),J (AI ⟨g,0,be⟩) ns.length cap] w λe w'=>e=AT (Ik #[])/\cY B b (bs++ns.flatMap bn) w'/\Kp B b w w':=by
 have HI:Hid (cY B b bs w):=h;have HG:Hid _:=hg;have HCS:Hid _:=cf;have HN:Hid _:=hn;have HT:Hid (mw B w):=hT;clear h hg cf hn hT;generalize oD:ns.length=nl at *;have iu:Hid _:=oD;have qT:Hid _:=hlen;have al3:nl<=50000:=by omega
 clear oD hlen;go_enter Tryz.func263,Tryz.ntmps263;go_wp2_with fail;go_loopw [8] (λi w'=>∃k:Nat,k<=nl/\i=U O k/\Hid (cY B b (bs++(ns.take k).flatMap bn) w')/\Hid (Kp B b w w')) (λi _=>nl-(intOf i).toNat)
 case atStart=>exact⟨0,Nat.zero_le _,rfl,by simpa using HI,Kp.refl _ _ _⟩
 case round=>
  obtain⟨k,hk,rfl,HW,HK⟩:=hrel;by_cases aX:k<nl
  .have Mp:=HK.out.T8 g _ HG.out (λe=>Bq (by injection e)) (λc z e=>by injection e with _ e2 _;cases e2)
   have c0:=(ae Mp k).trans (HCS.out k aX);have iT:k<ns.length:=by rw[iu.out];exact aX
   have HNK:Hid (fU (ns.getD k 0)):=HN.out _ (by rw[show ns.getD k 0=ns[k] by simp[Ip,If iT]];exact IJ _);have rK:Hid ((ns.take (k+1)).flatMap bn=(ns.take k).flatMap bn++(Ol (mA (ns.getD k 0))++[U .u8 59])):=by
    show List.flatMap bn _=_;rw[IH iT,List.flatMap_append];simp[bn,Ip,If iT]
   have CX:Hid ((bs++(ns.take k).flatMap bn).length+21<=1000000):=by
    have h1:=eZ (ns.take k) (λn hn=>HN.out n (List.mem_of_mem_take hn));have h2:(ns.take k).length<=k:=List.length_take_le _ _;have:=qT.out;show(bs++(ns.take k).flatMap bn).length+21<=1000000;rw[Ig];omega
   generalize ns.getD k 0=n at *;generalize(ns.take k).flatMap bn=L at *;have HTR:Hid (mw B wr):=HT.out.below HK.out.jH;have yK:=Ir gW HK.out.size;have HIT:Hid (aI 221 #[U O n] wr.drew λe w'=>e=AT (Y (mA n))/\Below wr.heap.size wr w'):=(zq n B wr.drew HNK.out (HTR.out.below (Ib _ _).drew)).mono (by
    rintro e w' ⟨rfl,hb⟩;exact⟨rfl,(Ib _ _).drew.trans hb⟩)
   have HSZ:Hid _:=uo HNK.out;have mg:Hid (∀W,Below wr.heap.size wr W->aI 284 #[Ie (AI ⟨b,0,be⟩),Y (mA n)] W λe w'=>e=AT (Ik #[U O (mA n).size,.nilIface])/\Mb B b (Ie (AI ⟨b,0,be⟩)) (bs++L++Ol (mA n)) w'/\Kp B b wr w'):=λW hW=>by
    refine(mu B b (bs++L) (mA n) W (HW.out.below hW) (by have:=CX.out;have:=HSZ.out;omega) (Ir yK hW.size)).mono ?_;rintro e w' ⟨rfl,h1,h2⟩;exact⟨rfl,h1,(Kp.cj hW yK).trans h2⟩
   clear Mp;generalize mA n=s at *;go_upto_region 3 with fail
   go_region_with (first|(go_at_call 221;refine HIT.out.mono ?_;rintro e w1 ⟨rfl,aB⟩;have ba:Hid (Below wr.heap.size wr w1):=aB;clear aB)|(go_at_call 284;refine(mg.out w1 ba.out).mono ?_;rintro e w2 ⟨rfl,h2,aK⟩;have Ea:Hid (Mb B b (Ie (AI ⟨b,0,be⟩)) (bs++L++Ol s) w2):=h2;have pM:Hid (Kp B b wr w2):=aK;clear h2 aK))
   all_goals
    go_wp2_with fail;refine(ve B b _ 59 w2 (.inr Ea.out) (by rw[Ig,QV];have:=CX.out;have:=HSZ.out;omega) (Ir yK pM.out.size)).mono ?_;rintro e w3 ⟨rfl,h3,bX⟩;have zn:Hid (cY B b (bs++(L++(Ol s++[U .u8 59]))) w3):=(show cY _ _ _ _ by rw[<- Io,<- Io];exact .inr h3);have uL:Hid _:=HK.out.trans (pM.out.trans bX);clear h3 bX;go_wp2_with fail;go_roundw
    case rel=>exact⟨k+1,by omega,by go_num,by rw[rK.out];exact zn,uL⟩
    case measure=>simp[intOf];omega
  .have eV:k=nl:=by omega
   have si:Hid (cY B b (bs++ns.flatMap bn) wr):=by
    have h:=HW.out;rw[List.take_of_length_le (by rw[iu.out];omega)] at h;exact h
   go_wp2_with fail;simp[JV,results,Tryz.results263];exact⟨si.out,HK.out⟩
def aZ(s:ByteArray):List Value:=bn s.size++Ol s
def eO(y:Bool):List Value:=bn (if y=true then 1 else 0)
theorem cW{n:Nat}(h:n<=1000000):fU (n:Int):=⟨by omega,by omega⟩
theorem gG(B b:Nat)(s:ByteArray)(bs:List Value)(w:World)(h:cY B b bs w)(hlen:bs.length+s.size<=800000)(gW:B<=w.heap.size)(hT:mw B w) :
 aI 259 #[Ie (AI ⟨b,0,be⟩),Y s] w λe w'=>e=AT (Ik #[])/\cY B b (bs++aZ s) w'/\Kp B b w w':=by
 have hb:=h.lt;obtain⟨W1,cT,aB,-,cO⟩:=bY w #[U O (s.size:Int)] 3;have HN:Hid (aI 263 #[Ie (AI ⟨b,0,be⟩),J (AI ⟨w.heap.size,0,be⟩) 1 1] W1 λe w'=>e=AT (Ik #[])/\cY B b (bs++bn s.size) w'/\Kp B b w w'):=by
  refine(mo B b w.heap.size 1 [(s.size:Int)] _ _ bs W1 (h.below aB) (by simp;omega) (Ir gW aB.size) (hT.below (aB.mono gW)) cO (by omega) (λj hj=>?_) (λn hn=>?_)).mono ?_
  .have:j=0:=by simpa using hj
   subst this;rfl
  .simp at hn;rw[hn];exact cW (by omega)
  .rintro e w' ⟨rfl,h1,h2⟩
   exact⟨rfl,by simpa using h1,(Kp.cj aB gW).trans h2⟩
 have HL:Hid ((bs++bn s.size).length+s.size<=1000000):=by
  show(bs++bn s.size).length+s.size<=1000000;rw[Ig];have:=dJ (cW (n:=s.size) (by omega));omega
 clear h cO aB hT;go_enter Tryz.func259,Tryz.ntmps259;go_wp2_with fail;rw[<- cT];refine HN.out.mono ?_;rintro e w1 ⟨rfl,h1,jn⟩;have oE:Hid (cY _ _ _ _):=h1;have lD:Hid _:=jn;clear h1 jn cT;go_wp2_with fail;refine(mu B b _ s w1 oE.out HL.out (Ir gW lD.out.size)).mono ?_;rintro e w2 ⟨rfl,h2,jJ⟩;have Ea:Hid (cY B b (bs++aZ s) w2):=(show cY _ _ _ _ by unfold aZ;rw[<- Io];exact .inr h2);have pM:Hid _:=lD.out.trans jJ;clear h2 jJ;go_wp2_with fail;simp[JV,results,Tryz.results259];exact⟨Ea.out,pM.out⟩
theorem nI(B b:Nat)(y:Bool)(bs:List Value)(w:World)(h:cY B b bs w)(hlen:bs.length<=800000)(gW:B<=w.heap.size)(hT:mw B w) :
 aI 260 #[Ie (AI ⟨b,0,be⟩),Ia y] w λe w'=>e=AT (Ik #[])/\cY B b (bs++eO y) w'/\Kp B b w w':=by
 have hb:=h.lt;have HN:Hid (∀n:Int,(n=0\/n=1)->aI 263 #[Ie (AI ⟨b,0,be⟩),J (AI ⟨w.heap.size,0,be⟩) 1 1] (w.alloc (By #[U O n] 3)) λe w'=>e=AT (Ik #[])/\cY B b (bs++bn n) w'/\Kp B b w w'):=λn hn=>by
  have aB:Below w.heap.size w (w.alloc (By #[U O n] 3)):=(Ib _ _).alloc (Ic _) _;refine(mo B b w.heap.size 1 [n] _ _ bs _ (h.below aB) (by simp;omega) (Ir gW aB.size) (hT.below (aB.mono gW)) (Ih w _) (by omega) (λj hj=>?_) (λm hm=>?_)).mono ?_
  .have:j=0:=by simpa using hj
   subst this;rfl
  .simp at hm;rw[hm];rcases hn with rfl|rfl<;>exact⟨by omega,by omega⟩
  .rintro e w' ⟨rfl,h1,h2⟩
   exact⟨rfl,by simpa using h1,(Kp.cj aB gW).trans h2⟩
 clear h hT;cases y
 .have HF:Hid (bs++bn 0=bs++eO false):=rfl
  go_enter Tryz.func260,Tryz.ntmps260;go_wp2_with fail;refine(HN.out 0 (.inl rfl)).mono ?_;rintro e w1 ⟨rfl,h1,jn⟩;have oE:Hid (cY _ _ _ _):=h1;have lD:Hid _:=jn;clear h1 jn;go_wp2_with fail;simp[JV,results,Tryz.results260];exact⟨oE.out,lD.out⟩
 .go_enter Tryz.func260,Tryz.ntmps260
  go_wp2_with fail;refine(HN.out 1 (.inr rfl)).mono ?_;rintro e w1 ⟨rfl,h1,jn⟩;have oE:Hid (cY _ _ _ _):=h1;have lD:Hid _:=jn;clear h1 jn;go_wp2_with fail;simp[JV,results,Tryz.results260];exact⟨oE.out,lD.out⟩
theorem dK{s:ByteArray}(h:s.size<=1000):(aZ s).length<=1100:=by
 unfold aZ;rw[Ig,QV];have:=dJ (cW (n:=s.size) (by omega));omega
theorem ja(y:Bool):(eO y).length<=1100:=by
 unfold eO;have:=dJ (n:=if y=true then 1 else 0) (by split<;>exact⟨by omega,by omega⟩);omega
theorem gY(B b:Nat)(ns:List Int)(bs:List Value)(w:World)(h:cY B b bs w)(hlen:bs.length+21*ns.length<=900000)(gW:B<=w.heap.size)(hT:mw B w)(hn:∀n∈ns,fU n) :
 aI 263 #[Ie (AI ⟨b,0,be⟩),J (AI ⟨w.heap.size,0,be⟩) ns.length ns.length] (w.alloc (By (ns.map (U O)).toArray 3)) λe w'=>e=AT (Ik #[])/\cY B b (bs++ns.flatMap bn) w'/\Kp B b w w':=by
 have aB:Below w.heap.size w (w.alloc (By (ns.map (U O)).toArray 3)):=(Ib _ _).alloc (Ic _) _;refine(mo B b w.heap.size ns.length ns _ _ bs _ (h.below aB) hlen (Ir gW aB.size) (hT.below (aB.mono gW)) (Ih w _) (by have:=h.lt;omega) (λj hj=>?_) hn).mono ?_
 .simp[Ip,If hj]
 .rintro e w' ⟨rfl,h1,h2⟩
  exact⟨rfl,h1,(Kp.cj aB gW).trans h2⟩
theorem Kp.keeps{B b k:Nat}{w w':World}{cs:Array Value}{T:TypeId}{fz:Nat×Nat}(h:Kp B b w w')(hk:w.heap[k]?=AI (By cs T fz))(aQ:k≠b)(hT:T≠5):w'.heap[k]?=AI (By cs T fz):=
 h.T8 k _ hk (λe=>aQ (by injection e)) (λc z e=>by injection e with _ e2 _;exact hT e2)
def dA(m:Mem):List Value:=aZ m.name++[m.state,m.aJ,m.addr].flatMap bn++eO m.server
def kE(m:Mem):Prop:=m.name.size<=1000/\fU m.state/\fU m.aJ/\fU m.addr
theorem lT{m:Mem}(h:kE m):(dA m).length<=3300:=by
 unfold dA;obtain⟨h0,h1,h2,h3⟩:=h;have l0:=dK h0;have l1:=eZ [m.state,m.aJ,m.addr] (λn hn=>by simp only[IQ,Jy,or_false] at hn;rcases hn with rfl|rfl|rfl<;>assumption);simp only[Iw,IV] at l1;have l2:=ja m.server;simp only[Ig];omega
theorem jX(B b wb:Nat)(m:Mem)(bs:List Value)(w:World)(h:cY B b bs w)(hlen:bs.length<=700000)(gW:B<=w.heap.size)(hT:mw B w)(mN:w.heap[wb]?=AI (By #[Ie (AI ⟨b,0,be⟩)] 289 (0,0)))(aQ:wb≠b)(hm:kE m) :
 aI 262 #[Ij #[Y m.name,U O m.state,U O m.aJ,U O m.addr,Ia m.server],Ie (AI ⟨wb,0,be⟩)] w λe w'=>e=AT (Ik #[])/\cY B b (bs++dA m) w'/\Kp B b w w':=by
 have KY:Hid (dA m=aZ m.name++[m.state,m.aJ,m.addr].flatMap bn++eO m.server):=rfl;generalize dA m=EL at *;obtain⟨x0,x1,x2,x3,x4⟩:=m;obtain⟨h0,h1,h2,h3⟩:=hm;simp only at h0 h1 h2 h3 KY ⊢;have kA:=h.lt;have GC:=(BY.1 mN).1;obtain⟨W0,bN⟩:∃W0,W0=w.alloc (By #[Y x0,U O x1,U O x2,U O x3,Ia x4] 50):=⟨_,rfl⟩;have bO:Below w.heap.size w W0:=by rw[bN];exact(Ib _ _).alloc (Ic _) _
 have xL:Kp B b w W0:=Kp.cj bO gW;have tj:Hid (cY B b bs W0):=h.below bO;have xj:Hid _:=xL;have CY:Hid (W0.heap[w.heap.size]?=AI (By #[Y x0,U O x1,U O x2,U O x3,Ia x4] 50 (0,0))):=by rw[bN];exact Ih w _
 have db:Hid _:=(bO.block _ GC).trans mN;have CZ:Hid _:=hlen;have HT:Hid (mw B w):=hT;clear h bO xL mN hT hlen;go_enter Tryz.func262,Tryz.ntmps262;go_upto_region 1 with fail
 rw[<- bN];clear bN;have y0:=ae db.out 0;have z0:=ae CY.out 0;go_wp2_with fail;refine(gG B b x0 (bs) W0 tj.out (by have:=CZ.out;omega) (Ir gW xj.out.size) (HT.out.below xj.out.jH)).mono ?_;rintro e W1 ⟨rfl,hw,hk⟩;have oE:Hid (cY _ _ _ _):=hw;have lD:Hid _:=xj.out.trans hk;have ky:Hid _:=hk.keeps CY.out (by omega) (by decide);have ba:Hid _:=hk.keeps db.out aQ (by decide);have vS:Hid ((bs++aZ x0).length<=701100):=by
  have g1:=CZ.out;have g2:=dK h0;show Jt (bs++aZ x0)<=_;rw[Ig];omega
 clear hw hk y0 z0;have y0:=ae ba.out 0;have z0:=ae ky.out 1;have z1:=ae ky.out 2;have z2:=ae ky.out 3;go_wp2_with fail;refine(gY B b [x1,x2,x3] (bs++aZ x0) W1 oE.out (by have:=vS.out;simp only[Iw,IV];omega) (Ir gW lD.out.size) (HT.out.below lD.out.jH) (λn hn=>by simp only[IQ,Jy,or_false] at hn;rcases hn with rfl|rfl|rfl<;>assumption)).mono ?_;rintro e W2 ⟨rfl,hw,hk⟩;have Ea:Hid (cY _ _ _ _):=hw;have pM:Hid _:=lD.out.trans hk;have Bj:Hid _:=hk.keeps ky.out (by omega) (by decide);have bu:Hid _:=hk.keeps ba.out aQ (by decide);have vi:Hid ((bs++aZ x0++[x1,x2,x3].flatMap bn).length<=702200):=by
  have g1:=vS.out;have g2:=eZ [x1,x2,x3] (λn hn=>by simp only[IQ,Jy,or_false] at hn;rcases hn with rfl|rfl|rfl<;>assumption);show Jt (bs++aZ x0++[x1,x2,x3].flatMap bn)<=_;rw[Ig];simp only[Iw,IV] at g2;omega
 clear hw hk y0 z0 z1 z2;have y0:=ae bu.out 0;have z0:=ae Bj.out 4;go_wp2_with fail;refine(nI B b x4 (bs++aZ x0++[x1,x2,x3].flatMap bn) W2 Ea.out (by have:=vi.out;omega) (Ir gW pM.out.size) (HT.out.below pM.out.jH)).mono ?_;rintro e W3 ⟨rfl,hw,hk⟩;have zn:Hid (cY _ _ _ _):=hw;have uL:Hid _:=pM.out.trans hk;have Vb:Hid _:=hk.keeps Bj.out (by omega) (by decide);have cJ:Hid _:=hk.keeps bu.out aQ (by decide);have Vc:Hid ((bs++aZ x0++[x1,x2,x3].flatMap bn++eO x4).length<=703300):=by
  have g1:=vi.out;have g2:=ja x4;show Jt (bs++aZ x0++[x1,x2,x3].flatMap bn++eO x4)<=_;rw[Ig];omega
 clear hw hk y0 z0;have si:Hid (cY B b (bs++EL) W3):=by
  have h:=zn.out;rw[KY.out];simp only[Io] at h ⊢;exact h
 go_wp2_with fail;simp[JV,results,Tryz.results262];exact⟨si.out,uL.out⟩
def Sv.dA(m:Sv.aY):List Value:=aZ m.node++aZ m.bP++aZ m.name++aZ m.tag++[m.addr,m.port].flatMap bn++eO m.an++[m.version].flatMap bn++eO m.gone
def Sv.kE(m:Sv.aY):Prop:=m.node.size<=1000/\m.bP.size<=1000/\m.name.size<=1000/\m.tag.size<=1000/\fU m.addr/\fU m.port/\fU m.version
theorem Sv.lT{m:Sv.aY}(h:Sv.kE m):(Sv.dA m).length<=8800:=by
 unfold Sv.dA;obtain⟨h0,h1,h2,h3,h4,h5,h6⟩:=h;have l0:=dK h0;have l1:=dK h1;have l2:=dK h2;have l3:=dK h3;have l4:=eZ [m.addr,m.port] (λn hn=>by simp only[IQ,Jy,or_false] at hn;rcases hn with rfl|rfl<;>assumption);simp only[Iw,IV] at l4;have l5:=ja m.an;have l6:=eZ [m.version] (λn hn=>by simp only[IQ,Jy,or_false] at hn;rcases hn with rfl<;>assumption);simp only[Iw,IV] at l6;have l7:=ja m.gone;simp only[Ig];omega
theorem Sv.jX(B b wb:Nat)(m:Sv.aY)(bs:List Value)(w:World)(h:cY B b bs w)(hlen:bs.length<=700000)(gW:B<=w.heap.size)(hT:mw B w)(mN:w.heap[wb]?=AI (By #[Ie (AI ⟨b,0,be⟩)] 289 (0,0)))(aQ:wb≠b)(hm:Sv.kE m) :
 aI 265 #[Ij #[Y m.node,Y m.bP,Y m.name,Y m.tag,U O m.addr,U O m.port,Ia m.an,U O m.version,Ia m.gone],Ie (AI ⟨wb,0,be⟩)] w λe w'=>e=AT (Ik #[])/\cY B b (bs++Sv.dA m) w'/\Kp B b w w':=by
 have KY:Hid (Sv.dA m=aZ m.node++aZ m.bP++aZ m.name++aZ m.tag++[m.addr,m.port].flatMap bn++eO m.an++[m.version].flatMap bn++eO m.gone):=rfl;generalize Sv.dA m=EL at *;obtain⟨x0,x1,x2,x3,x4,x5,x6,x7,x8⟩:=m;obtain⟨h0,h1,h2,h3,h4,h5,h6⟩:=hm;simp only at h0 h1 h2 h3 h4 h5 h6 KY ⊢;have kA:=h.lt;have GC:=(BY.1 mN).1;obtain⟨W0,bN⟩:∃W0,W0=w.alloc (By #[Y x0,Y x1,Y x2,Y x3,U O x4,U O x5,Ia x6,U O x7,Ia x8] 46):=⟨_,rfl⟩;have bO:Below w.heap.size w W0:=by rw[bN];exact(Ib _ _).alloc (Ic _) _
 have xL:Kp B b w W0:=Kp.cj bO gW;have tj:Hid (cY B b bs W0):=h.below bO;have xj:Hid _:=xL;have CY:Hid (W0.heap[w.heap.size]?=AI (By #[Y x0,Y x1,Y x2,Y x3,U O x4,U O x5,Ia x6,U O x7,Ia x8] 46 (0,0))):=by rw[bN];exact Ih w _
 have db:Hid _:=(bO.block _ GC).trans mN;have CZ:Hid _:=hlen;have HT:Hid (mw B w):=hT;clear h bO xL mN hT hlen;go_enter Tryz.func265,Tryz.ntmps265;go_upto_region 1 with fail
 rw[<- bN];clear bN;have y0:=ae db.out 0;have z0:=ae CY.out 0;go_wp2_with fail;refine(gG B b x0 (bs) W0 tj.out (by have:=CZ.out;omega) (Ir gW xj.out.size) (HT.out.below xj.out.jH)).mono ?_;rintro e W1 ⟨rfl,hw,hk⟩;have oE:Hid (cY _ _ _ _):=hw;have lD:Hid _:=xj.out.trans hk;have ky:Hid _:=hk.keeps CY.out (by omega) (by decide);have ba:Hid _:=hk.keeps db.out aQ (by decide);have vS:Hid ((bs++aZ x0).length<=701100):=by
  have g1:=CZ.out;have g2:=dK h0;show Jt (bs++aZ x0)<=_;rw[Ig];omega
 clear hw hk y0 z0;have y0:=ae ba.out 0;have z0:=ae ky.out 1;go_wp2_with fail;refine(gG B b x1 (bs++aZ x0) W1 oE.out (by have:=vS.out;omega) (Ir gW lD.out.size) (HT.out.below lD.out.jH)).mono ?_;rintro e W2 ⟨rfl,hw,hk⟩;have Ea:Hid (cY _ _ _ _):=hw;have pM:Hid _:=lD.out.trans hk;have Bj:Hid _:=hk.keeps ky.out (by omega) (by decide);have bu:Hid _:=hk.keeps ba.out aQ (by decide);have vi:Hid ((bs++aZ x0++aZ x1).length<=702200):=by
  have g1:=vS.out;have g2:=dK h1;show Jt (bs++aZ x0++aZ x1)<=_;rw[Ig];omega
 clear hw hk y0 z0;have y0:=ae bu.out 0;have z0:=ae Bj.out 2;go_wp2_with fail;refine(gG B b x2 (bs++aZ x0++aZ x1) W2 Ea.out (by have:=vi.out;omega) (Ir gW pM.out.size) (HT.out.below pM.out.jH)).mono ?_;rintro e W3 ⟨rfl,hw,hk⟩;have zn:Hid (cY _ _ _ _):=hw;have uL:Hid _:=pM.out.trans hk;have Vb:Hid _:=hk.keeps Bj.out (by omega) (by decide);have cJ:Hid _:=hk.keeps bu.out aQ (by decide);have Vc:Hid ((bs++aZ x0++aZ x1++aZ x2).length<=703300):=by
  have g1:=vi.out;have g2:=dK h2;show Jt (bs++aZ x0++aZ x1++aZ x2)<=_;rw[Ig];omega
 clear hw hk y0 z0;have y0:=ae cJ.out 0;have z0:=ae Vb.out 3;go_wp2_with fail;refine(gG B b x3 (bs++aZ x0++aZ x1++aZ x2) W3 zn.out (by have:=Vc.out;omega) (Ir gW uL.out.size) (HT.out.below uL.out.jH)).mono ?_;rintro e W4 ⟨rfl,hw,hk⟩;have HW4:Hid (cY _ _ _ _):=hw;have Eb:Hid _:=uL.out.trans hk;have Vd:Hid _:=hk.keeps Vb.out (by omega) (by decide);have fO:Hid _:=hk.keeps cJ.out aQ (by decide);have RQ:Hid ((bs++aZ x0++aZ x1++aZ x2++aZ x3).length<=704400):=by
  have g1:=Vc.out;have g2:=dK h3;show Jt (bs++aZ x0++aZ x1++aZ x2++aZ x3)<=_;rw[Ig];omega
 clear hw hk y0 z0;have y0:=ae fO.out 0;have z0:=ae Vd.out 4;have z1:=ae Vd.out 5;go_wp2_with fail;refine(gY B b [x4,x5] (bs++aZ x0++aZ x1++aZ x2++aZ x3) W4 HW4.out (by have:=RQ.out;simp only[Iw,IV];omega) (Ir gW Eb.out.size) (HT.out.below Eb.out.jH) (λn hn=>by simp only[IQ,Jy,or_false] at hn;rcases hn with rfl|rfl<;>assumption)).mono ?_;rintro e W5 ⟨rfl,hw,hk⟩;have PH:Hid (cY _ _ _ _):=hw;have zp:Hid _:=Eb.out.trans hk;have VS:Hid _:=hk.keeps Vd.out (by omega) (by decide);have iy:Hid _:=hk.keeps fO.out aQ (by decide);have VT:Hid ((bs++aZ x0++aZ x1++aZ x2++aZ x3++[x4,x5].flatMap bn).length<=705500):=by
  have g1:=RQ.out;have g2:=eZ [x4,x5] (λn hn=>by simp only[IQ,Jy,or_false] at hn;rcases hn with rfl|rfl<;>assumption);show Jt (bs++aZ x0++aZ x1++aZ x2++aZ x3++[x4,x5].flatMap bn)<=_;rw[Ig];simp only[Iw,IV] at g2;omega
 clear hw hk y0 z0 z1;have y0:=ae iy.out 0;have z0:=ae VS.out 6;go_wp2_with fail;refine(nI B b x6 (bs++aZ x0++aZ x1++aZ x2++aZ x3++[x4,x5].flatMap bn) W5 PH.out (by have:=VT.out;omega) (Ir gW zp.out.size) (HT.out.below zp.out.jH)).mono ?_;rintro e W6 ⟨rfl,hw,hk⟩;have HW6:Hid (cY _ _ _ _):=hw;have MF:Hid _:=zp.out.trans hk;have HX6:Hid _:=hk.keeps VS.out (by omega) (by decide);have pD:Hid _:=hk.keeps iy.out aQ (by decide);have HL6:Hid ((bs++aZ x0++aZ x1++aZ x2++aZ x3++[x4,x5].flatMap bn++eO x6).length<=706600):=by
  have g1:=VT.out;have g2:=ja x6;show Jt (bs++aZ x0++aZ x1++aZ x2++aZ x3++[x4,x5].flatMap bn++eO x6)<=_;rw[Ig];omega
 clear hw hk y0 z0;have y0:=ae pD.out 0;have z0:=ae HX6.out 7;go_wp2_with fail;refine(gY B b [x7] (bs++aZ x0++aZ x1++aZ x2++aZ x3++[x4,x5].flatMap bn++eO x6) W6 HW6.out (by have:=HL6.out;simp only[Iw,IV];omega) (Ir gW MF.out.size) (HT.out.below MF.out.jH) (λn hn=>by simp only[IQ,Jy,or_false] at hn;rcases hn with rfl<;>assumption)).mono ?_;rintro e W7 ⟨rfl,hw,hk⟩;have HW7:Hid (cY _ _ _ _):=hw;have Nh:Hid _:=MF.out.trans hk;have HX7:Hid _:=hk.keeps HX6.out (by omega) (by decide);have yN:Hid _:=hk.keeps pD.out aQ (by decide);have HL7:Hid ((bs++aZ x0++aZ x1++aZ x2++aZ x3++[x4,x5].flatMap bn++eO x6++[x7].flatMap bn).length<=707700):=by
  have g1:=HL6.out;have g2:=eZ [x7] (λn hn=>by simp only[IQ,Jy,or_false] at hn;rcases hn with rfl<;>assumption);show Jt (bs++aZ x0++aZ x1++aZ x2++aZ x3++[x4,x5].flatMap bn++eO x6++[x7].flatMap bn)<=_;rw[Ig];simp only[Iw,IV] at g2;omega
 clear hw hk y0 z0;have y0:=ae yN.out 0;have z0:=ae HX7.out 8;go_wp2_with fail;refine(nI B b x8 (bs++aZ x0++aZ x1++aZ x2++aZ x3++[x4,x5].flatMap bn++eO x6++[x7].flatMap bn) W7 HW7.out (by have:=HL7.out;omega) (Ir gW Nh.out.size) (HT.out.below Nh.out.jH)).mono ?_;rintro e W8 ⟨rfl,hw,hk⟩;have HW8:Hid (cY _ _ _ _):=hw;have HK8:Hid _:=Nh.out.trans hk;have HX8:Hid _:=hk.keeps HX7.out (by omega) (by decide);have HB8:Hid _:=hk.keeps yN.out aQ (by decide);have HL8:Hid ((bs++aZ x0++aZ x1++aZ x2++aZ x3++[x4,x5].flatMap bn++eO x6++[x7].flatMap bn++eO x8).length<=708800):=by
  have g1:=HL7.out;have g2:=ja x8;show Jt (bs++aZ x0++aZ x1++aZ x2++aZ x3++[x4,x5].flatMap bn++eO x6++[x7].flatMap bn++eO x8)<=_;rw[Ig];omega
 clear hw hk y0 z0;have si:Hid (cY B b (bs++EL) W8):=by
  have h:=HW8.out;rw[KY.out];simp only[Io] at h ⊢;exact h
 go_wp2_with fail;simp[JV,results,Tryz.results265];exact⟨si.out,HK8.out⟩
def Gw.dA(m:Gw.bL):List Value:=aZ m.aD++[m.addr,m.version].flatMap bn
def Gw.kE(m:Gw.bL):Prop:=m.aD.size<=1000/\fU m.addr/\fU m.version
theorem Gw.lT{m:Gw.bL}(h:Gw.kE m):(Gw.dA m).length<=2200:=by
 unfold Gw.dA;obtain⟨h0,h1,h2⟩:=h;have l0:=dK h0;have l1:=eZ [m.addr,m.version] (λn hn=>by simp only[IQ,Jy,or_false] at hn;rcases hn with rfl|rfl<;>assumption);simp only[Iw,IV] at l1;simp only[Ig];omega
theorem Gw.jX(B b wb:Nat)(m:Gw.bL)(bs:List Value)(w:World)(h:cY B b bs w)(hlen:bs.length<=700000)(gW:B<=w.heap.size)(hT:mw B w)(mN:w.heap[wb]?=AI (By #[Ie (AI ⟨b,0,be⟩)] 289 (0,0)))(aQ:wb≠b)(hm:Gw.kE m) :
 aI 267 #[Ij #[Y m.aD,U O m.addr,U O m.version],Ie (AI ⟨wb,0,be⟩)] w λe w'=>e=AT (Ik #[])/\cY B b (bs++Gw.dA m) w'/\Kp B b w w':=by
 have KY:Hid (Gw.dA m=aZ m.aD++[m.addr,m.version].flatMap bn):=rfl;generalize Gw.dA m=EL at *;obtain⟨x0,x1,x2⟩:=m;obtain⟨h0,h1,h2⟩:=hm;simp only at h0 h1 h2 KY ⊢;have kA:=h.lt;have GC:=(BY.1 mN).1;obtain⟨W0,bN⟩:∃W0,W0=w.alloc (By #[Y x0,U O x1,U O x2] 77):=⟨_,rfl⟩;have bO:Below w.heap.size w W0:=by rw[bN];exact(Ib _ _).alloc (Ic _) _
 have xL:Kp B b w W0:=Kp.cj bO gW;have tj:Hid (cY B b bs W0):=h.below bO;have xj:Hid _:=xL;have CY:Hid (W0.heap[w.heap.size]?=AI (By #[Y x0,U O x1,U O x2] 77 (0,0))):=by rw[bN];exact Ih w _
 have db:Hid _:=(bO.block _ GC).trans mN;have CZ:Hid _:=hlen;have HT:Hid (mw B w):=hT;clear h bO xL mN hT hlen;go_enter Tryz.func267,Tryz.ntmps267;go_upto_region 1 with fail
 rw[<- bN];clear bN;have y0:=ae db.out 0;have z0:=ae CY.out 0;go_wp2_with fail;refine(gG B b x0 (bs) W0 tj.out (by have:=CZ.out;omega) (Ir gW xj.out.size) (HT.out.below xj.out.jH)).mono ?_;rintro e W1 ⟨rfl,hw,hk⟩;have oE:Hid (cY _ _ _ _):=hw;have lD:Hid _:=xj.out.trans hk;have ky:Hid _:=hk.keeps CY.out (by omega) (by decide);have ba:Hid _:=hk.keeps db.out aQ (by decide);have vS:Hid ((bs++aZ x0).length<=701100):=by
  have g1:=CZ.out;have g2:=dK h0;show Jt (bs++aZ x0)<=_;rw[Ig];omega
 clear hw hk y0 z0;have y0:=ae ba.out 0;have z0:=ae ky.out 1;have z1:=ae ky.out 2;go_wp2_with fail;refine(gY B b [x1,x2] (bs++aZ x0) W1 oE.out (by have:=vS.out;simp only[Iw,IV];omega) (Ir gW lD.out.size) (HT.out.below lD.out.jH) (λn hn=>by simp only[IQ,Jy,or_false] at hn;rcases hn with rfl|rfl<;>assumption)).mono ?_;rintro e W2 ⟨rfl,hw,hk⟩;have Ea:Hid (cY _ _ _ _):=hw;have pM:Hid _:=lD.out.trans hk;have Bj:Hid _:=hk.keeps ky.out (by omega) (by decide);have bu:Hid _:=hk.keeps ba.out aQ (by decide);have vi:Hid ((bs++aZ x0++[x1,x2].flatMap bn).length<=702200):=by
  have g1:=vS.out;have g2:=eZ [x1,x2] (λn hn=>by simp only[IQ,Jy,or_false] at hn;rcases hn with rfl|rfl<;>assumption);show Jt (bs++aZ x0++[x1,x2].flatMap bn)<=_;rw[Ig];simp only[Iw,IV] at g2;omega
 clear hw hk y0 z0 z1;have si:Hid (cY B b (bs++EL) W2):=by
  have h:=Ea.out;rw[KY.out];simp only[Io] at h ⊢;exact h
 go_wp2_with fail;simp[JV,results,Tryz.results267];exact⟨si.out,pM.out⟩
def Wh.dA(m:Wh.bK):List Value:=aZ m.node++[m.x,m.y,m.z,m.h,m.s].flatMap bn
def Wh.kE(m:Wh.bK):Prop:=m.node.size<=1000/\fU m.x/\fU m.y/\fU m.z/\fU m.h/\fU m.s
theorem Wh.lT{m:Wh.bK}(h:Wh.kE m):(Wh.dA m).length<=2200:=by
 unfold Wh.dA;obtain⟨h0,h1,h2,h3,h4,h5⟩:=h;have l0:=dK h0;have l1:=eZ [m.x,m.y,m.z,m.h,m.s] (λn hn=>by simp only[IQ,Jy,or_false] at hn;rcases hn with rfl|rfl|rfl|rfl|rfl<;>assumption);simp only[Iw,IV] at l1;simp only[Ig];omega
theorem Wh.jX(B b wb:Nat)(m:Wh.bK)(bs:List Value)(w:World)(h:cY B b bs w)(hlen:bs.length<=700000)(gW:B<=w.heap.size)(hT:mw B w)(mN:w.heap[wb]?=AI (By #[Ie (AI ⟨b,0,be⟩)] 289 (0,0)))(aQ:wb≠b)(hm:Wh.kE m) :
 aI 269 #[Ij #[Y m.node,U O m.x,U O m.y,U O m.z,U O m.h,U O m.s],Ie (AI ⟨wb,0,be⟩)] w λe w'=>e=AT (Ik #[])/\cY B b (bs++Wh.dA m) w'/\Kp B b w w':=by
 have KY:Hid (Wh.dA m=aZ m.node++[m.x,m.y,m.z,m.h,m.s].flatMap bn):=rfl;generalize Wh.dA m=EL at *;obtain⟨x0,x1,x2,x3,x4,x5⟩:=m;obtain⟨h0,h1,h2,h3,h4,h5⟩:=hm;simp only at h0 h1 h2 h3 h4 h5 KY ⊢;have kA:=h.lt;have GC:=(BY.1 mN).1;obtain⟨W0,bN⟩:∃W0,W0=w.alloc (By #[Y x0,U O x1,U O x2,U O x3,U O x4,U O x5] 116):=⟨_,rfl⟩;have bO:Below w.heap.size w W0:=by rw[bN];exact(Ib _ _).alloc (Ic _) _
 have xL:Kp B b w W0:=Kp.cj bO gW;have tj:Hid (cY B b bs W0):=h.below bO;have xj:Hid _:=xL;have CY:Hid (W0.heap[w.heap.size]?=AI (By #[Y x0,U O x1,U O x2,U O x3,U O x4,U O x5] 116 (0,0))):=by rw[bN];exact Ih w _
 have db:Hid _:=(bO.block _ GC).trans mN;have CZ:Hid _:=hlen;have HT:Hid (mw B w):=hT;clear h bO xL mN hT hlen;go_enter Tryz.func269,Tryz.ntmps269;go_upto_region 1 with fail
 rw[<- bN];clear bN;have y0:=ae db.out 0;have z0:=ae CY.out 0;go_wp2_with fail;refine(gG B b x0 (bs) W0 tj.out (by have:=CZ.out;omega) (Ir gW xj.out.size) (HT.out.below xj.out.jH)).mono ?_;rintro e W1 ⟨rfl,hw,hk⟩;have oE:Hid (cY _ _ _ _):=hw;have lD:Hid _:=xj.out.trans hk;have ky:Hid _:=hk.keeps CY.out (by omega) (by decide);have ba:Hid _:=hk.keeps db.out aQ (by decide);have vS:Hid ((bs++aZ x0).length<=701100):=by
  have g1:=CZ.out;have g2:=dK h0;show Jt (bs++aZ x0)<=_;rw[Ig];omega
 clear hw hk y0 z0;have y0:=ae ba.out 0;have z0:=ae ky.out 1;have z1:=ae ky.out 2;have z2:=ae ky.out 3;have z3:=ae ky.out 4;have z4:=ae ky.out 5;go_wp2_with fail;refine(gY B b [x1,x2,x3,x4,x5] (bs++aZ x0) W1 oE.out (by have:=vS.out;simp only[Iw,IV];omega) (Ir gW lD.out.size) (HT.out.below lD.out.jH) (λn hn=>by simp only[IQ,Jy,or_false] at hn;rcases hn with rfl|rfl|rfl|rfl|rfl<;>assumption)).mono ?_;rintro e W2 ⟨rfl,hw,hk⟩;have Ea:Hid (cY _ _ _ _):=hw;have pM:Hid _:=lD.out.trans hk;have Bj:Hid _:=hk.keeps ky.out (by omega) (by decide);have bu:Hid _:=hk.keeps ba.out aQ (by decide);have vi:Hid ((bs++aZ x0++[x1,x2,x3,x4,x5].flatMap bn).length<=702200):=by
  have g1:=vS.out;have g2:=eZ [x1,x2,x3,x4,x5] (λn hn=>by simp only[IQ,Jy,or_false] at hn;rcases hn with rfl|rfl|rfl|rfl|rfl<;>assumption);show Jt (bs++aZ x0++[x1,x2,x3,x4,x5].flatMap bn)<=_;rw[Ig];simp only[Iw,IV] at g2;omega
 clear hw hk y0 z0 z1 z2 z3 z4;have si:Hid (cY B b (bs++EL) W2):=by
  have h:=Ea.out;rw[KY.out];simp only[Io] at h ⊢;exact h
 go_wp2_with fail;simp[JV,results,Tryz.results269];exact⟨si.out,pM.out⟩
end Go.Proofs.YtfidhgjmifendaaGreatDoor
