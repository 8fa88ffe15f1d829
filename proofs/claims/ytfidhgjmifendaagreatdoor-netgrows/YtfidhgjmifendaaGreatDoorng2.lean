import Derived.Test.YtfidhgjmifendaaGreatDoorng1
set_option maxHeartbeats 1000000
set_option maxRecDepth 100000
open Go.Obj renaming cells→By
open Option renaming some→AI,none→be,isNone_none→ON,isNone_some→OO
open Go.Addr renaming add_lit→I9
open List renaming getElem?_take→Qp,length_drop→JL,length_take→IB,mem_of_mem_drop→QR,size_toArray→JW,length_append→Ih,append_assoc→Ip,take_take→QJ,take_left'→OC,length_cons→Iz,take_succ_cons→Od,take_length_add_append→JX,drop_succ_cons→Oe,drop_length_add_append→JY,mem_flatMap→Qc,getElem?_append_left→Js,getElem?_append_right→Jr,set_cons_succ→Oq,set_append→Q7,eq_nil_of_length_eq_zero→Jd,getElem?_take_of_lt→IM,length_set→IT,getElem_of_mem→I3,getD→Iq,getElem?_eq_getElem→Ie,getElem_mem→IG,getElem?_eq_none→I0,length_nil→IV,getElem?_eq_some_iff→Jm
open Go.Value renaming slice→J,string→Y,int→U,bool→Ia,ownBlock→Jx
open Go.Builtin renaming copy_→Qs,firstCells→Ql,append_→Q8
open Nat renaming mul_le_mul_right→Ow,one_mul→Q6,add_sub_cancel→Qn,lt_of_lt_of_le→IJ,le_trans→Ir,le_of_not_lt→Qd,zero_add→ID,le_refl→Ic
open Array renaming length_toList→IS,getElem?_eq_some_iff→BY,toList_append→Q1
open ByteArray renaming empty→Iw
open Go renaming maxLen→Io,cell_regrown→Ig,info_parts→I6,run_callFunc_extern→OE,run_firstCells_some→Q0,grownCap_le_maxLen→Ug,wpList_append_own→Ja
open Go.IntKind renaming i64→O,wrap_i64→IY
open Go.World.ownsRow renaming lt→OI,stored→IK
open Go.World renaming ownsRow→J2,ownsRow_nil→J3,shape?→OV,frozen?→Is,cell?_alloc_past→Og,ownsRow_made→OP
open Go.Proofs.Tryz renaming prog→AS,underlying37→J6,underlying3→IF,underlying34→JN,underlying25→O6
open Go.Extern.SlicesOverlaps renaming overlaps→Ov
open Go.Lib renaming run_overlaps_apart→Qv,run_append_grow_zeros→O7,wpList_append_run→QD,run_eql_slice_nil→Ju
open Go.Ending renaming returned→AT
open Go.Act renaming eval→No,put→Om
namespace Go.Proofs.YtfidhgjmifendaaGreatDoor
open Go.RowKit
section
variable {P:Program} {S T:TypeId} {k:Nat}
theorem Hb{w:World}{g i n:Nat}{cur:Array Value}(hg:w.heap[g]?=AI (By cur T (0,0))):∀j v,((cur.toList.take n).drop i)[j]?=AI v->w.cell? ((⟨g,i,be⟩:Addr).add j)=AI v:=λj v hj=>by
 rw[show w.cell? ((⟨g,i,be⟩:Addr).add j)=cur[i+j]? by rw[I9];exact ae hg _];rw[List.getElem?_drop,Qp] at hj;split at hj
 .simpa using hj
 .cases hj
theorem o0(hu:P.underlying S=AI (.slice T))(cC:(P.info? T).map (·.size)=AI k){g n c i vb:Nat}{cur:Array Value}{vs:List Value}{w:World}(hg:w.heap[g]?=AI (By cur T (0,0)))(bZ:cur.size=c*k)(hi:i<n)(du:n+1<=c)(o5:vb≠g)(hv:w.heap[vb]?=AI (By vs.toArray T (0,0)))(kY:vs.length=k)(lH:∀v∈cur.toList.take (n*k),v.oneCell'=true)(mC:∀v∈vs,v.oneCell'=true) :
 ∃W1 W2,(∀ty dc sc,(Qs #[S,S] ty #[J (AI ⟨g,(i+1)*k,be⟩) (n-i) dc,J (AI ⟨g,i*k,be⟩) (n+1-i) sc]).run P w.drew=.ok (goInt (Nat.min (n+1-i) (n-i))) W1) /\
  (∀ty dc,(Qs #[S,S] ty #[J (AI ⟨g,i*k,be⟩) (n+1-i) dc,J (AI ⟨vb,0,be⟩) 1 1]).run P W1=.ok (goInt (Nat.min 1 (n+1-i))) W2) /\
  ∃dP:Array Value,W2.heap[g]?=AI (By dP T (0,0))/\dP.size=c*k/\dP.toList.take ((n+1)*k)=cur.toList.take (i*k)++vs++(cur.toList.take (n*k)).drop (i*k)/\w.grownBy W2 (AI g):=by
 have m1:(i+1)*k=i*k+k:=Nat.succ_mul i k;have m2:(n+1)*k=n*k+k:=Nat.succ_mul n k;have m3:i*k<=n*k:=Ow k (by omega);have m4:(n+1)*k<=c*k:=Ow k du;have m5:(n-i)*k=n*k-i*k:=Nat.sub_mul n i k;have Mx:((cur.toList.take (n*k)).drop (i*k)).length=(n-i)*k:=by
  simp only[JL,IB,IS];omega
 have hX1:∀v∈(cur.toList.take (n*k)).drop (i*k),v.oneCell'=true:=λv hv=>lH v (QR hv);have hXs:=Hb (w:=w.drew) (i:=i*k) (n:=n*k) hg;generalize hX:(cur.toList.take (n*k)).drop (i*k)=X at *;obtain⟨C1,Py⟩:∃C1:Array Value,C1=(cur.toList.take ((i+1)*k)++X++cur.toList.drop ((i+1)*k+X.length)).toArray:=⟨_,rfl⟩;obtain⟨W1,cQ⟩:∃W1,W1=w.drew.setRow g C1:=⟨_,rfl⟩;have cI:W1.heap[g]?=AI (By C1 T (0,0)):=by rw[cQ];exact setRow_heap w.drew g cur C1 T (0,0) hg
 have yN:∀q,q≠g->W1.heap[q]?=w.heap[q]?:=λq hq=>by rw[cQ,setRow_other w.drew g q C1 hq];rfl
 have Ap:W1.heap[vb]?=AI (By vs.toArray T (0,0)):=by rw[yN vb o5];exact hv
 have fh:C1.size=c*k:=by
  rw[Py];simp only[JW,Ih,IB,JL,IS,Mx,bZ];omega
 obtain⟨C2,Hc⟩:∃C2:Array Value,C2=(C1.toList.take (i*k)++vs++C1.toList.drop (i*k+vs.length)).toArray:=⟨_,rfl⟩;obtain⟨W2,bL⟩:∃W2,W2=W1.setRow g C2:=⟨_,rfl⟩;refine⟨W1,W2,λty dc sc=>?_,λty dc=>?_,C2,by rw[bL];exact setRow_heap W1 g C1 C2 T (0,0) cI,?_,?_,⟨by rw[bL,cQ];rfl,by rw[bL,cQ];rfl,by rw[bL,cQ];rfl,by rw[bL,cQ];simp[World.setRow],λq _ hq=>?_⟩⟩
 .rw[cQ,Py]
  exact lj w.drew S S ty T g ((i+1)*k) (n-i) dc ⟨g,i*k,be⟩ (n+1-i) sc k cur T X hu cC hg (by rw[Mx];congr 1;simp only[Nat.min_def];split<;>omega) hXs (by rw[Mx,bZ];omega) hX1
 .rw[bL,Hc]
  exact lj W1 S S ty T g (i*k) (n+1-i) dc ⟨vb,0,be⟩ 1 1 k C1 T vs hu cC cI (by rw[kY,show Nat.min 1 (n+1-i)=1 by simp only[Nat.min_def];split<;>omega,Q6]) (λj v hj=>by rw[I9,ae Ap];simpa using hj) (by rw[kY,fh];omega) mC
 .rw[Hc];simp only[JW,Ih,IB,JL,IS,kY,fh];omega
 .have e1:C1.toList.take (i*k)=cur.toList.take (i*k):=by
   rw[Py];simp only[Ip];rw[List.take_append_of_le_length (by simp only[IB,IS,bZ];omega),QJ];congr 1;omega
  have e2:C1.toList.drop (i*k+vs.length)=X++cur.toList.drop ((i+1)*k+X.length):=by
   rw[Py];simp only[Ip];rw[List.drop_append_of_le_length (by simp only[IB,IS,bZ];omega),List.drop_of_length_le (by simp only[IB,IS,bZ];omega),List.nil_append]
  rw[Hc,e1,e2];simp only[Ip];rw[<- Ip vs,<- Ip (List.take (i*k) cur.toList)];exact OC (by simp only[Ih,IB,IS,bZ,kY,Mx];omega)
 .have hq':q≠g:=λe=>hq (by rw[e])
  rw[bL,setRow_other W1 g q C2 hq',yN q hq']
theorem o6(hu:P.underlying S=AI (.slice T))(cC:(P.info? T).map (·.size)=AI k){g c i vb G:Nat}{cur mg:Array Value}{vs:List Value}{w:World}(hg:w.heap[g]?=AI (By cur T (0,0)))(bZ:cur.size=c*k)(hi:i<c)(hv:w.heap[vb]?=AI (By vs.toArray T (0,0)))(kY:vs.length=k)(lH:∀v∈cur.toList.take (c*k),v.oneCell'=true)(mC:∀v∈vs,v.oneCell'=true)(yO:c+1<=G)(Ao:mg.size=G*k)(DV:mg.toList.take (i*k)=cur.toList.take (i*k)) :
 ∃W2 W3,(∀ty dc,(Qs #[S,S] ty #[J (AI ⟨w.heap.size,i*k,be⟩) (c+1-i) dc,J (AI ⟨vb,0,be⟩) 1 1]).run P ((w.alloc (By mg T)).drew)=.ok (goInt (Nat.min 1 (c+1-i))) W2) /\
  (∀ty dc sc,(Qs #[S,S] ty #[J (AI ⟨w.heap.size,(i+1)*k,be⟩) (c-i) dc,J (AI ⟨g,i*k,be⟩) (c-i) sc]).run P W2.drew=.ok (goInt (Nat.min (c-i) (c-i))) W3) /\
  ∃dP:Array Value,W3.heap[w.heap.size]?=AI (By dP T (0,0))/\dP.size=G*k/\dP.toList.take ((c+1)*k)=cur.toList.take (i*k)++vs++(cur.toList.take (c*k)).drop (i*k)/\w.grownBy W3 be:=by
 have wF:g<w.heap.size:=(BY.1 hg).1;have LU:vb<w.heap.size:=(BY.1 hv).1;have m1:(i+1)*k=i*k+k:=Nat.succ_mul i k;have m2:(c+1)*k=c*k+k:=Nat.succ_mul c k;have m3:i*k<=c*k:=Ow k (by omega);have m4:(c+1)*k<=G*k:=Ow k yO;have m5:(c-i)*k=c*k-i*k:=Nat.sub_mul c i k;obtain⟨W1,cQ⟩:∃W1,W1=(w.alloc (By mg T)).drew:=⟨_,rfl⟩;rw[<- cQ];have cI:W1.heap[w.heap.size]?=AI (By mg T (0,0)):=by rw[cQ];exact heap_alloc_new w _
 have yN:∀q,q<w.heap.size->W1.heap[q]?=w.heap[q]?:=λq hq=>by rw[cQ];exact Below.heap_alloc w _ q hq
 have Ap:W1.heap[vb]?=AI (By vs.toArray T (0,0)):=by rw[yN vb LU];exact hv
 obtain⟨C1,Py⟩:∃C1:Array Value,C1=(mg.toList.take (i*k)++vs++mg.toList.drop (i*k+vs.length)).toArray:=⟨_,rfl⟩;obtain⟨W2,bL⟩:∃W2,W2=W1.setRow w.heap.size C1:=⟨_,rfl⟩;have dS:W2.drew.heap[w.heap.size]?=AI (By C1 T (0,0)):=by rw[bL];exact setRow_heap W1 w.heap.size mg C1 T (0,0) cI
 have fB:∀q,q<w.heap.size->W2.drew.heap[q]?=w.heap[q]?:=λq hq=>by
  have:=setRow_other W1 w.heap.size q C1 (by omega);rw[<- bL] at this;exact this.trans (yN q hq)
 have fh:C1.size=G*k:=by
  rw[Py];simp only[JW,Ih,IB,JL,IS,kY,Ao];omega
 have Mx:((cur.toList.take (c*k)).drop (i*k)).length=(c-i)*k:=by
  simp only[JL,IB,IS];omega
 have hX1:∀v∈(cur.toList.take (c*k)).drop (i*k),v.oneCell'=true:=λv hv=>lH v (QR hv);have hXs:=Hb (w:=W2.drew) (i:=i*k) (n:=c*k) ((fB g wF).trans hg);generalize hX:(cur.toList.take (c*k)).drop (i*k)=X at *;obtain⟨C2,Hc⟩:∃C2:Array Value,C2=(C1.toList.take ((i+1)*k)++X++C1.toList.drop ((i+1)*k+X.length)).toArray:=⟨_,rfl⟩;obtain⟨W3,ep⟩:∃W3,W3=W2.drew.setRow w.heap.size C2:=⟨_,rfl⟩;refine⟨W2,W3,λty dc=>?_,λty dc sc=>?_,C2,by rw[ep];exact setRow_heap W2.drew w.heap.size C1 C2 T (0,0) dS,?_,?_,⟨by rw[ep,bL,cQ];rfl,by rw[ep,bL,cQ];rfl,by rw[ep,bL,cQ];rfl,by rw[ep,bL,cQ];simp[World.setRow],λq hq _=>by rw[ep,setRow_other W2.drew w.heap.size q C2 (by omega),fB q hq]⟩⟩
 .rw[bL,Py]
  exact lj W1 S S ty T w.heap.size (i*k) (c+1-i) dc ⟨vb,0,be⟩ 1 1 k mg T vs hu cC cI (by rw[kY,show Nat.min 1 (c+1-i)=1 by simp only[Nat.min_def];split<;>omega,Q6]) (λj v hj=>by rw[I9,ae Ap];simpa using hj) (by rw[kY,Ao];omega) mC
 .rw[ep,Hc]
  exact lj W2.drew S S ty T w.heap.size ((i+1)*k) (c-i) dc ⟨g,i*k,be⟩ (c-i) sc k C1 T X hu cC dS (by rw[Mx];congr 1;simp only[Nat.min_def];split<;>omega) hXs (by rw[Mx,fh];omega) hX1
 .rw[Hc];simp only[JW,Ih,IB,JL,IS,Mx,fh];omega
 .have e1:C1.toList.take ((i+1)*k)=cur.toList.take (i*k)++vs:=by
   rw[Py,DV];exact OC (by simp only[Ih,IB,IS,bZ,kY];omega)
  rw[Hc,e1];exact OC (by simp only[Ih,IB,IS,bZ,kY,Mx];omega)
end
end Go.Proofs.YtfidhgjmifendaaGreatDoor
namespace Go.Proofs.YtfidhgjmifendaaGreatDoor
namespace Gw
open Go.RowKit
structure bC where
 aC:ByteArray
 addr:Int
 version:Int
def dm:bC:=⟨Iw,0,0⟩
def bC.ok(m:bC):Prop:=m.aC.size<=Io
theorem sx:dm.ok:=by simp[bC.ok,dm]
abbrev As(w:World)(b o:Nat)(m:bC):Prop:=w.cell? ⟨b,o,be⟩=AI (Y m.aC)/\w.cell? ⟨b,o+1,be⟩=AI (U O m.addr)/\w.cell? ⟨b,o+2,be⟩=AI (U O m.version)
theorem As.re{w:World}{b o:Nat}{m:bC}(h:As w b o m):∀d os,As (Go.Sort.grow (redrawn w d) os) b o m:=λd os=>by
 obtain⟨c0,c1,c2⟩:=h;exact⟨Ig c0 d os,Ig c1 d os,Ig c2 d os⟩
theorem As.eq{w w':World}{b o:Nat}{m:bC}(h:As w b o m)(e:∀o,w'.cell? ⟨b,o,be⟩=w.cell? ⟨b,o,be⟩):As w' b o m:=by
 obtain⟨c0,c1,c2⟩:=h;exact⟨(e _).trans c0,(e _).trans c1,(e _).trans c2⟩
def Row(w:World)(b off:Nat)(ms:List bC):Prop:=∀j,j<ms.length->As w b (off+j*3) (ms.getD j dm)
def Sl(w:World)(v:Value)(ms:List bC):Prop:=
 ∃(a:Option Addr) (cap:Nat),v=J a ms.length cap/\(∀j,(ms.getD j dm).ok) /\
  (ms=[]\/∃b off,a=AI ⟨b,off,be⟩/\b<w.heap.size/\Row w b off ms)
def bC.cs(m:bC):List Value:=[Y m.aC,U O m.addr,U O m.version]
def fl(ms:List bC):List Value:=ms.flatMap bC.cs
theorem bB(m:bC):m.cs.length=3:=rfl
theorem aZ(m:bC)(r:List bC):fl (m::r)=m.cs++fl r:=by simp[fl]
theorem cD(a b:List bC):fl (a++b)=fl a++fl b:=by simp[fl]
theorem cM:∀ms:List bC,(fl ms).length=ms.length*3
 |[]=>rfl
 |m::r=>by rw[aZ,Ih,cM r,bB,Iz];omega
theorem eY:∀(ms:List bC) (i:Nat),(fl ms).take (i*3)=fl (ms.take i)
 |[],i=>by simp[fl]
 |m::r,0=>by simp[fl]
 |m::r,i+1=>by
  rw[aZ,Od,aZ,show(i+1)*3=m.cs.length+i*3 by rw[bB];omega,JX,eY r i]
theorem eZ:∀(ms:List bC) (i:Nat),(fl ms).drop (i*3)=fl (ms.drop i)
 |[],i=>by simp[fl]
 |m::r,0=>by simp
 |m::r,i+1=>by
  rw[aZ,Oe,show(i+1)*3=m.cs.length+i*3 by rw[bB];omega,JY,eZ r i]
theorem db(m:bC):∀v∈m.cs,v.oneCell'=true:=by
 intro v hv;simp[bC.cs] at hv;rcases hv with rfl|rfl|rfl<;>rfl
theorem gJ(ms:List bC):∀v∈fl ms,v.oneCell'=true:=by
 intro v hv;obtain⟨m,_,h⟩:=Qc.1 hv;exact db m v h
theorem ec(ms:List bC)(j:Nat)(hj:j<ms.length)(t:Nat)(ht:t<3):(fl ms)[j*3+t]?=(ms.getD j dm).cs[t]?:=by
 induction ms generalizing j with
 |nil=>simp at hj
 |cons m r ih=>
  rw[aZ];cases j with
  |zero=>rw[Js (by rw[bB];omega)];simp
  |succ j=>
   rw[Jr (by rw[bB];omega),bB,show(j+1)*3+t-3=j*3+t by omega,ih j (by simpa using hj)];simp
theorem nQ(ms:List bC)(p:Nat)(hp:p<ms.length)(m:bC):((((fl ms).set (p*3) (Y m.aC)).set (p*3+1) (U O m.addr)).set (p*3+2) (U O m.version))=fl (ms.set p m):=by
 induction ms generalizing p with
 |nil=>simp at hp
 |cons x r ih=>
  cases p with
  |zero=>simp[fl,bC.cs]
  |succ p=>
   have Mj:=ih p (by simpa using hp);rw[Oq,aZ,aZ,<- Mj];simp only[Nat.add_mul,Q6];have e:∀(l:List Value) (k:Nat) (v:Value),(x.cs++l).set (k+3) v=x.cs++l.set k v:=λl k v=>by
    rw[Q7,if_neg (by rw[bB];omega),bB,Qn]
   have c:∀i:Nat,p*3+3+i=(p*3+i)+3:=λi=>by omega
   simp only[c];rw[e,e,e]
abbrev Own(base:Nat)(w:World)(v:Value)(ms:List bC):Prop:=w.ownsRow base 77 3 v ms.length (fl ms)
theorem ic{base g G:Nat}{w:World}{cur:Array Value}{ms:List bC}(hb:base<=g)(hg:w.heap[g]?=AI (By cur 77 (0,0)))(hs:cur.size=G*3)(hn:ms.length<=G)(hG:G<=Io)(ht:cur.toList.take (ms.length*3)=fl ms) :
 Own base w (J (AI ⟨g,0,be⟩) ms.length G) ms:=⟨cM ms,.inr ⟨g,G,cur,rfl,hb,hg,hn,hG,hs,ht⟩⟩
theorem Own.sl{base:Nat}{w:World}{v:Value}{ms:List bC}(h:Own base w v ms)(hs:∀j,(ms.getD j dm).ok):Sl w v ms:=by
 rcases h.2 with⟨rfl,h0⟩|⟨g,c,cur,rfl,ey,hg,fK,dN,bZ,bf⟩
 .exact⟨be,0,by rw[h0],hs,.inl (Jd h0)⟩
 .refine⟨_,c,rfl,hs,.inr ⟨g,0,rfl,(BY.1 hg).1,λj hj=>?_⟩⟩
  have hc:∀t,t<3->w.cell? ⟨g,0+j*3+t,be⟩=(ms.getD j dm).cs[t]?:=λt ht=>by
   rw[ae hg,<- ec ms j hj t ht,<- bf,IM (by omega)];simp
  exact⟨hc 0 (by omega),hc 1 (by omega),hc 2 (by omega)⟩
theorem Own.below{base:Nat}{w w':World}{v:Value}{ms:List bC}(h:Own base w v ms)(hb:Below w.heap.size w w'):Own base w' v ms:=by
 rcases h.2 with⟨rfl,h0⟩|⟨g,c,cur,rfl,ey,hg,fK,dN,bZ,bf⟩
 .exact⟨h.1,.inl ⟨rfl,h0⟩⟩
 .have aR:=(BY.1 hg).1
  exact⟨h.1,.inr ⟨g,c,cur,rfl,ey,(hb.block g aR).trans hg,fK,dN,bZ,bf⟩⟩
theorem Own.lt{base:Nat}{w:World}{v:Value}{ms:List bC}(h:Own base w v ms)(k:Nat)(hk:v.ownBlock=AI k):base<=k/\k<w.heap.size:=OI h k hk
theorem fe{base:Nat}{w w1 w2:World}{v:Value}{ms:List bC}(hb:Below base w w1)(h:Own base w1 v ms)(hg:w1.grownBy w2 v.ownBlock)(hbase:base<=w1.heap.size):Below base w w2:=
 hb.grown hg hbase (λk hk=>(h.lt k hk).1)
theorem ez{base g c:Nat}{w:World}{ms:List bC}(h:Own base w (J (AI ⟨g,0,be⟩) ms.length c) ms)(j:Nat)(hj:j<ms.length) :
 As w g (j*3) (ms.getD j dm):=by
 rcases h.2 with⟨h1,_⟩|⟨g',c',cur,h1,ey,hg,fK,dN,bZ,bf⟩
 .cases h1
 .simp only[Value.slice.injEq,Option.some.injEq,Addr.mk.injEq] at h1
  obtain⟨⟨rfl,_,_⟩,_,_⟩:=h1;have hc:∀t,t<3->w.cell? ⟨g,j*3+t,be⟩=(ms.getD j dm).cs[t]?:=λt ht=>by
   rw[ae hg,<- ec ms j hj t ht,<- bf,IM (by omega)];simp
  exact⟨hc 0 (by omega),hc 1 (by omega),hc 2 (by omega)⟩
theorem jH{base:Nat}{w:World}{v:Value}{ms:List bC}(h:Own base w v ms)(p:Nat)(hp:p<ms.length):∃g c,v=J (AI ⟨g,0,be⟩) ms.length c:=by
 rcases h.2 with⟨_,h0⟩|⟨g,c,cur,h1,_⟩
 .omega
 .exact⟨g,c,h1⟩
theorem lq{base g c p:Nat}{W:World}{ms:List bC}(h:Own base W (J (AI ⟨g,0,be⟩) ms.length c) ms)(hp:p<ms.length)(m:bC) :
 Own base (((W.setCell ⟨g,p*3,be⟩ (Y m.aC)).setCell ⟨g,p*3+1,be⟩ (U O m.addr)).setCell ⟨g,p*3+2,be⟩ (U O m.version)) (J (AI ⟨g,0,be⟩) ms.length c) (ms.set p m):=by
 have h1:=IK h (p*3) (Y m.aC);have h2:=IK h1.1 (p*3+1) (U O m.addr);have h3:=IK h2.1 (p*3+2) (U O m.version);have e:=h3.1;rw[nQ ms p hp m] at e;show J2 _ _ _ _ _ (ms.set p m).length _;rw[IT];exact e
theorem Sl.below{w w':World}{v:Value}{ms:List bC}(h:Sl w v ms)(hb:Below w.heap.size w w'):Sl w' v ms:=by
 obtain⟨a,cap,rfl,hs,h⟩:=h;refine⟨a,cap,rfl,hs,?_⟩;rcases h with h|⟨b,off,rfl,aR,hr⟩
 .exact .inl h
 .refine .inr ⟨b,off,rfl,IJ aR hb.size,λj hj=>?_⟩
  exact(hr j hj).eq (λo=>(cj hb).1 b o aR)
theorem Row.later{w w':World}{b off:Nat}{ms:List bC}(hr:Row w b off ms)(hb:Below w.heap.size w w')(aR:b<w.heap.size):Row w' b off ms:=λj hj=>(hr j hj).eq (λo=>(cj hb).1 b o aR)
theorem Own.mono{base iK:Nat}{w:World}{v:Value}{ms:List bC}(h:Own base w v ms)(hb:iK<=base):Own iK w v ms:=by
 rcases h.2 with⟨rfl,h0⟩|⟨g,c,cur,rfl,ey,hg,fK,dN,bZ,bf⟩
 .exact⟨h.1,.inl ⟨rfl,h0⟩⟩
 .exact⟨h.1,.inr ⟨g,c,cur,rfl,Ir hb ey,hg,fK,dN,bZ,bf⟩⟩
theorem bX(base:Nat)(w:World):Own base w (J be 0 0) []:=J3 w base 77 3
theorem dt{ms:List bC}(h:∀j,(ms.getD j dm).ok):∀m∈ms,(m).ok:=by
 intro m hm;obtain⟨j,hj,rfl⟩:=I3 hm;have:=h j;simpa[Iq,Ie hj] using this
theorem cy{ms:List bC}(h:∀m∈ms,(m).ok):∀j,(ms.getD j dm).ok:=by
 intro j;by_cases hj:j<ms.length
 .have:=h ms[j] (IG hj)
  simpa[Iq,Ie hj] using this
 .rw[Iq,I0 (Qd hj)];exact sx
theorem bF{base:Nat}{w:World}{v:Value}{ms:List bC}(h:Own base w v ms)(hs:∀m∈ms,(m).ok):Sl w v ms:=h.sl (cy hs)
theorem nT(w:World)(b cap:Nat)(m:bC)(hm:(m).ok)(hg:w.heap[b]?=AI (By #[Y m.aC,U O m.addr,U O m.version] 77 (0,0))):Sl w (J (AI ⟨b,0,be⟩) 1 cap) [m]:=by
 refine⟨_,cap,rfl,cy (λx hx=>by simp at hx;subst hx;exact hm),.inr ⟨b,0,rfl,(BY.1 hg).1,λj hj=>?_⟩⟩
 have:j=0:=by simpa using hj
 subst this;exact⟨ae hg (0+0*3),ae hg (0+0*3+1),ae hg (0+0*3+2)⟩
theorem jI{base:Nat}{w:World}{v:Value}{L:List bC}{m:bC}(h:w.ownsRow base 77 3 v (L.length+1) (fl L++m.cs)):Own base w v (L++[m]):=by
 have e:fl (L++[m])=fl L++m.cs:=by rw[cD,aZ];simp[fl]
 show w.ownsRow base 77 3 v (L++[m]).length (fl (L++[m]));rw[e,Ih];exact h
end Gw
namespace Gw
open Go.RowKit
theorem Tryz.qo:(Tryz.prog.info? 77).map (λi=>(i.zero,i.size,i.bytes))=AI (AI (.agg #[Y ⟨#[]⟩,U O 0,U O 0]),3,32):=by kernel_rfl
theorem Hd:(Tryz.prog.info? 77).map (·.size)=AI 3:=by
 obtain⟨i,hi,h1,h2,h3⟩:=I6 Tryz.qo;rw[hi];simp[h2]
theorem sizeOf77(w:World):(Go.sizeOf 77).run AS w=.ok 3 w:=by
 obtain⟨i,hi,h1,h2,h3⟩:=I6 Tryz.qo;simp[Go.sizeOf,typeInfo,hi,h2]
theorem eK(w:World)(g vb o lb cb:Nat)(cur vs:Array Value)(hg:w.heap[g]?=AI (By cur 77 (0,0)))(hv:w.heap[vb]?=AI (By vs 77 (0,0)))(aT:vb≠g)(hk:cur.size≠0) : (callFunc 248 #[J (AI ⟨vb,0,be⟩) 1 1,J (AI ⟨g,o,be⟩) lb cb]).run AS w=.ok (.value (Ia false)) w:=by
 rw[OE Tryz.func248 (by kernel_rfl) (by kernel_rfl) (by kernel_rfl) (e:=Ov #[37,37] #[4]) (by kernel_rfl),
  Qv w 37 4 77 J6 3 sizeOf77 ⟨vb,0,be⟩ ⟨g,o,be⟩ 1 1 lb cb aT 77 77 vs.size cur.size (by simp[OV,hv]) (by simp[OV,hg]) hk (by simp[Is,hv]) (by simp[Is,hv])]
 rfl
theorem fi(g n c i vb:Nat)(cur:Array Value)(vs:List Value)(w:World)(hg:w.heap[g]?=AI (By cur 77 (0,0)))(bZ:cur.size=c*3)(hi:i<n)(du:n+1<=c)(Ba:c<=9223372036854775807)(o5:vb≠g)(hv:w.heap[vb]?=AI (By vs.toArray 77 (0,0)))(kY:vs.length=3)(lH:∀v∈cur.toList.take (n*3),v.oneCell'=true)(mC:∀v∈vs,v.oneCell'=true) :
 aF 216 #[J (AI ⟨g,0,be⟩) n c,U O i,J (AI ⟨vb,0,be⟩) 1 1] w λe w'=>e=AT (J (AI ⟨g,0,be⟩) (n+1) c) /\
  ∃dP:Array Value,w'.heap[g]?=AI (By dP 77 (0,0))/\dP.size=c*3/\dP.toList.take ((n+1)*3)=cur.toList.take (i*3)++vs++(cur.toList.take (n*3)).drop (i*3)/\w.grownBy w' (AI g):=by
 have RX:=λo lb cb=>eK w g vb o lb cb cur vs.toArray hg hv o5 (by omega);have ny:¬ ((i:Int)=(n:Int)):=by omega
 have aI:¬ (c=i+1):=by omega
 have eP:¬ (c=i):=by omega
 have bU:(i:Int)<=(n:Int)+1:=by omega
 obtain⟨W1,W2,og,sU,HF⟩:=o0 J6 Hd hg bZ hi du o5 hv kY lH mC;have HF:Hid _:=HF;clear lH mC hg hv;have My:IntKind.i64.wrap ((i:Int)+1)=(i:Int)+1:=by rw[IY];omega
 have aB:(0:Int)<=(i:Int)+1:=by omega
 have nK:i<=n:=by omega
 have DW:((i:Int)+1).toNat=i+1:=by omega
 go_enter Tryz.func216,Tryz.ntmps216;go_wp2_with (simp only[RX]);go_region_law (refine dj rfl _ _ 37 37 rfl _ _ (by simp[No,Om]) (by simp[No,Om]) (og _ _ _) ?_)
 go_wp2_with fail;go_ret;exact⟨rfl,HF.out⟩
theorem fj(g n c i vb:Nat)(cur:Array Value)(vs:List Value)(w:World)(hg:w.heap[g]?=AI (By cur 77 (0,0)))(bZ:cur.size=c*3)(hi:i<n)(fK:n<=c)(du:c<n+1)(Ba:n<=1000)(hv:w.heap[vb]?=AI (By vs.toArray 77 (0,0)))(kY:vs.length=3)(lH:∀v∈cur.toList.take (n*3),v.oneCell'=true)(mC:∀v∈vs,v.oneCell'=true) :
 aF 216 #[J (AI ⟨g,0,be⟩) n c,U O i,J (AI ⟨vb,0,be⟩) 1 1] w λe w'=>∃G,e=AT (J (AI ⟨w.heap.size,0,be⟩) (n+1) G)/\n+1<=G/\G<=Io /\
  ∃dP:Array Value,w'.heap[w.heap.size]?=AI (By dP 77 (0,0))/\dP.size=G*3/\dP.toList.take ((n+1)*3)=cur.toList.take (i*3)++vs++(cur.toList.take (n*3)).drop (i*3)/\w.grownBy w' be:=by
 obtain⟨i0,fW,dd,gY,gG⟩:=I6 Tryz.qo;have Bb:c=n:=by omega
 subst Bb;have ny:¬ ((i:Int)=(c:Int)):=by omega
 have qb:(c:Int)<(c:Int)+1:=by omega
 have rZ:(c:Int)+1-(i:Int)=((c+1-i:Nat):Int):=by omega
 have Bc:i+(c+1-i)=c+1:=by omega
 have hold:(Ql i0.size i (J (AI ⟨g,0,be⟩) i c)).run AS w.drew=.ok (cur.toList.take (i*3)).toArray w.drew:=by
  rw[gY];exact Q0 w.drew 3 i ⟨g,0,be⟩ i c (cur.toList.take (i*3)) (by rw[IB,IS];omega) (λj v hj=>by
   have e:w.drew.cell? ((⟨g,0,be⟩:Addr).add j)=cur[j]?:=by rw[I9,ID];exact ae hg _
   rw[e];rw[Qp] at hj;split at hj
   .simpa using hj
   .cases hj)
 have wQ:∀ty,∃G mg,c+1<=G/\G<=Io/\mg.size=G*3/\mg.toList.take (i*3)=cur.toList.take (i*3)/\(Q8 #[37,3] ty #[J (AI ⟨g,0,be⟩) i c,U O ((c:Int)+1-(i:Int))]).run AS w =
  .ok (J (AI ⟨w.heap.size,0,be⟩) (c+1) G) (w.drew.alloc (By mg 77)):=λty=>by
  have h:=O7 w 37 3 ty 77 i0 _ O O J6 IF fW dd (AI ⟨g,0,be⟩) i c (cur.toList.take (i*3)) hold (c+1-i) (by omega) (by omega) (by omega) (by omega) (by rw[gG];omega) (by rw[gG,Bc];exact growslice_fits du (by omega));rw[Bc] at h;rw[rZ];have h1:=grownCap_ge w (c+1) c 77;refine⟨_,_,h1,Ug w (c+1) c 77 (by unfold Io;omega),?_,?_,h⟩
  .simp only[Array.size_append,JW,size_zeroCells,IB,IS,bZ,Value.cells]
   simp;omega
  .simp only[Q1,Ip]
   exact OC (by simp only[IB,IS,bZ];omega)
 obtain⟨G,mg,yO,wR,Ao,DV,wQ⟩:=wQ 37;have RY:G<=9223372036854775807:=by unfold Io at wR;omega
 obtain⟨W2,W3,og,sU,HF⟩:=o6 J6 Hd hg bZ hi hv kY lH mC yO Ao DV;obtain⟨W1,cQ⟩:∃W1,W1=(w.alloc (By mg 77)).drew:=⟨_,rfl⟩;have He:w.drew.alloc (By mg 77)=W1:=by rw[cQ];rfl
 rw[He] at wQ;rw[<- cQ] at og;have HF:Hid _:=HF;have My:IntKind.i64.wrap ((i:Int)+1)=(i:Int)+1:=by rw[IY];omega
 have aB:(0:Int)<=(i:Int)+1:=by omega
 have nK:i<=c:=by omega
 have DW:((i:Int)+1).toNat=i+1:=by omega
 have hGi:¬ (G=i):=by omega
 have RZ:¬ (G=i+1):=by omega
 have hci:¬ (c=i):=by omega
 clear cQ lH mC He Ao DV rZ Bc hold hg hv fW dd gY gG;go_enter Tryz.func216,Tryz.ntmps216;go_wp2_with (at_builtin;refine QD _ rfl _ _ _ _ rfl _ _ rfl rfl _ _ wQ ?_);go_region_law (refine dj rfl _ _ 37 37 rfl _ _ (by simp[No,Om]) (by simp[No,Om]) (sU _ _ _) ?_)
 go_wp2_with fail;go_ret;exact⟨G,rfl,yO,wR,HF.out⟩
theorem fZ(base n vb:Nat)(v:Value)(xs vs:List Value)(w:World)(hown:w.ownsRow base 77 3 v n xs)(hn:n<=1000)(hbase:base<=w.heap.size)(hv:w.heap[vb]?=AI (By vs.toArray 77 (0,0)))(kY:vs.length=3)(mC:∀v∈vs,v.oneCell'=true) :
 aF 216 #[v,U O n,J (AI ⟨vb,0,be⟩) 1 1] w λe w'=>∃v',e=AT v'/\w'.ownsRow base 77 3 v' (n+1) (xs++vs)/\w.grownBy w' v.ownBlock:=by
 obtain⟨i0,fW,dd,gY,gG⟩:=I6 Tryz.qo;have hnews:∀j u,vs[j]?=AI u->w.cell? ((⟨vb,0,be⟩:Addr).add j)=AI u:=λj v hj=>by rw[I9,ae hv];simpa using hj
 have HO:Hid (w.ownsRow base 77 3 v n xs):=hown;rcases hown.2 with⟨rfl,rfl⟩|⟨g,c,cur,rfl,_,_,fK,dN,_,_⟩;rotate_left;unfold Io at dN;by_cases Bb:c=n;subst Bb;all_goals
  clear hown hv;go_enter Tryz.func216,Tryz.ntmps216;go_wp2_with (at_builtin;refine Ja _ rfl _ _ 37 rfl base 77 i0 _ 3 32 J6 fW dd gY gG rfl (by omega) _ _ xs rfl HO.out ⟨vb,0,be⟩ 1 1 vs rfl (by omega) hnews mC (by unfold Io;omega) (by omega) hbase ?_);intro v' w' r1 r2 r3;go_wp2_with fail;go_ret;exact⟨v',rfl,r1,r2⟩
theorem fk(base i vb:Nat)(v:Value)(ms:List bC)(m:bC)(w:World)(hown:Own base w v ms)(hi:i<=ms.length)(hn:ms.length<=1000)(hbase:base<=w.heap.size)(hv:w.heap[vb]?=AI (By m.cs.toArray 77 (0,0)))(aT:v.ownBlock≠AI vb) :
 aF 216 #[v,U O i,J (AI ⟨vb,0,be⟩) 1 1] w λe w'=>∃v',e=AT v'/\Own base w' v' (ms.take i++m::ms.drop i)/\w.grownBy w' v.ownBlock:=by
 have hlen:(ms.take i++m::ms.drop i).length=ms.length+1:=by simp;omega
 have Hf:fl (ms.take i++m::ms.drop i)=(fl ms).take (i*3)++m.cs++(fl ms).drop (i*3):=by rw[cD,aZ,eY,eZ,Ip]
 by_cases nK:i=ms.length
 .subst nK
  refine(fZ base ms.length vb v (fl ms) m.cs w hown hn hbase hv rfl (db m)).mono ?_;rintro e w' ⟨v',rfl,h1,h2⟩;refine⟨v',rfl,?_,h2⟩;have e1:ms.take ms.length++m::ms.drop ms.length=ms++[m]:=by simp
  have e2:fl (ms++[m])=fl ms++m.cs:=by rw[cD,aZ];simp[fl]
  rw[e1];show w'.ownsRow base 77 3 v' (ms++[m]).length (fl (ms++[m]));rw[e2,show(ms++[m]).length=ms.length+1 by simp];exact h1
 .rcases hown.2 with⟨_,h0⟩|⟨g,c,cur,rfl,ey,hg,fK,dN,bZ,bf⟩
  .omega
  .have o5:vb≠g:=λe=>aT (by simp[Jx,e])
   have lH:∀v∈cur.toList.take (ms.length*3),v.oneCell'=true:=by rw[bf];exact gJ ms
   have Mz:cur.toList.take (i*3)=(fl ms).take (i*3):=by rw[<- bf,QJ];congr 1;omega
   have key:∀l:List Value,l=cur.toList.take (i*3)++m.cs++(cur.toList.take (ms.length*3)).drop (i*3)->l=fl (ms.take i++m::ms.drop i):=λl hl=>by rw[hl,Hf,bf,Mz]
   by_cases du:ms.length+1<=c
   .refine(fi g ms.length c i vb cur m.cs w hg bZ (by omega) du (by unfold Io at dN;omega) o5 hv rfl lH (db m)).mono ?_
    rintro e w' ⟨rfl,dP,h1,h2,h3,h4⟩;refine⟨_,rfl,?_,h4⟩;rw[<- hlen];exact ic ey h1 h2 (by omega) dN (key _ (by rw[hlen];exact h3))
   .refine(fj g ms.length c i vb cur m.cs w hg bZ (by omega) fK (by omega) hn hv rfl lH (db m)).mono ?_
    rintro e w' ⟨G,rfl,yO,wR,dP,h1,h2,h3,h4⟩;refine⟨_,rfl,?_,mX h4 _⟩;rw[<- hlen];exact ic hbase h1 h2 (by omega) wR (key _ (by rw[hlen];exact h3))
end Gw
end Go.Proofs.YtfidhgjmifendaaGreatDoor
namespace Go.Proofs.YtfidhgjmifendaaGreatDoor
open Go.RowKit
structure Mem where
 name:ByteArray
 state:Int
 aM:Int
 addr:Int
 server:Bool
def dm:Mem:=⟨Iw,0,0,0,false⟩
abbrev As(w:World)(b o:Nat)(m:Mem):Prop:=w.cell? ⟨b,o,be⟩=AI (Y m.name)/\w.cell? ⟨b,o+1,be⟩=AI (U O m.state)/\w.cell? ⟨b,o+2,be⟩=AI (U O m.aM)/\w.cell? ⟨b,o+3,be⟩=AI (U O m.addr)/\w.cell? ⟨b,o+4,be⟩=AI (Ia m.server)
theorem As.re{w:World}{b o:Nat}{m:Mem}(h:As w b o m):∀d os,As (Go.Sort.grow (redrawn w d) os) b o m:=λd os=>by
 obtain⟨c0,c1,c2,c3,c4⟩:=h;exact⟨Ig c0 d os,Ig c1 d os,Ig c2 d os,Ig c3 d os,Ig c4 d os⟩
theorem As.eq{w w':World}{b o:Nat}{m:Mem}(h:As w b o m)(e:∀o,w'.cell? ⟨b,o,be⟩=w.cell? ⟨b,o,be⟩):As w' b o m:=by
 obtain⟨c0,c1,c2,c3,c4⟩:=h;exact⟨(e _).trans c0,(e _).trans c1,(e _).trans c2,(e _).trans c3,(e _).trans c4⟩
def Row(w:World)(b off:Nat)(ms:List Mem):Prop:=∀j,j<ms.length->As w b (off+j*5) (ms.getD j dm)
def Sl(w:World)(v:Value)(ms:List Mem):Prop:=
 ∃(a:Option Addr) (cap:Nat),v=J a ms.length cap/\(∀j,(ms.getD j dm).name.size<=Io) /\
  (ms=[]\/∃b off,a=AI ⟨b,off,be⟩/\b<w.heap.size/\Row w b off ms)
def Mem.cs(m:Mem):List Value:=[Y m.name,U O m.state,U O m.aM,U O m.addr,Ia m.server]
def fl(ms:List Mem):List Value:=ms.flatMap Mem.cs
theorem bB(m:Mem):m.cs.length=5:=rfl
theorem aZ(m:Mem)(r:List Mem):fl (m::r)=m.cs++fl r:=by simp[fl]
theorem cD(a b:List Mem):fl (a++b)=fl a++fl b:=by simp[fl]
theorem cM:∀ms:List Mem,(fl ms).length=ms.length*5
 |[]=>rfl
 |m::r=>by rw[aZ,Ih,cM r,bB,Iz];omega
theorem eY:∀(ms:List Mem) (i:Nat),(fl ms).take (i*5)=fl (ms.take i)
 |[],i=>by simp[fl]
 |m::r,0=>by simp[fl]
 |m::r,i+1=>by
  rw[aZ,Od,aZ,show(i+1)*5=m.cs.length+i*5 by rw[bB];omega,JX,eY r i]
theorem eZ:∀(ms:List Mem) (i:Nat),(fl ms).drop (i*5)=fl (ms.drop i)
 |[],i=>by simp[fl]
 |m::r,0=>by simp
 |m::r,i+1=>by
  rw[aZ,Oe,show(i+1)*5=m.cs.length+i*5 by rw[bB];omega,JY,eZ r i]
theorem db(m:Mem):∀v∈m.cs,v.oneCell'=true:=by
 intro v hv;simp[Mem.cs] at hv;rcases hv with rfl|rfl|rfl|rfl|rfl<;>rfl
theorem gJ(ms:List Mem):∀v∈fl ms,v.oneCell'=true:=by
 intro v hv;obtain⟨m,_,h⟩:=Qc.1 hv;exact db m v h
theorem ec(ms:List Mem)(j:Nat)(hj:j<ms.length)(t:Nat)(ht:t<5):(fl ms)[j*5+t]?=(ms.getD j dm).cs[t]?:=by
 induction ms generalizing j with
 |nil=>simp at hj
 |cons m r ih=>
  rw[aZ];cases j with
  |zero=>rw[Js (by rw[bB];omega)];simp
  |succ j=>
   rw[Jr (by rw[bB];omega),bB,show(j+1)*5+t-5=j*5+t by omega,ih j (by simpa using hj)];simp
theorem nQ(ms:List Mem)(p:Nat)(hp:p<ms.length)(m:Mem):((((((fl ms).set (p*5) (Y m.name)).set (p*5+1) (U O m.state)).set (p*5+2) (U O m.aM)).set (p*5+3) (U O m.addr)).set (p*5+4) (Ia m.server))=fl (ms.set p m):=by
 induction ms generalizing p with
 |nil=>simp at hp
 |cons x r ih=>
  cases p with
  |zero=>simp[fl,Mem.cs]
  |succ p=>
   have Mj:=ih p (by simpa using hp);rw[Oq,aZ,aZ,<- Mj];simp only[Nat.add_mul,Q6];have e:∀(l:List Value) (k:Nat) (v:Value),(x.cs++l).set (k+5) v=x.cs++l.set k v:=λl k v=>by
    rw[Q7,if_neg (by rw[bB];omega),bB,Qn]
   have c:∀i:Nat,p*5+5+i=(p*5+i)+5:=λi=>by omega
   simp only[c];rw[e,e,e,e,e]
abbrev Own(base:Nat)(w:World)(v:Value)(ms:List Mem):Prop:=w.ownsRow base 50 5 v ms.length (fl ms)
theorem ic{base g G:Nat}{w:World}{cur:Array Value}{ms:List Mem}(hb:base<=g)(hg:w.heap[g]?=AI (By cur 50 (0,0)))(hs:cur.size=G*5)(hn:ms.length<=G)(hG:G<=Io)(ht:cur.toList.take (ms.length*5)=fl ms) :
 Own base w (J (AI ⟨g,0,be⟩) ms.length G) ms:=⟨cM ms,.inr ⟨g,G,cur,rfl,hb,hg,hn,hG,hs,ht⟩⟩
theorem Own.sl{base:Nat}{w:World}{v:Value}{ms:List Mem}(h:Own base w v ms)(hs:∀j,(ms.getD j dm).name.size<=Io):Sl w v ms:=by
 rcases h.2 with⟨rfl,h0⟩|⟨g,c,cur,rfl,ey,hg,fK,dN,bZ,bf⟩
 .exact⟨be,0,by rw[h0],hs,.inl (Jd h0)⟩
 .refine⟨_,c,rfl,hs,.inr ⟨g,0,rfl,(BY.1 hg).1,λj hj=>?_⟩⟩
  have hc:∀t,t<5->w.cell? ⟨g,0+j*5+t,be⟩=(ms.getD j dm).cs[t]?:=λt ht=>by
   rw[ae hg,<- ec ms j hj t ht,<- bf,IM (by omega)];simp
  exact⟨hc 0 (by omega),hc 1 (by omega),hc 2 (by omega),hc 3 (by omega),hc 4 (by omega)⟩
theorem Own.below{base:Nat}{w w':World}{v:Value}{ms:List Mem}(h:Own base w v ms)(hb:Below w.heap.size w w'):Own base w' v ms:=by
 rcases h.2 with⟨rfl,h0⟩|⟨g,c,cur,rfl,ey,hg,fK,dN,bZ,bf⟩
 .exact⟨h.1,.inl ⟨rfl,h0⟩⟩
 .have aR:=(BY.1 hg).1
  exact⟨h.1,.inr ⟨g,c,cur,rfl,ey,(hb.block g aR).trans hg,fK,dN,bZ,bf⟩⟩
theorem Own.lt{base:Nat}{w:World}{v:Value}{ms:List Mem}(h:Own base w v ms)(k:Nat)(hk:v.ownBlock=AI k):base<=k/\k<w.heap.size:=OI h k hk
theorem fe{base:Nat}{w w1 w2:World}{v:Value}{ms:List Mem}(hb:Below base w w1)(h:Own base w1 v ms)(hg:w1.grownBy w2 v.ownBlock)(hbase:base<=w1.heap.size):Below base w w2:=
 hb.grown hg hbase (λk hk=>(h.lt k hk).1)
theorem ez{base g c:Nat}{w:World}{ms:List Mem}(h:Own base w (J (AI ⟨g,0,be⟩) ms.length c) ms)(j:Nat)(hj:j<ms.length) :
 As w g (j*5) (ms.getD j dm):=by
 rcases h.2 with⟨h1,_⟩|⟨g',c',cur,h1,ey,hg,fK,dN,bZ,bf⟩
 .cases h1
 .simp only[Value.slice.injEq,Option.some.injEq,Addr.mk.injEq] at h1
  obtain⟨⟨rfl,_,_⟩,_,_⟩:=h1;have hc:∀t,t<5->w.cell? ⟨g,j*5+t,be⟩=(ms.getD j dm).cs[t]?:=λt ht=>by
   rw[ae hg,<- ec ms j hj t ht,<- bf,IM (by omega)];simp
  exact⟨hc 0 (by omega),hc 1 (by omega),hc 2 (by omega),hc 3 (by omega),hc 4 (by omega)⟩
theorem jH{base:Nat}{w:World}{v:Value}{ms:List Mem}(h:Own base w v ms)(p:Nat)(hp:p<ms.length):∃g c,v=J (AI ⟨g,0,be⟩) ms.length c:=by
 rcases h.2 with⟨_,h0⟩|⟨g,c,cur,h1,_⟩
 .omega
 .exact⟨g,c,h1⟩
theorem lq{base g c p:Nat}{W:World}{ms:List Mem}(h:Own base W (J (AI ⟨g,0,be⟩) ms.length c) ms)(hp:p<ms.length)(m:Mem) :
 Own base (((((W.setCell ⟨g,p*5,be⟩ (Y m.name)).setCell ⟨g,p*5+1,be⟩ (U O m.state)).setCell ⟨g,p*5+2,be⟩ (U O m.aM)).setCell ⟨g,p*5+3,be⟩ (U O m.addr)).setCell ⟨g,p*5+4,be⟩ (Ia m.server)) (J (AI ⟨g,0,be⟩) ms.length c) (ms.set p m):=by
 have h1:=IK h (p*5) (Y m.name);have h2:=IK h1.1 (p*5+1) (U O m.state);have h3:=IK h2.1 (p*5+2) (U O m.aM);have h4:=IK h3.1 (p*5+3) (U O m.addr);have h5:=IK h4.1 (p*5+4) (Ia m.server);have e:=h5.1;rw[nQ ms p hp m] at e;show J2 _ _ _ _ _ (ms.set p m).length _;rw[IT];exact e
theorem Sl.below{w w':World}{v:Value}{ms:List Mem}(h:Sl w v ms)(hb:Below w.heap.size w w'):Sl w' v ms:=by
 obtain⟨a,cap,rfl,hs,h⟩:=h;refine⟨a,cap,rfl,hs,?_⟩;rcases h with h|⟨b,off,rfl,aR,hr⟩
 .exact .inl h
 .refine .inr ⟨b,off,rfl,IJ aR hb.size,λj hj=>?_⟩
  exact(hr j hj).eq (λo=>(cj hb).1 b o aR)
theorem Row.later{w w':World}{b off:Nat}{ms:List Mem}(hr:Row w b off ms)(hb:Below w.heap.size w w')(aR:b<w.heap.size):Row w' b off ms:=λj hj=>(hr j hj).eq (λo=>(cj hb).1 b o aR)
theorem Own.mono{base iK:Nat}{w:World}{v:Value}{ms:List Mem}(h:Own base w v ms)(hb:iK<=base):Own iK w v ms:=by
 rcases h.2 with⟨rfl,h0⟩|⟨g,c,cur,rfl,ey,hg,fK,dN,bZ,bf⟩
 .exact⟨h.1,.inl ⟨rfl,h0⟩⟩
 .exact⟨h.1,.inr ⟨g,c,cur,rfl,Ir hb ey,hg,fK,dN,bZ,bf⟩⟩
theorem bX(base:Nat)(w:World):Own base w (J be 0 0) []:=J3 w base 50 5
theorem dt{ms:List Mem}(h:∀j,(ms.getD j dm).name.size<=Io):∀m∈ms,(m).name.size<=Io:=by
 intro m hm;obtain⟨j,hj,rfl⟩:=I3 hm;have:=h j;simpa[Iq,Ie hj] using this
theorem cy{ms:List Mem}(h:∀m∈ms,(m).name.size<=Io):∀j,(ms.getD j dm).name.size<=Io:=by
 intro j;by_cases hj:j<ms.length
 .have:=h ms[j] (IG hj)
  simpa[Iq,Ie hj] using this
 .simp[Iq,I0 (Qd hj),dm]
theorem bF{base:Nat}{w:World}{v:Value}{ms:List Mem}(h:Own base w v ms)(hs:∀m∈ms,(m).name.size<=Io):Sl w v ms:=h.sl (cy hs)
theorem nT(w:World)(b cap:Nat)(m:Mem)(hm:(m).name.size<=Io)(hg:w.heap[b]?=AI (By #[Y m.name,U O m.state,U O m.aM,U O m.addr,Ia m.server] 50 (0,0))):Sl w (J (AI ⟨b,0,be⟩) 1 cap) [m]:=by
 refine⟨_,cap,rfl,cy (λx hx=>by simp at hx;subst hx;exact hm),.inr ⟨b,0,rfl,(BY.1 hg).1,λj hj=>?_⟩⟩
 have:j=0:=by simpa using hj
 subst this;exact⟨ae hg (0+0*5),ae hg (0+0*5+1),ae hg (0+0*5+2),ae hg (0+0*5+3),ae hg (0+0*5+4)⟩
theorem jI{base:Nat}{w:World}{v:Value}{L:List Mem}{m:Mem}(h:w.ownsRow base 50 5 v (L.length+1) (fl L++m.cs)):Own base w v (L++[m]):=by
 have e:fl (L++[m])=fl L++m.cs:=by rw[cD,aZ];simp[fl]
 show w.ownsRow base 50 5 v (L++[m]).length (fl (L++[m]));rw[e,Ih];exact h
theorem Tryz.oe:(Tryz.prog.info? 50).map (λi=>(i.zero,i.size,i.bytes))=AI (AI (.agg #[Y ⟨#[]⟩,U O 0,U O 0,U O 0,Ia false]),5,48):=by kernel_rfl
theorem Hi:(Tryz.prog.info? 50).map (·.size)=AI 5:=by
 obtain⟨i,hi,h1,h2,h3⟩:=I6 Tryz.oe;rw[hi];simp[h2]
theorem sizeOf50(w:World):(Go.sizeOf 50).run AS w=.ok 5 w:=by
 obtain⟨i,hi,h1,h2,h3⟩:=I6 Tryz.oe;simp[Go.sizeOf,typeInfo,hi,h2]
theorem eK(w:World)(g vb o lb cb:Nat)(cur vs:Array Value)(hg:w.heap[g]?=AI (By cur 50 (0,0)))(hv:w.heap[vb]?=AI (By vs 50 (0,0)))(aT:vb≠g)(hk:cur.size≠0) : (callFunc 272 #[J (AI ⟨vb,0,be⟩) 1 1,J (AI ⟨g,o,be⟩) lb cb]).run AS w=.ok (.value (Ia false)) w:=by
 rw[OE Tryz.func272 (by kernel_rfl) (by kernel_rfl) (by kernel_rfl) (e:=Ov #[34,34] #[4]) (by kernel_rfl),
  Qv w 34 4 50 JN 5 sizeOf50 ⟨vb,0,be⟩ ⟨g,o,be⟩ 1 1 lb cb aT 50 50 vs.size cur.size (by simp[OV,hv]) (by simp[OV,hg]) hk (by simp[Is,hv]) (by simp[Is,hv])]
 rfl
theorem fi(g n c i vb:Nat)(cur:Array Value)(vs:List Value)(w:World)(hg:w.heap[g]?=AI (By cur 50 (0,0)))(bZ:cur.size=c*5)(hi:i<n)(du:n+1<=c)(Ba:c<=9223372036854775807)(o5:vb≠g)(hv:w.heap[vb]?=AI (By vs.toArray 50 (0,0)))(kY:vs.length=5)(lH:∀v∈cur.toList.take (n*5),v.oneCell'=true)(mC:∀v∈vs,v.oneCell'=true) :
 aF 242 #[J (AI ⟨g,0,be⟩) n c,U O i,J (AI ⟨vb,0,be⟩) 1 1] w λe w'=>e=AT (J (AI ⟨g,0,be⟩) (n+1) c) /\
  ∃dP:Array Value,w'.heap[g]?=AI (By dP 50 (0,0))/\dP.size=c*5/\dP.toList.take ((n+1)*5)=cur.toList.take (i*5)++vs++(cur.toList.take (n*5)).drop (i*5)/\w.grownBy w' (AI g):=by
 have RX:=λo lb cb=>eK w g vb o lb cb cur vs.toArray hg hv o5 (by omega);have ny:¬ ((i:Int)=(n:Int)):=by omega
 have aI:¬ (c=i+1):=by omega
 have eP:¬ (c=i):=by omega
 have bU:(i:Int)<=(n:Int)+1:=by omega
 obtain⟨W1,W2,og,sU,HF⟩:=o0 JN Hi hg bZ hi du o5 hv kY lH mC;have HF:Hid _:=HF;clear lH mC hg hv;have My:IntKind.i64.wrap ((i:Int)+1)=(i:Int)+1:=by rw[IY];omega
 have aB:(0:Int)<=(i:Int)+1:=by omega
 have nK:i<=n:=by omega
 have DW:((i:Int)+1).toNat=i+1:=by omega
 go_enter Tryz.func242,Tryz.ntmps242;go_wp2_with (simp only[RX]);go_region_law (refine dj rfl _ _ 34 34 rfl _ _ (by simp[No,Om]) (by simp[No,Om]) (og _ _ _) ?_)
 go_wp2_with fail;go_ret;exact⟨rfl,HF.out⟩
theorem fj(g n c i vb:Nat)(cur:Array Value)(vs:List Value)(w:World)(hg:w.heap[g]?=AI (By cur 50 (0,0)))(bZ:cur.size=c*5)(hi:i<n)(fK:n<=c)(du:c<n+1)(Ba:n<=1000)(hv:w.heap[vb]?=AI (By vs.toArray 50 (0,0)))(kY:vs.length=5)(lH:∀v∈cur.toList.take (n*5),v.oneCell'=true)(mC:∀v∈vs,v.oneCell'=true) :
 aF 242 #[J (AI ⟨g,0,be⟩) n c,U O i,J (AI ⟨vb,0,be⟩) 1 1] w λe w'=>∃G,e=AT (J (AI ⟨w.heap.size,0,be⟩) (n+1) G)/\n+1<=G/\G<=Io /\
  ∃dP:Array Value,w'.heap[w.heap.size]?=AI (By dP 50 (0,0))/\dP.size=G*5/\dP.toList.take ((n+1)*5)=cur.toList.take (i*5)++vs++(cur.toList.take (n*5)).drop (i*5)/\w.grownBy w' be:=by
 obtain⟨i0,fW,dd,gY,gG⟩:=I6 Tryz.oe;have Bb:c=n:=by omega
 subst Bb;have ny:¬ ((i:Int)=(c:Int)):=by omega
 have qb:(c:Int)<(c:Int)+1:=by omega
 have rZ:(c:Int)+1-(i:Int)=((c+1-i:Nat):Int):=by omega
 have Bc:i+(c+1-i)=c+1:=by omega
 have hold:(Ql i0.size i (J (AI ⟨g,0,be⟩) i c)).run AS w.drew=.ok (cur.toList.take (i*5)).toArray w.drew:=by
  rw[gY];exact Q0 w.drew 5 i ⟨g,0,be⟩ i c (cur.toList.take (i*5)) (by rw[IB,IS];omega) (λj v hj=>by
   have e:w.drew.cell? ((⟨g,0,be⟩:Addr).add j)=cur[j]?:=by rw[I9,ID];exact ae hg _
   rw[e];rw[Qp] at hj;split at hj
   .simpa using hj
   .cases hj)
 have wQ:∀ty,∃G mg,c+1<=G/\G<=Io/\mg.size=G*5/\mg.toList.take (i*5)=cur.toList.take (i*5)/\(Q8 #[34,3] ty #[J (AI ⟨g,0,be⟩) i c,U O ((c:Int)+1-(i:Int))]).run AS w =
  .ok (J (AI ⟨w.heap.size,0,be⟩) (c+1) G) (w.drew.alloc (By mg 50)):=λty=>by
  have h:=O7 w 34 3 ty 50 i0 _ O O JN IF fW dd (AI ⟨g,0,be⟩) i c (cur.toList.take (i*5)) hold (c+1-i) (by omega) (by omega) (by omega) (by omega) (by rw[gG];omega) (by rw[gG,Bc];exact growslice_fits du (by omega));rw[Bc] at h;rw[rZ];have h1:=grownCap_ge w (c+1) c 50;refine⟨_,_,h1,Ug w (c+1) c 50 (by unfold Io;omega),?_,?_,h⟩
  .simp only[Array.size_append,JW,size_zeroCells,IB,IS,bZ,Value.cells]
   simp;omega
  .simp only[Q1,Ip]
   exact OC (by simp only[IB,IS,bZ];omega)
 obtain⟨G,mg,yO,wR,Ao,DV,wQ⟩:=wQ 34;have RY:G<=9223372036854775807:=by unfold Io at wR;omega
 obtain⟨W2,W3,og,sU,HF⟩:=o6 JN Hi hg bZ hi hv kY lH mC yO Ao DV;obtain⟨W1,cQ⟩:∃W1,W1=(w.alloc (By mg 50)).drew:=⟨_,rfl⟩;have He:w.drew.alloc (By mg 50)=W1:=by rw[cQ];rfl
 rw[He] at wQ;rw[<- cQ] at og;have HF:Hid _:=HF;have My:IntKind.i64.wrap ((i:Int)+1)=(i:Int)+1:=by rw[IY];omega
 have aB:(0:Int)<=(i:Int)+1:=by omega
 have nK:i<=c:=by omega
 have DW:((i:Int)+1).toNat=i+1:=by omega
 have hGi:¬ (G=i):=by omega
 have RZ:¬ (G=i+1):=by omega
 have hci:¬ (c=i):=by omega
 clear cQ lH mC He Ao DV rZ Bc hold hg hv fW dd gY gG;go_enter Tryz.func242,Tryz.ntmps242;go_wp2_with (at_builtin;refine QD _ rfl _ _ _ _ rfl _ _ rfl rfl _ _ wQ ?_);go_region_law (refine dj rfl _ _ 34 34 rfl _ _ (by simp[No,Om]) (by simp[No,Om]) (sU _ _ _) ?_)
 go_wp2_with fail;go_ret;exact⟨G,rfl,yO,wR,HF.out⟩
theorem fZ(base n vb:Nat)(v:Value)(xs vs:List Value)(w:World)(hown:w.ownsRow base 50 5 v n xs)(hn:n<=1000)(hbase:base<=w.heap.size)(hv:w.heap[vb]?=AI (By vs.toArray 50 (0,0)))(kY:vs.length=5)(mC:∀v∈vs,v.oneCell'=true) :
 aF 242 #[v,U O n,J (AI ⟨vb,0,be⟩) 1 1] w λe w'=>∃v',e=AT v'/\w'.ownsRow base 50 5 v' (n+1) (xs++vs)/\w.grownBy w' v.ownBlock:=by
 obtain⟨i0,fW,dd,gY,gG⟩:=I6 Tryz.oe;have hnews:∀j u,vs[j]?=AI u->w.cell? ((⟨vb,0,be⟩:Addr).add j)=AI u:=λj v hj=>by rw[I9,ae hv];simpa using hj
 have HO:Hid (w.ownsRow base 50 5 v n xs):=hown;rcases hown.2 with⟨rfl,rfl⟩|⟨g,c,cur,rfl,_,_,fK,dN,_,_⟩;rotate_left;unfold Io at dN;by_cases Bb:c=n;subst Bb;all_goals
  clear hown hv;go_enter Tryz.func242,Tryz.ntmps242;go_wp2_with (at_builtin;refine Ja _ rfl _ _ 34 rfl base 50 i0 _ 5 48 JN fW dd gY gG rfl (by omega) _ _ xs rfl HO.out ⟨vb,0,be⟩ 1 1 vs rfl (by omega) hnews mC (by unfold Io;omega) (by omega) hbase ?_);intro v' w' r1 r2 r3;go_wp2_with fail;go_ret;exact⟨v',rfl,r1,r2⟩
theorem fk(base i vb:Nat)(v:Value)(ms:List Mem)(m:Mem)(w:World)(hown:Own base w v ms)(hi:i<=ms.length)(hn:ms.length<=1000)(hbase:base<=w.heap.size)(hv:w.heap[vb]?=AI (By m.cs.toArray 50 (0,0)))(aT:v.ownBlock≠AI vb) :
 aF 242 #[v,U O i,J (AI ⟨vb,0,be⟩) 1 1] w λe w'=>∃v',e=AT v'/\Own base w' v' (ms.take i++m::ms.drop i)/\w.grownBy w' v.ownBlock:=by
 have hlen:(ms.take i++m::ms.drop i).length=ms.length+1:=by simp;omega
 have Hf:fl (ms.take i++m::ms.drop i)=(fl ms).take (i*5)++m.cs++(fl ms).drop (i*5):=by rw[cD,aZ,eY,eZ,Ip]
 by_cases nK:i=ms.length
 .subst nK
  refine(fZ base ms.length vb v (fl ms) m.cs w hown hn hbase hv rfl (db m)).mono ?_;rintro e w' ⟨v',rfl,h1,h2⟩;refine⟨v',rfl,?_,h2⟩;have e1:ms.take ms.length++m::ms.drop ms.length=ms++[m]:=by simp
  have e2:fl (ms++[m])=fl ms++m.cs:=by rw[cD,aZ];simp[fl]
  rw[e1];show w'.ownsRow base 50 5 v' (ms++[m]).length (fl (ms++[m]));rw[e2,show(ms++[m]).length=ms.length+1 by simp];exact h1
 .rcases hown.2 with⟨_,h0⟩|⟨g,c,cur,rfl,ey,hg,fK,dN,bZ,bf⟩
  .omega
  .have o5:vb≠g:=λe=>aT (by simp[Jx,e])
   have lH:∀v∈cur.toList.take (ms.length*5),v.oneCell'=true:=by rw[bf];exact gJ ms
   have Mz:cur.toList.take (i*5)=(fl ms).take (i*5):=by rw[<- bf,QJ];congr 1;omega
   have key:∀l:List Value,l=cur.toList.take (i*5)++m.cs++(cur.toList.take (ms.length*5)).drop (i*5)->l=fl (ms.take i++m::ms.drop i):=λl hl=>by rw[hl,Hf,bf,Mz]
   by_cases du:ms.length+1<=c
   .refine(fi g ms.length c i vb cur m.cs w hg bZ (by omega) du (by unfold Io at dN;omega) o5 hv rfl lH (db m)).mono ?_
    rintro e w' ⟨rfl,dP,h1,h2,h3,h4⟩;refine⟨_,rfl,?_,h4⟩;rw[<- hlen];exact ic ey h1 h2 (by omega) dN (key _ (by rw[hlen];exact h3))
   .refine(fj g ms.length c i vb cur m.cs w hg bZ (by omega) fK (by omega) hn hv rfl lH (db m)).mono ?_
    rintro e w' ⟨G,rfl,yO,wR,dP,h1,h2,h3,h4⟩;refine⟨_,rfl,?_,mX h4 _⟩;rw[<- hlen];exact ic hbase h1 h2 (by omega) wR (key _ (by rw[hlen];exact h3))
end Go.Proofs.YtfidhgjmifendaaGreatDoor
namespace Go.Proofs.YtfidhgjmifendaaGreatDoor
namespace Lt
open Go.RowKit
structure fg where
 to:Int
 text:ByteArray
def dm:fg:=⟨0,Iw⟩
def fg.ok(m:fg):Prop:=m.text.size<=Io
theorem sx:dm.ok:=by simp[fg.ok,dm]
abbrev As(w:World)(b o:Nat)(m:fg):Prop:=w.cell? ⟨b,o,be⟩=AI (U O m.to)/\w.cell? ⟨b,o+1,be⟩=AI (Y m.text)
theorem As.eq{w w':World}{b o:Nat}{m:fg}(h:As w b o m)(e:∀o,w'.cell? ⟨b,o,be⟩=w.cell? ⟨b,o,be⟩):As w' b o m:=by
 obtain⟨c0,c1⟩:=h;exact⟨(e _).trans c0,(e _).trans c1⟩
def Row(w:World)(b off:Nat)(ms:List fg):Prop:=∀j,j<ms.length->As w b (off+j*2) (ms.getD j dm)
def Sl(w:World)(v:Value)(ms:List fg):Prop:=
 ∃(a:Option Addr) (cap:Nat),v=J a ms.length cap/\(∀j,(ms.getD j dm).ok) /\
  (ms=[]\/∃b off,a=AI ⟨b,off,be⟩/\b<w.heap.size/\Row w b off ms)
def fg.cs(m:fg):List Value:=[U O m.to,Y m.text]
def fl(ms:List fg):List Value:=ms.flatMap fg.cs
theorem bB(m:fg):m.cs.length=2:=rfl
theorem aZ(m:fg)(r:List fg):fl (m::r)=m.cs++fl r:=by simp[fl]
theorem cD(a b:List fg):fl (a++b)=fl a++fl b:=by simp[fl]
theorem cM:∀ms:List fg,(fl ms).length=ms.length*2
 |[]=>rfl
 |m::r=>by rw[aZ,Ih,cM r,bB,Iz];omega
theorem eY:∀(ms:List fg) (i:Nat),(fl ms).take (i*2)=fl (ms.take i)
 |[],i=>by simp[fl]
 |m::r,0=>by simp[fl]
 |m::r,i+1=>by
  rw[aZ,Od,aZ,show(i+1)*2=m.cs.length+i*2 by rw[bB];omega,JX,eY r i]
theorem eZ:∀(ms:List fg) (i:Nat),(fl ms).drop (i*2)=fl (ms.drop i)
 |[],i=>by simp[fl]
 |m::r,0=>by simp
 |m::r,i+1=>by
  rw[aZ,Oe,show(i+1)*2=m.cs.length+i*2 by rw[bB];omega,JY,eZ r i]
theorem db(m:fg):∀v∈m.cs,v.oneCell'=true:=by
 intro v hv;simp[fg.cs] at hv;rcases hv with rfl|rfl<;>rfl
theorem gJ(ms:List fg):∀v∈fl ms,v.oneCell'=true:=by
 intro v hv;obtain⟨m,_,h⟩:=Qc.1 hv;exact db m v h
theorem ec(ms:List fg)(j:Nat)(hj:j<ms.length)(t:Nat)(ht:t<2):(fl ms)[j*2+t]?=(ms.getD j dm).cs[t]?:=by
 induction ms generalizing j with
 |nil=>simp at hj
 |cons m r ih=>
  rw[aZ];cases j with
  |zero=>rw[Js (by rw[bB];omega)];simp
  |succ j=>
   rw[Jr (by rw[bB];omega),bB,show(j+1)*2+t-2=j*2+t by omega,ih j (by simpa using hj)];simp
abbrev Own(base:Nat)(w:World)(v:Value)(ms:List fg):Prop:=w.ownsRow base 102 2 v ms.length (fl ms)
theorem Own.sl{base:Nat}{w:World}{v:Value}{ms:List fg}(h:Own base w v ms)(hs:∀j,(ms.getD j dm).ok):Sl w v ms:=by
 rcases h.2 with⟨rfl,h0⟩|⟨g,c,cur,rfl,ey,hg,fK,dN,bZ,bf⟩
 .exact⟨be,0,by rw[h0],hs,.inl (Jd h0)⟩
 .refine⟨_,c,rfl,hs,.inr ⟨g,0,rfl,(BY.1 hg).1,λj hj=>?_⟩⟩
  have hc:∀t,t<2->w.cell? ⟨g,0+j*2+t,be⟩=(ms.getD j dm).cs[t]?:=λt ht=>by
   rw[ae hg,<- ec ms j hj t ht,<- bf,IM (by omega)];simp
  exact⟨hc 0 (by omega),hc 1 (by omega)⟩
theorem Own.below{base:Nat}{w w':World}{v:Value}{ms:List fg}(h:Own base w v ms)(hb:Below w.heap.size w w'):Own base w' v ms:=by
 rcases h.2 with⟨rfl,h0⟩|⟨g,c,cur,rfl,ey,hg,fK,dN,bZ,bf⟩
 .exact⟨h.1,.inl ⟨rfl,h0⟩⟩
 .have aR:=(BY.1 hg).1
  exact⟨h.1,.inr ⟨g,c,cur,rfl,ey,(hb.block g aR).trans hg,fK,dN,bZ,bf⟩⟩
theorem Sl.below{w w':World}{v:Value}{ms:List fg}(h:Sl w v ms)(hb:Below w.heap.size w w'):Sl w' v ms:=by
 obtain⟨a,cap,rfl,hs,h⟩:=h;refine⟨a,cap,rfl,hs,?_⟩;rcases h with h|⟨b,off,rfl,aR,hr⟩
 .exact .inl h
 .refine .inr ⟨b,off,rfl,IJ aR hb.size,λj hj=>?_⟩
  exact(hr j hj).eq (λo=>(cj hb).1 b o aR)
theorem Row.later{w w':World}{b off:Nat}{ms:List fg}(hr:Row w b off ms)(hb:Below w.heap.size w w')(aR:b<w.heap.size):Row w' b off ms:=λj hj=>(hr j hj).eq (λo=>(cj hb).1 b o aR)
theorem Own.mono{base iK:Nat}{w:World}{v:Value}{ms:List fg}(h:Own base w v ms)(hb:iK<=base):Own iK w v ms:=by
 rcases h.2 with⟨rfl,h0⟩|⟨g,c,cur,rfl,ey,hg,fK,dN,bZ,bf⟩
 .exact⟨h.1,.inl ⟨rfl,h0⟩⟩
 .exact⟨h.1,.inr ⟨g,c,cur,rfl,Ir hb ey,hg,fK,dN,bZ,bf⟩⟩
theorem bX(base:Nat)(w:World):Own base w (J be 0 0) []:=J3 w base 102 2
theorem cy{ms:List fg}(h:∀m∈ms,(m).ok):∀j,(ms.getD j dm).ok:=by
 intro j;by_cases hj:j<ms.length
 .have:=h ms[j] (IG hj)
  simpa[Iq,Ie hj] using this
 .rw[Iq,I0 (Qd hj)];exact sx
theorem bF{base:Nat}{w:World}{v:Value}{ms:List fg}(h:Own base w v ms)(hs:∀m∈ms,(m).ok):Sl w v ms:=h.sl (cy hs)
end Lt
namespace Gw
open Go.RowKit
theorem eV(ms:List bC)(v:Value)(w:World)(h:Sl w v ms)(hn:ms.length<=1000) :
 aF 60 #[v] w λe w'=>∃v',e=AT v'/\Own w.heap.size w' v' ms/\Below w.heap.size w w':=by
 obtain⟨a,cap,rfl,hs,h⟩:=h;obtain⟨i0,fW,dd,gY,gG⟩:=I6 Tryz.qo;cases a with
 |none=>
  have he:ms=[]:=by
   rcases h with h|⟨b,off,h,_⟩
   .exact h
   .cases h
  subst he;clear h hs;have gM:=λ(w:World)=>Ju (P:=AS) w 37 77 be 0 cap 0 0 J6;simp only[IV,ON] at gM ⊢;go_enter Tryz.func60,Tryz.ntmps60;go_wp2_with fail;go_ret;exact⟨_,rfl,bX _ _,Below.refl _ _⟩
 |some a=>
  have gM:=λ(w:World)=>Ju (P:=AS) w 37 77 (AI a) ms.length cap 0 0 J6;simp only[OO] at gM;have hnews:Hid (∀j u,(fl ms)[j]?=AI u->(w.alloc (By #[] 77)).cell? (a.add j)=AI u):=by
   intro j u hj;rcases h with h|⟨b,off,h,hb,hr⟩
   .subst h;simp[fl] at hj
   .cases h
    have RG:j<ms.length*3:=by rw[<- cM];exact(Jm.1 hj).1
    have h1:=ec ms (j/3) (by omega) (j%3) (by omega);rw[show j/3*3+j%3=j by omega,hj] at h1;rw[I9,Og (w:=w) _ b _ hb];obtain⟨c0,c1,c2⟩:=hr (j/3) (by omega);have bZ:j%3=0\/j%3=1\/j%3=2:=by omega
    rcases bZ with e|e|e
    .rw[show off+j=off+j/3*3 by omega,c0];rw[e] at h1;simpa[bC.cs] using h1.symm
    .rw[show off+j=off+j/3*3+1 by omega,c1];rw[e] at h1;simpa[bC.cs] using h1.symm
    .rw[show off+j=off+j/3*3+2 by omega,c2];rw[e] at h1;simpa[bC.cs] using h1.symm
  have HO:Hid ((w.alloc (By #[] 77)).ownsRow w.heap.size 77 3 (J (AI ⟨w.heap.size,0,be⟩) 0 0) 0 []):=OP w #[] 0 (Ic _) (by unfold Io;omega) rfl;clear h hs;go_enter Tryz.func60,Tryz.ntmps60;go_wp2_with (at_builtin;refine Ja _ rfl _ _ 37 rfl w.heap.size 77 i0 _ 3 32 J6 fW dd gY gG rfl (by omega) _ 0 [] rfl HO.out a ms.length cap (fl ms) rfl (cM ms) hnews.out (gJ ms) (by unfold Io;omega) (by omega) (by simp) ?_);intro v' w' r1 r2 r3;go_wp2_with fail;go_ret;refine⟨v',rfl,?_,?_⟩
  .simpa using r1
  .exact((Below.refl _ _).alloc (Ic _) _).grown r2 (by simp) (λk hk=>by simp[Jx] at hk;omega)
end Gw
namespace Lt
open Go.RowKit
theorem Tryz.MA:(Tryz.prog.info? 102).map (λi=>(i.zero,i.size,i.bytes))=AI (AI (.agg #[U O 0,Y ⟨#[]⟩]),2,24):=by kernel_rfl
end Lt
namespace Lt
open Go.RowKit
theorem eV(ms:List fg)(v:Value)(w:World)(h:Sl w v ms)(hn:ms.length<=1000) :
 aF 50 #[v] w λe w'=>∃v',e=AT v'/\Own w.heap.size w' v' ms/\Below w.heap.size w w':=by
 obtain⟨a,cap,rfl,hs,h⟩:=h;obtain⟨i0,fW,dd,gY,gG⟩:=I6 Tryz.MA;cases a with
 |none=>
  have he:ms=[]:=by
   rcases h with h|⟨b,off,h,_⟩
   .exact h
   .cases h
  subst he;clear h hs;have gM:=λ(w:World)=>Ju (P:=AS) w 25 102 be 0 cap 0 0 O6;simp only[IV,ON] at gM ⊢;go_enter Tryz.func50,Tryz.ntmps50;go_wp2_with fail;go_ret;exact⟨_,rfl,bX _ _,Below.refl _ _⟩
 |some a=>
  have gM:=λ(w:World)=>Ju (P:=AS) w 25 102 (AI a) ms.length cap 0 0 O6;simp only[OO] at gM;have hnews:Hid (∀j u,(fl ms)[j]?=AI u->(w.alloc (By #[] 102)).cell? (a.add j)=AI u):=by
   intro j u hj;rcases h with h|⟨b,off,h,hb,hr⟩
   .subst h;simp[fl] at hj
   .cases h
    have RG:j<ms.length*2:=by rw[<- cM];exact(Jm.1 hj).1
    have h1:=ec ms (j/2) (by omega) (j%2) (by omega);rw[show j/2*2+j%2=j by omega,hj] at h1;rw[I9,Og (w:=w) _ b _ hb];obtain⟨c0,c1⟩:=hr (j/2) (by omega);have bZ:j%2=0\/j%2=1:=by omega
    rcases bZ with e|e
    .rw[show off+j=off+j/2*2 by omega,c0];rw[e] at h1;simpa[fg.cs] using h1.symm
    .rw[show off+j=off+j/2*2+1 by omega,c1];rw[e] at h1;simpa[fg.cs] using h1.symm
  have HO:Hid ((w.alloc (By #[] 102)).ownsRow w.heap.size 102 2 (J (AI ⟨w.heap.size,0,be⟩) 0 0) 0 []):=OP w #[] 0 (Ic _) (by unfold Io;omega) rfl;clear h hs;go_enter Tryz.func50,Tryz.ntmps50;go_wp2_with (at_builtin;refine Ja _ rfl _ _ 25 rfl w.heap.size 102 i0 _ 2 24 O6 fW dd gY gG rfl (by omega) _ 0 [] rfl HO.out a ms.length cap (fl ms) rfl (cM ms) hnews.out (gJ ms) (by unfold Io;omega) (by omega) (by simp) ?_);intro v' w' r1 r2 r3;go_wp2_with fail;go_ret;refine⟨v',rfl,?_,?_⟩
  .simpa using r1
  .exact((Below.refl _ _).alloc (Ic _) _).grown r2 (by simp) (λk hk=>by simp[Jx] at hk;omega)
end Lt
end Go.Proofs.YtfidhgjmifendaaGreatDoor
