import Derived.Test.YtfidhgjmifendaaGreatDoornt1
set_option maxHeartbeats 1000000
set_option maxRecDepth 100000
open Go.Obj renaming cells→AT
open Option renaming some→AI,none→be,isNone_none→OQ,isNone_some→OR
open Go.Addr renaming add_lit→I9
open List renaming getElem?_take→Qq,length_drop→JN,length_take→IA,mem_of_mem_drop→QP,size_toArray→JV,length_append→Ig,append_assoc→Im,take_take→QI,take_left'→OE,length_cons→Iy,take_succ_cons→Oc,take_length_add_append→JX,drop_succ_cons→Od,drop_length_add_append→JY,mem_flatMap→Qe,getElem?_append_left→Js,getElem?_append_right→Jr,set_cons_succ→Ot,set_append→Q5,eq_nil_of_length_eq_zero→Je,getElem?_take_of_lt→IL,length_set→IS,getElem_of_mem→IU,getD→Ip,getElem?_eq_getElem→If,getElem_mem→IH,getElem?_eq_none→IZ,length_nil→IW,getElem?_eq_some_iff→Jm
open Go.Value renaming slice→J,string→Y,int→U,bool→Ia,ownBlock→Jy
open Go.Builtin renaming copy_→Qt,firstCells→Qm,append_→Q6
open Nat renaming mul_le_mul_right→Oy,one_mul→Q4,add_sub_cancel→Qo,lt_of_lt_of_le→IN,le_trans→Iq,le_of_not_lt→Qf,zero_add→IC,le_refl→Ic
open Array renaming length_toList→IV,getElem?_eq_some_iff→BY,toList_append→Q0
open ByteArray renaming empty→Iv
open Go renaming maxLen→Il,cell_regrown→Is,info_parts→I6,run_callFunc_extern→OH,run_firstCells_some→QZ,grownCap_le_maxLen→Ud,wpList_append_own→Jd
open Go.IntKind renaming i64→O,wrap_i64→IY
open Go.World.ownsRow renaming lt→OL,stored→IG
open Go.World renaming ownsRow→J1,ownsRow_nil→J2,shape?→OZ,frozen?→Ir,cell?_alloc_past→Og,ownsRow_made→OS
open Go.Proofs.Tryz renaming prog→AS,underlying36→J4,underlying3→ID,underlying37→J5,underlying25→Qa,underlying9→Ja,underlying4→JK
open Go.Extern.SlicesOverlaps renaming overlaps→Ox
open Go.Lib renaming run_overlaps_apart→Qw,run_append_grow_zeros→Qc,wpList_append_run→QC,run_eql_slice_nil→Ju
open Go.Ending renaming returned→By
open Go.Act renaming eval→M2,put→Oo
open Go.DataW renaming trod_string→QD,trod_int→JZ
namespace Go.Proofs.YtfidhgjmifendaaGreatDoor
open Go.RowKit
section
variable {P:Program} {S T:TypeId} {k:Nat}
theorem G6{w:World}{g i n:Nat}{cur:Array Value}(hg:w.heap[g]?=AI (AT cur T (0,0))):∀j v,((cur.toList.take n).drop i)[j]?=AI v->w.cell? ((⟨g,i,be⟩:Addr).add j)=AI v:=λj v hj=>by
 rw[show w.cell? ((⟨g,i,be⟩:Addr).add j)=cur[i+j]? by rw[I9];exact ae hg _];rw[List.getElem?_drop,Qq] at hj;split at hj
 .simpa using hj
 .cases hj
theorem po(hu:P.underlying S=AI (.slice T))(cF:(P.info? T).map (·.size)=AI k){g n c i vb:Nat}{cur:Array Value}{vs:List Value}{w:World}(hg:w.heap[g]?=AI (AT cur T (0,0)))(b9:cur.size=c*k)(hi:i<n)(dx:n+1<=c)(pt:vb≠g)(hv:w.heap[vb]?=AI (AT vs.toArray T (0,0)))(lj:vs.length=k)(lI:∀v∈cur.toList.take (n*k),v.oneCell'=true)(mM:∀v∈vs,v.oneCell'=true) :
 ∃W1 W2,(∀ty dc sc,(Qt #[S,S] ty #[J (AI ⟨g,(i+1)*k,be⟩) (n-i) dc,J (AI ⟨g,i*k,be⟩) (n+1-i) sc]).run P w.drew=.ok (goInt (Nat.min (n+1-i) (n-i))) W1) /\
  (∀ty dc,(Qt #[S,S] ty #[J (AI ⟨g,i*k,be⟩) (n+1-i) dc,J (AI ⟨vb,0,be⟩) 1 1]).run P W1=.ok (goInt (Nat.min 1 (n+1-i))) W2) /\
  ∃dR:Array Value,W2.heap[g]?=AI (AT dR T (0,0))/\dR.size=c*k/\dR.toList.take ((n+1)*k)=cur.toList.take (i*k)++vs++(cur.toList.take (n*k)).drop (i*k)/\w.grownBy W2 (AI g):=by
 have m1:(i+1)*k=i*k+k:=Nat.succ_mul i k;have m2:(n+1)*k=n*k+k:=Nat.succ_mul n k;have m3:i*k<=n*k:=Oy k (by omega);have m4:(n+1)*k<=c*k:=Oy k dx;have m5:(n-i)*k=n*k-i*k:=Nat.sub_mul n i k;have Mi:((cur.toList.take (n*k)).drop (i*k)).length=(n-i)*k:=by
  simp only[JN,IA,IV];omega
 have hX1:∀v∈(cur.toList.take (n*k)).drop (i*k),v.oneCell'=true:=λv hv=>lI v (QP hv);have hXs:=G6 (w:=w.drew) (i:=i*k) (n:=n*k) hg;generalize hX:(cur.toList.take (n*k)).drop (i*k)=X at *;obtain⟨C1,Pp⟩:∃C1:Array Value,C1=(cur.toList.take ((i+1)*k)++X++cur.toList.drop ((i+1)*k+X.length)).toArray:=⟨_,rfl⟩;obtain⟨W1,cM⟩:∃W1,W1=w.drew.setRow g C1:=⟨_,rfl⟩;have cK:W1.heap[g]?=AI (AT C1 T (0,0)):=by rw[cM];exact setRow_heap w.drew g cur C1 T (0,0) hg
 have zh:∀q,q≠g->W1.heap[q]?=w.heap[q]?:=λq hq=>by rw[cM,setRow_other w.drew g q C1 hq];rfl
 have Av:W1.heap[vb]?=AI (AT vs.toArray T (0,0)):=by rw[zh vb pt];exact hv
 have fg:C1.size=c*k:=by
  rw[Pp];simp only[JV,Ig,IA,JN,IV,Mi,b9];omega
 obtain⟨C2,G7⟩:∃C2:Array Value,C2=(C1.toList.take (i*k)++vs++C1.toList.drop (i*k+vs.length)).toArray:=⟨_,rfl⟩;obtain⟨W2,bF⟩:∃W2,W2=W1.setRow g C2:=⟨_,rfl⟩;refine⟨W1,W2,λty dc sc=>?_,λty dc=>?_,C2,by rw[bF];exact setRow_heap W1 g C1 C2 T (0,0) cK,?_,?_,⟨by rw[bF,cM];rfl,by rw[bF,cM];rfl,by rw[bF,cM];rfl,by rw[bF,cM];simp[World.setRow],λq _ hq=>?_⟩⟩
 .rw[cM,Pp]
  exact lp w.drew S S ty T g ((i+1)*k) (n-i) dc ⟨g,i*k,be⟩ (n+1-i) sc k cur T X hu cF hg (by rw[Mi];congr 1;simp only[Nat.min_def];split<;>omega) hXs (by rw[Mi,b9];omega) hX1
 .rw[bF,G7]
  exact lp W1 S S ty T g (i*k) (n+1-i) dc ⟨vb,0,be⟩ 1 1 k C1 T vs hu cF cK (by rw[lj,show Nat.min 1 (n+1-i)=1 by simp only[Nat.min_def];split<;>omega,Q4]) (λj v hj=>by rw[I9,ae Av];simpa using hj) (by rw[lj,fg];omega) mM
 .rw[G7];simp only[JV,Ig,IA,JN,IV,lj,fg];omega
 .have e1:C1.toList.take (i*k)=cur.toList.take (i*k):=by
   rw[Pp];simp only[Im];rw[List.take_append_of_le_length (by simp only[IA,IV,b9];omega),QI];congr 1;omega
  have e2:C1.toList.drop (i*k+vs.length)=X++cur.toList.drop ((i+1)*k+X.length):=by
   rw[Pp];simp only[Im];rw[List.drop_append_of_le_length (by simp only[IA,IV,b9];omega),List.drop_of_length_le (by simp only[IA,IV,b9];omega),List.nil_append]
  rw[G7,e1,e2];simp only[Im];rw[<- Im vs,<- Im (List.take (i*k) cur.toList)];exact OE (by simp only[Ig,IA,IV,b9,lj,Mi];omega)
 .have hq':q≠g:=λe=>hq (by rw[e])
  rw[bF,setRow_other W1 g q C2 hq',zh q hq']
theorem pA(hu:P.underlying S=AI (.slice T))(cF:(P.info? T).map (·.size)=AI k){g c i vb G:Nat}{cur mr:Array Value}{vs:List Value}{w:World}(hg:w.heap[g]?=AI (AT cur T (0,0)))(b9:cur.size=c*k)(hi:i<c)(hv:w.heap[vb]?=AI (AT vs.toArray T (0,0)))(lj:vs.length=k)(lI:∀v∈cur.toList.take (c*k),v.oneCell'=true)(mM:∀v∈vs,v.oneCell'=true)(zi:c+1<=G)(Au:mr.size=G*k)(DY:mr.toList.take (i*k)=cur.toList.take (i*k)) :
 ∃W2 W3,(∀ty dc,(Qt #[S,S] ty #[J (AI ⟨w.heap.size,i*k,be⟩) (c+1-i) dc,J (AI ⟨vb,0,be⟩) 1 1]).run P ((w.alloc (AT mr T)).drew)=.ok (goInt (Nat.min 1 (c+1-i))) W2) /\
  (∀ty dc sc,(Qt #[S,S] ty #[J (AI ⟨w.heap.size,(i+1)*k,be⟩) (c-i) dc,J (AI ⟨g,i*k,be⟩) (c-i) sc]).run P W2.drew=.ok (goInt (Nat.min (c-i) (c-i))) W3) /\
  ∃dR:Array Value,W3.heap[w.heap.size]?=AI (AT dR T (0,0))/\dR.size=G*k/\dR.toList.take ((c+1)*k)=cur.toList.take (i*k)++vs++(cur.toList.take (c*k)).drop (i*k)/\w.grownBy W3 be:=by
 have wM:g<w.heap.size:=(BY.1 hg).1;have LH:vb<w.heap.size:=(BY.1 hv).1;have m1:(i+1)*k=i*k+k:=Nat.succ_mul i k;have m2:(c+1)*k=c*k+k:=Nat.succ_mul c k;have m3:i*k<=c*k:=Oy k (by omega);have m4:(c+1)*k<=G*k:=Oy k zi;have m5:(c-i)*k=c*k-i*k:=Nat.sub_mul c i k;obtain⟨W1,cM⟩:∃W1,W1=(w.alloc (AT mr T)).drew:=⟨_,rfl⟩;rw[<- cM];have cK:W1.heap[w.heap.size]?=AI (AT mr T (0,0)):=by rw[cM];exact heap_alloc_new w _
 have zh:∀q,q<w.heap.size->W1.heap[q]?=w.heap[q]?:=λq hq=>by rw[cM];exact Below.heap_alloc w _ q hq
 have Av:W1.heap[vb]?=AI (AT vs.toArray T (0,0)):=by rw[zh vb LH];exact hv
 obtain⟨C1,Pp⟩:∃C1:Array Value,C1=(mr.toList.take (i*k)++vs++mr.toList.drop (i*k+vs.length)).toArray:=⟨_,rfl⟩;obtain⟨W2,bF⟩:∃W2,W2=W1.setRow w.heap.size C1:=⟨_,rfl⟩;have dQ:W2.drew.heap[w.heap.size]?=AI (AT C1 T (0,0)):=by rw[bF];exact setRow_heap W1 w.heap.size mr C1 T (0,0) cK
 have fA:∀q,q<w.heap.size->W2.drew.heap[q]?=w.heap[q]?:=λq hq=>by
  have:=setRow_other W1 w.heap.size q C1 (by omega);rw[<- bF] at this;exact this.trans (zh q hq)
 have fg:C1.size=G*k:=by
  rw[Pp];simp only[JV,Ig,IA,JN,IV,lj,Au];omega
 have Mi:((cur.toList.take (c*k)).drop (i*k)).length=(c-i)*k:=by
  simp only[JN,IA,IV];omega
 have hX1:∀v∈(cur.toList.take (c*k)).drop (i*k),v.oneCell'=true:=λv hv=>lI v (QP hv);have hXs:=G6 (w:=W2.drew) (i:=i*k) (n:=c*k) ((fA g wM).trans hg);generalize hX:(cur.toList.take (c*k)).drop (i*k)=X at *;obtain⟨C2,G7⟩:∃C2:Array Value,C2=(C1.toList.take ((i+1)*k)++X++C1.toList.drop ((i+1)*k+X.length)).toArray:=⟨_,rfl⟩;obtain⟨W3,ea⟩:∃W3,W3=W2.drew.setRow w.heap.size C2:=⟨_,rfl⟩;refine⟨W2,W3,λty dc=>?_,λty dc sc=>?_,C2,by rw[ea];exact setRow_heap W2.drew w.heap.size C1 C2 T (0,0) dQ,?_,?_,⟨by rw[ea,bF,cM];rfl,by rw[ea,bF,cM];rfl,by rw[ea,bF,cM];rfl,by rw[ea,bF,cM];simp[World.setRow],λq hq _=>by rw[ea,setRow_other W2.drew w.heap.size q C2 (by omega),fA q hq]⟩⟩
 .rw[bF,Pp]
  exact lp W1 S S ty T w.heap.size (i*k) (c+1-i) dc ⟨vb,0,be⟩ 1 1 k mr T vs hu cF cK (by rw[lj,show Nat.min 1 (c+1-i)=1 by simp only[Nat.min_def];split<;>omega,Q4]) (λj v hj=>by rw[I9,ae Av];simpa using hj) (by rw[lj,Au];omega) mM
 .rw[ea,G7]
  exact lp W2.drew S S ty T w.heap.size ((i+1)*k) (c-i) dc ⟨g,i*k,be⟩ (c-i) sc k C1 T X hu cF dQ (by rw[Mi];congr 1;simp only[Nat.min_def];split<;>omega) hXs (by rw[Mi,fg];omega) hX1
 .rw[G7];simp only[JV,Ig,IA,JN,IV,Mi,fg];omega
 .have e1:C1.toList.take ((i+1)*k)=cur.toList.take (i*k)++vs:=by
   rw[Pp,DY];exact OE (by simp only[Ig,IA,IV,b9,lj];omega)
  rw[G7,e1];exact OE (by simp only[Ig,IA,IV,b9,lj,Mi];omega)
end
end Go.Proofs.YtfidhgjmifendaaGreatDoor
namespace Go.Proofs.YtfidhgjmifendaaGreatDoor
namespace Sv
open Go.RowKit
structure aT where
 node:ByteArray
 bu:ByteArray
 name:ByteArray
 tag:ByteArray
 addr:Int
 port:Int
 aj:Bool
 version:Int
 gone:Bool
def dm:aT:=⟨Iv,Iv,Iv,Iv,0,0,false,0,false⟩
def aT.ok(m:aT):Prop:=m.node.size<=Il/\m.bu.size<=Il/\m.name.size<=Il/\m.tag.size<=Il
theorem sD:dm.ok:=by simp[aT.ok,dm]
abbrev As(w:World)(b o:Nat)(m:aT):Prop:=w.cell? ⟨b,o,be⟩=AI (Y m.node)/\w.cell? ⟨b,o+1,be⟩=AI (Y m.bu)/\w.cell? ⟨b,o+2,be⟩=AI (Y m.name)/\w.cell? ⟨b,o+3,be⟩=AI (Y m.tag)/\w.cell? ⟨b,o+4,be⟩=AI (U O m.addr)/\w.cell? ⟨b,o+5,be⟩=AI (U O m.port)/\w.cell? ⟨b,o+6,be⟩=AI (Ia m.aj)/\w.cell? ⟨b,o+7,be⟩=AI (U O m.version)/\w.cell? ⟨b,o+8,be⟩=AI (Ia m.gone)
theorem As.re{w:World}{b o:Nat}{m:aT}(h:As w b o m):∀d os,As (Go.Sort.grow (redrawn w d) os) b o m:=λd os=>by
 obtain⟨c0,c1,c2,c3,c4,c5,c6,c7,c8⟩:=h;exact⟨Is c0 d os,Is c1 d os,Is c2 d os,Is c3 d os,Is c4 d os,Is c5 d os,Is c6 d os,Is c7 d os,Is c8 d os⟩
theorem As.eq{w w':World}{b o:Nat}{m:aT}(h:As w b o m)(e:∀o,w'.cell? ⟨b,o,be⟩=w.cell? ⟨b,o,be⟩):As w' b o m:=by
 obtain⟨c0,c1,c2,c3,c4,c5,c6,c7,c8⟩:=h;exact⟨(e _).trans c0,(e _).trans c1,(e _).trans c2,(e _).trans c3,(e _).trans c4,(e _).trans c5,(e _).trans c6,(e _).trans c7,(e _).trans c8⟩
def Row(w:World)(b off:Nat)(ms:List aT):Prop:=∀j,j<ms.length->As w b (off+j*9) (ms.getD j dm)
def Sl(w:World)(v:Value)(ms:List aT):Prop:=
 ∃(a:Option Addr) (cap:Nat),v=J a ms.length cap/\(∀j,(ms.getD j dm).ok) /\
  (ms=[]\/∃b off,a=AI ⟨b,off,be⟩/\b<w.heap.size/\Row w b off ms)
def aT.cs(m:aT):List Value:=[Y m.node,Y m.bu,Y m.name,Y m.tag,U O m.addr,U O m.port,Ia m.aj,U O m.version,Ia m.gone]
def fl(ms:List aT):List Value:=ms.flatMap aT.cs
theorem bB(m:aT):m.cs.length=9:=rfl
theorem aZ(m:aT)(r:List aT):fl (m::r)=m.cs++fl r:=by simp[fl]
theorem cG(a b:List aT):fl (a++b)=fl a++fl b:=by simp[fl]
theorem cP:∀ms:List aT,(fl ms).length=ms.length*9
 |[]=>rfl
 |m::r=>by rw[aZ,Ig,cP r,bB,Iy];omega
theorem eY:∀(ms:List aT) (i:Nat),(fl ms).take (i*9)=fl (ms.take i)
 |[],i=>by simp[fl]
 |m::r,0=>by simp[fl]
 |m::r,i+1=>by
  rw[aZ,Oc,aZ,show(i+1)*9=m.cs.length+i*9 by rw[bB];omega,JX,eY r i]
theorem eZ:∀(ms:List aT) (i:Nat),(fl ms).drop (i*9)=fl (ms.drop i)
 |[],i=>by simp[fl]
 |m::r,0=>by simp
 |m::r,i+1=>by
  rw[aZ,Od,show(i+1)*9=m.cs.length+i*9 by rw[bB];omega,JY,eZ r i]
theorem df(m:aT):∀v∈m.cs,v.oneCell'=true:=by
 intro v hv;simp[aT.cs] at hv;rcases hv with rfl|rfl|rfl|rfl|rfl|rfl|rfl|rfl|rfl<;>rfl
theorem gJ(ms:List aT):∀v∈fl ms,v.oneCell'=true:=by
 intro v hv;obtain⟨m,_,h⟩:=Qe.1 hv;exact df m v h
theorem eb(ms:List aT)(j:Nat)(hj:j<ms.length)(t:Nat)(ht:t<9):(fl ms)[j*9+t]?=(ms.getD j dm).cs[t]?:=by
 induction ms generalizing j with
 |nil=>simp at hj
 |cons m r ih=>
  rw[aZ];cases j with
  |zero=>rw[Js (by rw[bB];omega)];simp
  |succ j=>
   rw[Jr (by rw[bB];omega),bB,show(j+1)*9+t-9=j*9+t by omega,ih j (by simpa using hj)];simp
theorem nW(ms:List aT)(p:Nat)(hp:p<ms.length)(m:aT):((((((((((fl ms).set (p*9) (Y m.node)).set (p*9+1) (Y m.bu)).set (p*9+2) (Y m.name)).set (p*9+3) (Y m.tag)).set (p*9+4) (U O m.addr)).set (p*9+5) (U O m.port)).set (p*9+6) (Ia m.aj)).set (p*9+7) (U O m.version)).set (p*9+8) (Ia m.gone))=fl (ms.set p m):=by
 induction ms generalizing p with
 |nil=>simp at hp
 |cons x r ih=>
  cases p with
  |zero=>simp[fl,aT.cs]
  |succ p=>
   have L1:=ih p (by simpa using hp);rw[Ot,aZ,aZ,<- L1];simp only[Nat.add_mul,Q4];have e:∀(l:List Value) (k:Nat) (v:Value),(x.cs++l).set (k+9) v=x.cs++l.set k v:=λl k v=>by
    rw[Q5,if_neg (by rw[bB];omega),bB,Qo]
   have c:∀i:Nat,p*9+9+i=(p*9+i)+9:=λi=>by omega
   simp only[c];rw[e,e,e,e,e,e,e,e,e]
abbrev Own(base:Nat)(w:World)(v:Value)(ms:List aT):Prop:=w.ownsRow base 46 9 v ms.length (fl ms)
theorem ib{base g G:Nat}{w:World}{cur:Array Value}{ms:List aT}(hb:base<=g)(hg:w.heap[g]?=AI (AT cur 46 (0,0)))(hs:cur.size=G*9)(hn:ms.length<=G)(hG:G<=Il)(ht:cur.toList.take (ms.length*9)=fl ms) :
 Own base w (J (AI ⟨g,0,be⟩) ms.length G) ms:=⟨cP ms,.inr ⟨g,G,cur,rfl,hb,hg,hn,hG,hs,ht⟩⟩
theorem Own.sl{base:Nat}{w:World}{v:Value}{ms:List aT}(h:Own base w v ms)(hs:∀j,(ms.getD j dm).ok):Sl w v ms:=by
 rcases h.2 with⟨rfl,h0⟩|⟨g,c,cur,rfl,ev,hg,fG,dO,b9,bf⟩
 .exact⟨be,0,by rw[h0],hs,.inl (Je h0)⟩
 .refine⟨_,c,rfl,hs,.inr ⟨g,0,rfl,(BY.1 hg).1,λj hj=>?_⟩⟩
  have hc:∀t,t<9->w.cell? ⟨g,0+j*9+t,be⟩=(ms.getD j dm).cs[t]?:=λt ht=>by
   rw[ae hg,<- eb ms j hj t ht,<- bf,IL (by omega)];simp
  exact⟨hc 0 (by omega),hc 1 (by omega),hc 2 (by omega),hc 3 (by omega),hc 4 (by omega),hc 5 (by omega),hc 6 (by omega),hc 7 (by omega),hc 8 (by omega)⟩
theorem Own.below{base:Nat}{w w':World}{v:Value}{ms:List aT}(h:Own base w v ms)(hb:Below w.heap.size w w'):Own base w' v ms:=by
 rcases h.2 with⟨rfl,h0⟩|⟨g,c,cur,rfl,ev,hg,fG,dO,b9,bf⟩
 .exact⟨h.1,.inl ⟨rfl,h0⟩⟩
 .have aW:=(BY.1 hg).1
  exact⟨h.1,.inr ⟨g,c,cur,rfl,ev,(hb.block g aW).trans hg,fG,dO,b9,bf⟩⟩
theorem Own.lt{base:Nat}{w:World}{v:Value}{ms:List aT}(h:Own base w v ms)(k:Nat)(hk:v.ownBlock=AI k):base<=k/\k<w.heap.size:=OL h k hk
theorem fc{base:Nat}{w w1 w2:World}{v:Value}{ms:List aT}(hb:Below base w w1)(h:Own base w1 v ms)(hg:w1.grownBy w2 v.ownBlock)(hbase:base<=w1.heap.size):Below base w w2:=
 hb.grown hg hbase (λk hk=>(h.lt k hk).1)
theorem ez{base g c:Nat}{w:World}{ms:List aT}(h:Own base w (J (AI ⟨g,0,be⟩) ms.length c) ms)(j:Nat)(hj:j<ms.length) :
 As w g (j*9) (ms.getD j dm):=by
 rcases h.2 with⟨h1,_⟩|⟨g',c',cur,h1,ev,hg,fG,dO,b9,bf⟩
 .cases h1
 .simp only[Value.slice.injEq,Option.some.injEq,Addr.mk.injEq] at h1
  obtain⟨⟨rfl,_,_⟩,_,_⟩:=h1;have hc:∀t,t<9->w.cell? ⟨g,j*9+t,be⟩=(ms.getD j dm).cs[t]?:=λt ht=>by
   rw[ae hg,<- eb ms j hj t ht,<- bf,IL (by omega)];simp
  exact⟨hc 0 (by omega),hc 1 (by omega),hc 2 (by omega),hc 3 (by omega),hc 4 (by omega),hc 5 (by omega),hc 6 (by omega),hc 7 (by omega),hc 8 (by omega)⟩
theorem jJ{base:Nat}{w:World}{v:Value}{ms:List aT}(h:Own base w v ms)(p:Nat)(hp:p<ms.length):∃g c,v=J (AI ⟨g,0,be⟩) ms.length c:=by
 rcases h.2 with⟨_,h0⟩|⟨g,c,cur,h1,_⟩
 .omega
 .exact⟨g,c,h1⟩
theorem lr{base g c p:Nat}{W:World}{ms:List aT}(h:Own base W (J (AI ⟨g,0,be⟩) ms.length c) ms)(hp:p<ms.length)(m:aT) :
 Own base (((((((((W.setCell ⟨g,p*9,be⟩ (Y m.node)).setCell ⟨g,p*9+1,be⟩ (Y m.bu)).setCell ⟨g,p*9+2,be⟩ (Y m.name)).setCell ⟨g,p*9+3,be⟩ (Y m.tag)).setCell ⟨g,p*9+4,be⟩ (U O m.addr)).setCell ⟨g,p*9+5,be⟩ (U O m.port)).setCell ⟨g,p*9+6,be⟩ (Ia m.aj)).setCell ⟨g,p*9+7,be⟩ (U O m.version)).setCell ⟨g,p*9+8,be⟩ (Ia m.gone)) (J (AI ⟨g,0,be⟩) ms.length c) (ms.set p m):=by
 have h1:=IG h (p*9) (Y m.node);have h2:=IG h1.1 (p*9+1) (Y m.bu);have h3:=IG h2.1 (p*9+2) (Y m.name);have h4:=IG h3.1 (p*9+3) (Y m.tag);have h5:=IG h4.1 (p*9+4) (U O m.addr);have h6:=IG h5.1 (p*9+5) (U O m.port);have h7:=IG h6.1 (p*9+6) (Ia m.aj);have h8:=IG h7.1 (p*9+7) (U O m.version);have h9:=IG h8.1 (p*9+8) (Ia m.gone);have e:=h9.1;rw[nW ms p hp m] at e;show J1 _ _ _ _ _ (ms.set p m).length _;rw[IS];exact e
theorem Sl.below{w w':World}{v:Value}{ms:List aT}(h:Sl w v ms)(hb:Below w.heap.size w w'):Sl w' v ms:=by
 obtain⟨a,cap,rfl,hs,h⟩:=h;refine⟨a,cap,rfl,hs,?_⟩;rcases h with h|⟨b,off,rfl,aW,hr⟩
 .exact .inl h
 .refine .inr ⟨b,off,rfl,IN aW hb.size,λj hj=>?_⟩
  exact(hr j hj).eq (λo=>(cz hb).1 b o aW)
theorem Row.later{w w':World}{b off:Nat}{ms:List aT}(hr:Row w b off ms)(hb:Below w.heap.size w w')(aW:b<w.heap.size):Row w' b off ms:=λj hj=>(hr j hj).eq (λo=>(cz hb).1 b o aW)
theorem Own.mono{base iK:Nat}{w:World}{v:Value}{ms:List aT}(h:Own base w v ms)(hb:iK<=base):Own iK w v ms:=by
 rcases h.2 with⟨rfl,h0⟩|⟨g,c,cur,rfl,ev,hg,fG,dO,b9,bf⟩
 .exact⟨h.1,.inl ⟨rfl,h0⟩⟩
 .exact⟨h.1,.inr ⟨g,c,cur,rfl,Iq hb ev,hg,fG,dO,b9,bf⟩⟩
theorem bY(base:Nat)(w:World):Own base w (J be 0 0) []:=J2 w base 46 9
theorem dw{ms:List aT}(h:∀j,(ms.getD j dm).ok):∀m∈ms,(m).ok:=by
 intro m hm;obtain⟨j,hj,rfl⟩:=IU hm;have:=h j;simpa[Ip,If hj] using this
theorem cB{ms:List aT}(h:∀m∈ms,(m).ok):∀j,(ms.getD j dm).ok:=by
 intro j;by_cases hj:j<ms.length
 .have:=h ms[j] (IH hj)
  simpa[Ip,If hj] using this
 .rw[Ip,IZ (Qf hj)];exact sD
theorem bD{base:Nat}{w:World}{v:Value}{ms:List aT}(h:Own base w v ms)(hs:∀m∈ms,(m).ok):Sl w v ms:=h.sl (cB hs)
theorem oj(w:World)(b cap:Nat)(m:aT)(hm:(m).ok)(hg:w.heap[b]?=AI (AT #[Y m.node,Y m.bu,Y m.name,Y m.tag,U O m.addr,U O m.port,Ia m.aj,U O m.version,Ia m.gone] 46 (0,0))):Sl w (J (AI ⟨b,0,be⟩) 1 cap) [m]:=by
 refine⟨_,cap,rfl,cB (λx hx=>by simp at hx;subst hx;exact hm),.inr ⟨b,0,rfl,(BY.1 hg).1,λj hj=>?_⟩⟩
 have:j=0:=by simpa using hj
 subst this;exact⟨ae hg (0+0*9),ae hg (0+0*9+1),ae hg (0+0*9+2),ae hg (0+0*9+3),ae hg (0+0*9+4),ae hg (0+0*9+5),ae hg (0+0*9+6),ae hg (0+0*9+7),ae hg (0+0*9+8)⟩
theorem jK{base:Nat}{w:World}{v:Value}{L:List aT}{m:aT}(h:w.ownsRow base 46 9 v (L.length+1) (fl L++m.cs)):Own base w v (L++[m]):=by
 have e:fl (L++[m])=fl L++m.cs:=by rw[cG,aZ];simp[fl]
 show w.ownsRow base 46 9 v (L++[m]).length (fl (L++[m]));rw[e,Ig];exact h
end Sv
namespace Sv
open Go.RowKit
theorem Tryz.qv:(Tryz.prog.info? 46).map (λi=>(i.zero,i.size,i.bytes))=AI (AI (.agg #[Y ⟨#[]⟩,Y ⟨#[]⟩,Y ⟨#[]⟩,Y ⟨#[]⟩,U O 0,U O 0,Ia false,U O 0,Ia false]),9,104):=by kernel_rfl
theorem G8:(Tryz.prog.info? 46).map (·.size)=AI 9:=by
 obtain⟨i,hi,h1,h2,h3⟩:=I6 Tryz.qv;rw[hi];simp[h2]
theorem sizeOf46(w:World):(Go.sizeOf 46).run AS w=.ok 9 w:=by
 obtain⟨i,hi,h1,h2,h3⟩:=I6 Tryz.qv;simp[Go.sizeOf,typeInfo,hi,h2]
theorem eJ(w:World)(g vb o lb cb:Nat)(cur vs:Array Value)(hg:w.heap[g]?=AI (AT cur 46 (0,0)))(hv:w.heap[vb]?=AI (AT vs 46 (0,0)))(aM:vb≠g)(hk:cur.size≠0) : (callFunc 245 #[J (AI ⟨vb,0,be⟩) 1 1,J (AI ⟨g,o,be⟩) lb cb]).run AS w=.ok (.value (Ia false)) w:=by
 rw[OH Tryz.func245 (by kernel_rfl) (by kernel_rfl) (by kernel_rfl) (e:=Ox #[36,36] #[4]) (by kernel_rfl),
  Qw w 36 4 46 J4 9 sizeOf46 ⟨vb,0,be⟩ ⟨g,o,be⟩ 1 1 lb cb aM 46 46 vs.size cur.size (by simp[OZ,hv]) (by simp[OZ,hg]) hk (by simp[Ir,hv]) (by simp[Ir,hv])]
 rfl
theorem fh(g n c i vb:Nat)(cur:Array Value)(vs:List Value)(w:World)(hg:w.heap[g]?=AI (AT cur 46 (0,0)))(b9:cur.size=c*9)(hi:i<n)(dx:n+1<=c)(A9:c<=9223372036854775807)(pt:vb≠g)(hv:w.heap[vb]?=AI (AT vs.toArray 46 (0,0)))(lj:vs.length=9)(lI:∀v∈cur.toList.take (n*9),v.oneCell'=true)(mM:∀v∈vs,v.oneCell'=true) :
 aF 214 #[J (AI ⟨g,0,be⟩) n c,U O i,J (AI ⟨vb,0,be⟩) 1 1] w λe w'=>e=By (J (AI ⟨g,0,be⟩) (n+1) c) /\
  ∃dR:Array Value,w'.heap[g]?=AI (AT dR 46 (0,0))/\dR.size=c*9/\dR.toList.take ((n+1)*9)=cur.toList.take (i*9)++vs++(cur.toList.take (n*9)).drop (i*9)/\w.grownBy w' (AI g):=by
 have RI:=λo lb cb=>eJ w g vb o lb cb cur vs.toArray hg hv pt (by omega);have nF:¬ ((i:Int)=(n:Int)):=by omega
 have aJ:¬ (c=i+1):=by omega
 have eO:¬ (c=i):=by omega
 have bV:(i:Int)<=(n:Int)+1:=by omega
 obtain⟨W1,W2,ot,sX,HF⟩:=po J4 G8 hg b9 hi dx pt hv lj lI mM;have HF:Hid _:=HF;clear lI mM hg hv;have Mj:IntKind.i64.wrap ((i:Int)+1)=(i:Int)+1:=by rw[IY];omega
 have aB:(0:Int)<=(i:Int)+1:=by omega
 have nO:i<=n:=by omega
 have DZ:((i:Int)+1).toNat=i+1:=by omega
 go_enter Tryz.func214,Tryz.ntmps214;go_wp2_with (simp only[RI]);go_region_law (refine du rfl _ _ 36 36 rfl _ _ (by simp[M2,Oo]) (by simp[M2,Oo]) (ot _ _ _) ?_)
 go_wp2_with fail;go_ret;exact⟨rfl,HF.out⟩
theorem fi(g n c i vb:Nat)(cur:Array Value)(vs:List Value)(w:World)(hg:w.heap[g]?=AI (AT cur 46 (0,0)))(b9:cur.size=c*9)(hi:i<n)(fG:n<=c)(dx:c<n+1)(A9:n<=1000)(hv:w.heap[vb]?=AI (AT vs.toArray 46 (0,0)))(lj:vs.length=9)(lI:∀v∈cur.toList.take (n*9),v.oneCell'=true)(mM:∀v∈vs,v.oneCell'=true) :
 aF 214 #[J (AI ⟨g,0,be⟩) n c,U O i,J (AI ⟨vb,0,be⟩) 1 1] w λe w'=>∃G,e=By (J (AI ⟨w.heap.size,0,be⟩) (n+1) G)/\n+1<=G/\G<=Il /\
  ∃dR:Array Value,w'.heap[w.heap.size]?=AI (AT dR 46 (0,0))/\dR.size=G*9/\dR.toList.take ((n+1)*9)=cur.toList.take (i*9)++vs++(cur.toList.take (n*9)).drop (i*9)/\w.grownBy w' be:=by
 obtain⟨i0,fL,dh,gW,gG⟩:=I6 Tryz.qv;have Ba:c=n:=by omega
 subst Ba;have nF:¬ ((i:Int)=(c:Int)):=by omega
 have qi:(c:Int)<(c:Int)+1:=by omega
 have sj:(c:Int)+1-(i:Int)=((c+1-i:Nat):Int):=by omega
 have Bb:i+(c+1-i)=c+1:=by omega
 have hold:(Qm i0.size i (J (AI ⟨g,0,be⟩) i c)).run AS w.drew=.ok (cur.toList.take (i*9)).toArray w.drew:=by
  rw[gW];exact QZ w.drew 9 i ⟨g,0,be⟩ i c (cur.toList.take (i*9)) (by rw[IA,IV];omega) (λj v hj=>by
   have e:w.drew.cell? ((⟨g,0,be⟩:Addr).add j)=cur[j]?:=by rw[I9,IC];exact ae hg _
   rw[e];rw[Qq] at hj;split at hj
   .simpa using hj
   .cases hj)
 have wY:∀ty,∃G mr,c+1<=G/\G<=Il/\mr.size=G*9/\mr.toList.take (i*9)=cur.toList.take (i*9)/\(Q6 #[36,3] ty #[J (AI ⟨g,0,be⟩) i c,U O ((c:Int)+1-(i:Int))]).run AS w =
  .ok (J (AI ⟨w.heap.size,0,be⟩) (c+1) G) (w.drew.alloc (AT mr 46)):=λty=>by
  have h:=Qc w 36 3 ty 46 i0 _ O O J4 ID fL dh (AI ⟨g,0,be⟩) i c (cur.toList.take (i*9)) hold (c+1-i) (by omega) (by omega) (by omega) (by omega) (by rw[gG];omega) (by rw[gG,Bb];exact growslice_fits dx (by omega));rw[Bb] at h;rw[sj];have h1:=grownCap_ge w (c+1) c 46;refine⟨_,_,h1,Ud w (c+1) c 46 (by unfold Il;omega),?_,?_,h⟩
  .simp only[Array.size_append,JV,size_zeroCells,IA,IV,b9,Value.cells]
   simp;omega
  .simp only[Q0,Im]
   exact OE (by simp only[IA,IV,b9];omega)
 obtain⟨G,mr,zi,wZ,Au,DY,wY⟩:=wY 36;have RJ:G<=9223372036854775807:=by unfold Il at wZ;omega
 obtain⟨W2,W3,ot,sX,HF⟩:=pA J4 G8 hg b9 hi hv lj lI mM zi Au DY;obtain⟨W1,cM⟩:∃W1,W1=(w.alloc (AT mr 46)).drew:=⟨_,rfl⟩;have G9:w.drew.alloc (AT mr 46)=W1:=by rw[cM];rfl
 rw[G9] at wY;rw[<- cM] at ot;have HF:Hid _:=HF;have Mj:IntKind.i64.wrap ((i:Int)+1)=(i:Int)+1:=by rw[IY];omega
 have aB:(0:Int)<=(i:Int)+1:=by omega
 have nO:i<=c:=by omega
 have DZ:((i:Int)+1).toNat=i+1:=by omega
 have hGi:¬ (G=i):=by omega
 have RM:¬ (G=i+1):=by omega
 have hci:¬ (c=i):=by omega
 clear cM lI mM G9 Au DY sj Bb hold hg hv fL dh gW gG;go_enter Tryz.func214,Tryz.ntmps214;go_wp2_with (at_builtin;refine QC _ rfl _ _ _ _ rfl _ _ rfl rfl _ _ wY ?_);go_region_law (refine du rfl _ _ 36 36 rfl _ _ (by simp[M2,Oo]) (by simp[M2,Oo]) (sX _ _ _) ?_)
 go_wp2_with fail;go_ret;exact⟨G,rfl,zi,wZ,HF.out⟩
theorem fY(base n vb:Nat)(v:Value)(xs vs:List Value)(w:World)(hown:w.ownsRow base 46 9 v n xs)(hn:n<=1000)(hbase:base<=w.heap.size)(hv:w.heap[vb]?=AI (AT vs.toArray 46 (0,0)))(lj:vs.length=9)(mM:∀v∈vs,v.oneCell'=true) :
 aF 214 #[v,U O n,J (AI ⟨vb,0,be⟩) 1 1] w λe w'=>∃v',e=By v'/\w'.ownsRow base 46 9 v' (n+1) (xs++vs)/\w.grownBy w' v.ownBlock:=by
 obtain⟨i0,fL,dh,gW,gG⟩:=I6 Tryz.qv;have hnews:∀j u,vs[j]?=AI u->w.cell? ((⟨vb,0,be⟩:Addr).add j)=AI u:=λj v hj=>by rw[I9,ae hv];simpa using hj
 have HO:Hid (w.ownsRow base 46 9 v n xs):=hown;rcases hown.2 with⟨rfl,rfl⟩|⟨g,c,cur,rfl,_,_,fG,dO,_,_⟩;rotate_left;unfold Il at dO;by_cases Ba:c=n;subst Ba;all_goals
  clear hown hv;go_enter Tryz.func214,Tryz.ntmps214;go_wp2_with (at_builtin;refine Jd _ rfl _ _ 36 rfl base 46 i0 _ 9 104 J4 fL dh gW gG rfl (by omega) _ _ xs rfl HO.out ⟨vb,0,be⟩ 1 1 vs rfl (by omega) hnews mM (by unfold Il;omega) (by omega) hbase ?_);intro v' w' r1 r2 r3;go_wp2_with fail;go_ret;exact⟨v',rfl,r1,r2⟩
theorem fj(base i vb:Nat)(v:Value)(ms:List aT)(m:aT)(w:World)(hown:Own base w v ms)(hi:i<=ms.length)(hn:ms.length<=1000)(hbase:base<=w.heap.size)(hv:w.heap[vb]?=AI (AT m.cs.toArray 46 (0,0)))(aM:v.ownBlock≠AI vb) :
 aF 214 #[v,U O i,J (AI ⟨vb,0,be⟩) 1 1] w λe w'=>∃v',e=By v'/\Own base w' v' (ms.take i++m::ms.drop i)/\w.grownBy w' v.ownBlock:=by
 have hlen:(ms.take i++m::ms.drop i).length=ms.length+1:=by simp;omega
 have GV:fl (ms.take i++m::ms.drop i)=(fl ms).take (i*9)++m.cs++(fl ms).drop (i*9):=by rw[cG,aZ,eY,eZ,Im]
 by_cases nO:i=ms.length
 .subst nO
  refine(fY base ms.length vb v (fl ms) m.cs w hown hn hbase hv rfl (df m)).mono ?_;rintro e w' ⟨v',rfl,h1,h2⟩;refine⟨v',rfl,?_,h2⟩;have e1:ms.take ms.length++m::ms.drop ms.length=ms++[m]:=by simp
  have e2:fl (ms++[m])=fl ms++m.cs:=by rw[cG,aZ];simp[fl]
  rw[e1];show w'.ownsRow base 46 9 v' (ms++[m]).length (fl (ms++[m]));rw[e2,show(ms++[m]).length=ms.length+1 by simp];exact h1
 .rcases hown.2 with⟨_,h0⟩|⟨g,c,cur,rfl,ev,hg,fG,dO,b9,bf⟩
  .omega
  .have pt:vb≠g:=λe=>aM (by simp[Jy,e])
   have lI:∀v∈cur.toList.take (ms.length*9),v.oneCell'=true:=by rw[bf];exact gJ ms
   have Mk:cur.toList.take (i*9)=(fl ms).take (i*9):=by rw[<- bf,QI];congr 1;omega
   have key:∀l:List Value,l=cur.toList.take (i*9)++m.cs++(cur.toList.take (ms.length*9)).drop (i*9)->l=fl (ms.take i++m::ms.drop i):=λl hl=>by rw[hl,GV,bf,Mk]
   by_cases dx:ms.length+1<=c
   .refine(fh g ms.length c i vb cur m.cs w hg b9 (by omega) dx (by unfold Il at dO;omega) pt hv rfl lI (df m)).mono ?_
    rintro e w' ⟨rfl,dR,h1,h2,h3,h4⟩;refine⟨_,rfl,?_,h4⟩;rw[<- hlen];exact ib ev h1 h2 (by omega) dO (key _ (by rw[hlen];exact h3))
   .refine(fi g ms.length c i vb cur m.cs w hg b9 (by omega) fG (by omega) hn hv rfl lI (df m)).mono ?_
    rintro e w' ⟨G,rfl,zi,wZ,dR,h1,h2,h3,h4⟩;refine⟨_,rfl,?_,ni h4 _⟩;rw[<- hlen];exact ib hbase h1 h2 (by omega) wZ (key _ (by rw[hlen];exact h3))
end Sv
namespace Gw
open Go.RowKit
structure bK where
 aD:ByteArray
 addr:Int
 version:Int
def dm:bK:=⟨Iv,0,0⟩
def bK.ok(m:bK):Prop:=m.aD.size<=Il
theorem sD:dm.ok:=by simp[bK.ok,dm]
abbrev As(w:World)(b o:Nat)(m:bK):Prop:=w.cell? ⟨b,o,be⟩=AI (Y m.aD)/\w.cell? ⟨b,o+1,be⟩=AI (U O m.addr)/\w.cell? ⟨b,o+2,be⟩=AI (U O m.version)
theorem As.re{w:World}{b o:Nat}{m:bK}(h:As w b o m):∀d os,As (Go.Sort.grow (redrawn w d) os) b o m:=λd os=>by
 obtain⟨c0,c1,c2⟩:=h;exact⟨Is c0 d os,Is c1 d os,Is c2 d os⟩
theorem As.eq{w w':World}{b o:Nat}{m:bK}(h:As w b o m)(e:∀o,w'.cell? ⟨b,o,be⟩=w.cell? ⟨b,o,be⟩):As w' b o m:=by
 obtain⟨c0,c1,c2⟩:=h;exact⟨(e _).trans c0,(e _).trans c1,(e _).trans c2⟩
def Row(w:World)(b off:Nat)(ms:List bK):Prop:=∀j,j<ms.length->As w b (off+j*3) (ms.getD j dm)
def Sl(w:World)(v:Value)(ms:List bK):Prop:=
 ∃(a:Option Addr) (cap:Nat),v=J a ms.length cap/\(∀j,(ms.getD j dm).ok) /\
  (ms=[]\/∃b off,a=AI ⟨b,off,be⟩/\b<w.heap.size/\Row w b off ms)
def bK.cs(m:bK):List Value:=[Y m.aD,U O m.addr,U O m.version]
def fl(ms:List bK):List Value:=ms.flatMap bK.cs
theorem bB(m:bK):m.cs.length=3:=rfl
theorem aZ(m:bK)(r:List bK):fl (m::r)=m.cs++fl r:=by simp[fl]
theorem cG(a b:List bK):fl (a++b)=fl a++fl b:=by simp[fl]
theorem cP:∀ms:List bK,(fl ms).length=ms.length*3
 |[]=>rfl
 |m::r=>by rw[aZ,Ig,cP r,bB,Iy];omega
theorem eY:∀(ms:List bK) (i:Nat),(fl ms).take (i*3)=fl (ms.take i)
 |[],i=>by simp[fl]
 |m::r,0=>by simp[fl]
 |m::r,i+1=>by
  rw[aZ,Oc,aZ,show(i+1)*3=m.cs.length+i*3 by rw[bB];omega,JX,eY r i]
theorem eZ:∀(ms:List bK) (i:Nat),(fl ms).drop (i*3)=fl (ms.drop i)
 |[],i=>by simp[fl]
 |m::r,0=>by simp
 |m::r,i+1=>by
  rw[aZ,Od,show(i+1)*3=m.cs.length+i*3 by rw[bB];omega,JY,eZ r i]
theorem df(m:bK):∀v∈m.cs,v.oneCell'=true:=by
 intro v hv;simp[bK.cs] at hv;rcases hv with rfl|rfl|rfl<;>rfl
theorem gJ(ms:List bK):∀v∈fl ms,v.oneCell'=true:=by
 intro v hv;obtain⟨m,_,h⟩:=Qe.1 hv;exact df m v h
theorem eb(ms:List bK)(j:Nat)(hj:j<ms.length)(t:Nat)(ht:t<3):(fl ms)[j*3+t]?=(ms.getD j dm).cs[t]?:=by
 induction ms generalizing j with
 |nil=>simp at hj
 |cons m r ih=>
  rw[aZ];cases j with
  |zero=>rw[Js (by rw[bB];omega)];simp
  |succ j=>
   rw[Jr (by rw[bB];omega),bB,show(j+1)*3+t-3=j*3+t by omega,ih j (by simpa using hj)];simp
theorem nW(ms:List bK)(p:Nat)(hp:p<ms.length)(m:bK):((((fl ms).set (p*3) (Y m.aD)).set (p*3+1) (U O m.addr)).set (p*3+2) (U O m.version))=fl (ms.set p m):=by
 induction ms generalizing p with
 |nil=>simp at hp
 |cons x r ih=>
  cases p with
  |zero=>simp[fl,bK.cs]
  |succ p=>
   have L1:=ih p (by simpa using hp);rw[Ot,aZ,aZ,<- L1];simp only[Nat.add_mul,Q4];have e:∀(l:List Value) (k:Nat) (v:Value),(x.cs++l).set (k+3) v=x.cs++l.set k v:=λl k v=>by
    rw[Q5,if_neg (by rw[bB];omega),bB,Qo]
   have c:∀i:Nat,p*3+3+i=(p*3+i)+3:=λi=>by omega
   simp only[c];rw[e,e,e]
abbrev Own(base:Nat)(w:World)(v:Value)(ms:List bK):Prop:=w.ownsRow base 77 3 v ms.length (fl ms)
theorem ib{base g G:Nat}{w:World}{cur:Array Value}{ms:List bK}(hb:base<=g)(hg:w.heap[g]?=AI (AT cur 77 (0,0)))(hs:cur.size=G*3)(hn:ms.length<=G)(hG:G<=Il)(ht:cur.toList.take (ms.length*3)=fl ms) :
 Own base w (J (AI ⟨g,0,be⟩) ms.length G) ms:=⟨cP ms,.inr ⟨g,G,cur,rfl,hb,hg,hn,hG,hs,ht⟩⟩
theorem Own.sl{base:Nat}{w:World}{v:Value}{ms:List bK}(h:Own base w v ms)(hs:∀j,(ms.getD j dm).ok):Sl w v ms:=by
 rcases h.2 with⟨rfl,h0⟩|⟨g,c,cur,rfl,ev,hg,fG,dO,b9,bf⟩
 .exact⟨be,0,by rw[h0],hs,.inl (Je h0)⟩
 .refine⟨_,c,rfl,hs,.inr ⟨g,0,rfl,(BY.1 hg).1,λj hj=>?_⟩⟩
  have hc:∀t,t<3->w.cell? ⟨g,0+j*3+t,be⟩=(ms.getD j dm).cs[t]?:=λt ht=>by
   rw[ae hg,<- eb ms j hj t ht,<- bf,IL (by omega)];simp
  exact⟨hc 0 (by omega),hc 1 (by omega),hc 2 (by omega)⟩
theorem Own.below{base:Nat}{w w':World}{v:Value}{ms:List bK}(h:Own base w v ms)(hb:Below w.heap.size w w'):Own base w' v ms:=by
 rcases h.2 with⟨rfl,h0⟩|⟨g,c,cur,rfl,ev,hg,fG,dO,b9,bf⟩
 .exact⟨h.1,.inl ⟨rfl,h0⟩⟩
 .have aW:=(BY.1 hg).1
  exact⟨h.1,.inr ⟨g,c,cur,rfl,ev,(hb.block g aW).trans hg,fG,dO,b9,bf⟩⟩
theorem Own.lt{base:Nat}{w:World}{v:Value}{ms:List bK}(h:Own base w v ms)(k:Nat)(hk:v.ownBlock=AI k):base<=k/\k<w.heap.size:=OL h k hk
theorem fc{base:Nat}{w w1 w2:World}{v:Value}{ms:List bK}(hb:Below base w w1)(h:Own base w1 v ms)(hg:w1.grownBy w2 v.ownBlock)(hbase:base<=w1.heap.size):Below base w w2:=
 hb.grown hg hbase (λk hk=>(h.lt k hk).1)
theorem ez{base g c:Nat}{w:World}{ms:List bK}(h:Own base w (J (AI ⟨g,0,be⟩) ms.length c) ms)(j:Nat)(hj:j<ms.length) :
 As w g (j*3) (ms.getD j dm):=by
 rcases h.2 with⟨h1,_⟩|⟨g',c',cur,h1,ev,hg,fG,dO,b9,bf⟩
 .cases h1
 .simp only[Value.slice.injEq,Option.some.injEq,Addr.mk.injEq] at h1
  obtain⟨⟨rfl,_,_⟩,_,_⟩:=h1;have hc:∀t,t<3->w.cell? ⟨g,j*3+t,be⟩=(ms.getD j dm).cs[t]?:=λt ht=>by
   rw[ae hg,<- eb ms j hj t ht,<- bf,IL (by omega)];simp
  exact⟨hc 0 (by omega),hc 1 (by omega),hc 2 (by omega)⟩
theorem jJ{base:Nat}{w:World}{v:Value}{ms:List bK}(h:Own base w v ms)(p:Nat)(hp:p<ms.length):∃g c,v=J (AI ⟨g,0,be⟩) ms.length c:=by
 rcases h.2 with⟨_,h0⟩|⟨g,c,cur,h1,_⟩
 .omega
 .exact⟨g,c,h1⟩
theorem lr{base g c p:Nat}{W:World}{ms:List bK}(h:Own base W (J (AI ⟨g,0,be⟩) ms.length c) ms)(hp:p<ms.length)(m:bK) :
 Own base (((W.setCell ⟨g,p*3,be⟩ (Y m.aD)).setCell ⟨g,p*3+1,be⟩ (U O m.addr)).setCell ⟨g,p*3+2,be⟩ (U O m.version)) (J (AI ⟨g,0,be⟩) ms.length c) (ms.set p m):=by
 have h1:=IG h (p*3) (Y m.aD);have h2:=IG h1.1 (p*3+1) (U O m.addr);have h3:=IG h2.1 (p*3+2) (U O m.version);have e:=h3.1;rw[nW ms p hp m] at e;show J1 _ _ _ _ _ (ms.set p m).length _;rw[IS];exact e
theorem Sl.below{w w':World}{v:Value}{ms:List bK}(h:Sl w v ms)(hb:Below w.heap.size w w'):Sl w' v ms:=by
 obtain⟨a,cap,rfl,hs,h⟩:=h;refine⟨a,cap,rfl,hs,?_⟩;rcases h with h|⟨b,off,rfl,aW,hr⟩
 .exact .inl h
 .refine .inr ⟨b,off,rfl,IN aW hb.size,λj hj=>?_⟩
  exact(hr j hj).eq (λo=>(cz hb).1 b o aW)
theorem Row.later{w w':World}{b off:Nat}{ms:List bK}(hr:Row w b off ms)(hb:Below w.heap.size w w')(aW:b<w.heap.size):Row w' b off ms:=λj hj=>(hr j hj).eq (λo=>(cz hb).1 b o aW)
theorem Own.mono{base iK:Nat}{w:World}{v:Value}{ms:List bK}(h:Own base w v ms)(hb:iK<=base):Own iK w v ms:=by
 rcases h.2 with⟨rfl,h0⟩|⟨g,c,cur,rfl,ev,hg,fG,dO,b9,bf⟩
 .exact⟨h.1,.inl ⟨rfl,h0⟩⟩
 .exact⟨h.1,.inr ⟨g,c,cur,rfl,Iq hb ev,hg,fG,dO,b9,bf⟩⟩
theorem bY(base:Nat)(w:World):Own base w (J be 0 0) []:=J2 w base 77 3
theorem dw{ms:List bK}(h:∀j,(ms.getD j dm).ok):∀m∈ms,(m).ok:=by
 intro m hm;obtain⟨j,hj,rfl⟩:=IU hm;have:=h j;simpa[Ip,If hj] using this
theorem cB{ms:List bK}(h:∀m∈ms,(m).ok):∀j,(ms.getD j dm).ok:=by
 intro j;by_cases hj:j<ms.length
 .have:=h ms[j] (IH hj)
  simpa[Ip,If hj] using this
 .rw[Ip,IZ (Qf hj)];exact sD
theorem bD{base:Nat}{w:World}{v:Value}{ms:List bK}(h:Own base w v ms)(hs:∀m∈ms,(m).ok):Sl w v ms:=h.sl (cB hs)
theorem oj(w:World)(b cap:Nat)(m:bK)(hm:(m).ok)(hg:w.heap[b]?=AI (AT #[Y m.aD,U O m.addr,U O m.version] 77 (0,0))):Sl w (J (AI ⟨b,0,be⟩) 1 cap) [m]:=by
 refine⟨_,cap,rfl,cB (λx hx=>by simp at hx;subst hx;exact hm),.inr ⟨b,0,rfl,(BY.1 hg).1,λj hj=>?_⟩⟩
 have:j=0:=by simpa using hj
 subst this;exact⟨ae hg (0+0*3),ae hg (0+0*3+1),ae hg (0+0*3+2)⟩
theorem jK{base:Nat}{w:World}{v:Value}{L:List bK}{m:bK}(h:w.ownsRow base 77 3 v (L.length+1) (fl L++m.cs)):Own base w v (L++[m]):=by
 have e:fl (L++[m])=fl L++m.cs:=by rw[cG,aZ];simp[fl]
 show w.ownsRow base 77 3 v (L++[m]).length (fl (L++[m]));rw[e,Ig];exact h
end Gw
namespace Gw
open Go.RowKit
theorem Tryz.qw:(Tryz.prog.info? 77).map (λi=>(i.zero,i.size,i.bytes))=AI (AI (.agg #[Y ⟨#[]⟩,U O 0,U O 0]),3,32):=by kernel_rfl
theorem Ha:(Tryz.prog.info? 77).map (·.size)=AI 3:=by
 obtain⟨i,hi,h1,h2,h3⟩:=I6 Tryz.qw;rw[hi];simp[h2]
theorem sizeOf77(w:World):(Go.sizeOf 77).run AS w=.ok 3 w:=by
 obtain⟨i,hi,h1,h2,h3⟩:=I6 Tryz.qw;simp[Go.sizeOf,typeInfo,hi,h2]
theorem eJ(w:World)(g vb o lb cb:Nat)(cur vs:Array Value)(hg:w.heap[g]?=AI (AT cur 77 (0,0)))(hv:w.heap[vb]?=AI (AT vs 77 (0,0)))(aM:vb≠g)(hk:cur.size≠0) : (callFunc 248 #[J (AI ⟨vb,0,be⟩) 1 1,J (AI ⟨g,o,be⟩) lb cb]).run AS w=.ok (.value (Ia false)) w:=by
 rw[OH Tryz.func248 (by kernel_rfl) (by kernel_rfl) (by kernel_rfl) (e:=Ox #[37,37] #[4]) (by kernel_rfl),
  Qw w 37 4 77 J5 3 sizeOf77 ⟨vb,0,be⟩ ⟨g,o,be⟩ 1 1 lb cb aM 77 77 vs.size cur.size (by simp[OZ,hv]) (by simp[OZ,hg]) hk (by simp[Ir,hv]) (by simp[Ir,hv])]
 rfl
theorem fh(g n c i vb:Nat)(cur:Array Value)(vs:List Value)(w:World)(hg:w.heap[g]?=AI (AT cur 77 (0,0)))(b9:cur.size=c*3)(hi:i<n)(dx:n+1<=c)(A9:c<=9223372036854775807)(pt:vb≠g)(hv:w.heap[vb]?=AI (AT vs.toArray 77 (0,0)))(lj:vs.length=3)(lI:∀v∈cur.toList.take (n*3),v.oneCell'=true)(mM:∀v∈vs,v.oneCell'=true) :
 aF 216 #[J (AI ⟨g,0,be⟩) n c,U O i,J (AI ⟨vb,0,be⟩) 1 1] w λe w'=>e=By (J (AI ⟨g,0,be⟩) (n+1) c) /\
  ∃dR:Array Value,w'.heap[g]?=AI (AT dR 77 (0,0))/\dR.size=c*3/\dR.toList.take ((n+1)*3)=cur.toList.take (i*3)++vs++(cur.toList.take (n*3)).drop (i*3)/\w.grownBy w' (AI g):=by
 have RI:=λo lb cb=>eJ w g vb o lb cb cur vs.toArray hg hv pt (by omega);have nF:¬ ((i:Int)=(n:Int)):=by omega
 have aJ:¬ (c=i+1):=by omega
 have eO:¬ (c=i):=by omega
 have bV:(i:Int)<=(n:Int)+1:=by omega
 obtain⟨W1,W2,ot,sX,HF⟩:=po J5 Ha hg b9 hi dx pt hv lj lI mM;have HF:Hid _:=HF;clear lI mM hg hv;have Mj:IntKind.i64.wrap ((i:Int)+1)=(i:Int)+1:=by rw[IY];omega
 have aB:(0:Int)<=(i:Int)+1:=by omega
 have nO:i<=n:=by omega
 have DZ:((i:Int)+1).toNat=i+1:=by omega
 go_enter Tryz.func216,Tryz.ntmps216;go_wp2_with (simp only[RI]);go_region_law (refine du rfl _ _ 37 37 rfl _ _ (by simp[M2,Oo]) (by simp[M2,Oo]) (ot _ _ _) ?_)
 go_wp2_with fail;go_ret;exact⟨rfl,HF.out⟩
theorem fi(g n c i vb:Nat)(cur:Array Value)(vs:List Value)(w:World)(hg:w.heap[g]?=AI (AT cur 77 (0,0)))(b9:cur.size=c*3)(hi:i<n)(fG:n<=c)(dx:c<n+1)(A9:n<=1000)(hv:w.heap[vb]?=AI (AT vs.toArray 77 (0,0)))(lj:vs.length=3)(lI:∀v∈cur.toList.take (n*3),v.oneCell'=true)(mM:∀v∈vs,v.oneCell'=true) :
 aF 216 #[J (AI ⟨g,0,be⟩) n c,U O i,J (AI ⟨vb,0,be⟩) 1 1] w λe w'=>∃G,e=By (J (AI ⟨w.heap.size,0,be⟩) (n+1) G)/\n+1<=G/\G<=Il /\
  ∃dR:Array Value,w'.heap[w.heap.size]?=AI (AT dR 77 (0,0))/\dR.size=G*3/\dR.toList.take ((n+1)*3)=cur.toList.take (i*3)++vs++(cur.toList.take (n*3)).drop (i*3)/\w.grownBy w' be:=by
 obtain⟨i0,fL,dh,gW,gG⟩:=I6 Tryz.qw;have Ba:c=n:=by omega
 subst Ba;have nF:¬ ((i:Int)=(c:Int)):=by omega
 have qi:(c:Int)<(c:Int)+1:=by omega
 have sj:(c:Int)+1-(i:Int)=((c+1-i:Nat):Int):=by omega
 have Bb:i+(c+1-i)=c+1:=by omega
 have hold:(Qm i0.size i (J (AI ⟨g,0,be⟩) i c)).run AS w.drew=.ok (cur.toList.take (i*3)).toArray w.drew:=by
  rw[gW];exact QZ w.drew 3 i ⟨g,0,be⟩ i c (cur.toList.take (i*3)) (by rw[IA,IV];omega) (λj v hj=>by
   have e:w.drew.cell? ((⟨g,0,be⟩:Addr).add j)=cur[j]?:=by rw[I9,IC];exact ae hg _
   rw[e];rw[Qq] at hj;split at hj
   .simpa using hj
   .cases hj)
 have wY:∀ty,∃G mr,c+1<=G/\G<=Il/\mr.size=G*3/\mr.toList.take (i*3)=cur.toList.take (i*3)/\(Q6 #[37,3] ty #[J (AI ⟨g,0,be⟩) i c,U O ((c:Int)+1-(i:Int))]).run AS w =
  .ok (J (AI ⟨w.heap.size,0,be⟩) (c+1) G) (w.drew.alloc (AT mr 77)):=λty=>by
  have h:=Qc w 37 3 ty 77 i0 _ O O J5 ID fL dh (AI ⟨g,0,be⟩) i c (cur.toList.take (i*3)) hold (c+1-i) (by omega) (by omega) (by omega) (by omega) (by rw[gG];omega) (by rw[gG,Bb];exact growslice_fits dx (by omega));rw[Bb] at h;rw[sj];have h1:=grownCap_ge w (c+1) c 77;refine⟨_,_,h1,Ud w (c+1) c 77 (by unfold Il;omega),?_,?_,h⟩
  .simp only[Array.size_append,JV,size_zeroCells,IA,IV,b9,Value.cells]
   simp;omega
  .simp only[Q0,Im]
   exact OE (by simp only[IA,IV,b9];omega)
 obtain⟨G,mr,zi,wZ,Au,DY,wY⟩:=wY 37;have RJ:G<=9223372036854775807:=by unfold Il at wZ;omega
 obtain⟨W2,W3,ot,sX,HF⟩:=pA J5 Ha hg b9 hi hv lj lI mM zi Au DY;obtain⟨W1,cM⟩:∃W1,W1=(w.alloc (AT mr 77)).drew:=⟨_,rfl⟩;have G9:w.drew.alloc (AT mr 77)=W1:=by rw[cM];rfl
 rw[G9] at wY;rw[<- cM] at ot;have HF:Hid _:=HF;have Mj:IntKind.i64.wrap ((i:Int)+1)=(i:Int)+1:=by rw[IY];omega
 have aB:(0:Int)<=(i:Int)+1:=by omega
 have nO:i<=c:=by omega
 have DZ:((i:Int)+1).toNat=i+1:=by omega
 have hGi:¬ (G=i):=by omega
 have RM:¬ (G=i+1):=by omega
 have hci:¬ (c=i):=by omega
 clear cM lI mM G9 Au DY sj Bb hold hg hv fL dh gW gG;go_enter Tryz.func216,Tryz.ntmps216;go_wp2_with (at_builtin;refine QC _ rfl _ _ _ _ rfl _ _ rfl rfl _ _ wY ?_);go_region_law (refine du rfl _ _ 37 37 rfl _ _ (by simp[M2,Oo]) (by simp[M2,Oo]) (sX _ _ _) ?_)
 go_wp2_with fail;go_ret;exact⟨G,rfl,zi,wZ,HF.out⟩
theorem fY(base n vb:Nat)(v:Value)(xs vs:List Value)(w:World)(hown:w.ownsRow base 77 3 v n xs)(hn:n<=1000)(hbase:base<=w.heap.size)(hv:w.heap[vb]?=AI (AT vs.toArray 77 (0,0)))(lj:vs.length=3)(mM:∀v∈vs,v.oneCell'=true) :
 aF 216 #[v,U O n,J (AI ⟨vb,0,be⟩) 1 1] w λe w'=>∃v',e=By v'/\w'.ownsRow base 77 3 v' (n+1) (xs++vs)/\w.grownBy w' v.ownBlock:=by
 obtain⟨i0,fL,dh,gW,gG⟩:=I6 Tryz.qw;have hnews:∀j u,vs[j]?=AI u->w.cell? ((⟨vb,0,be⟩:Addr).add j)=AI u:=λj v hj=>by rw[I9,ae hv];simpa using hj
 have HO:Hid (w.ownsRow base 77 3 v n xs):=hown;rcases hown.2 with⟨rfl,rfl⟩|⟨g,c,cur,rfl,_,_,fG,dO,_,_⟩;rotate_left;unfold Il at dO;by_cases Ba:c=n;subst Ba;all_goals
  clear hown hv;go_enter Tryz.func216,Tryz.ntmps216;go_wp2_with (at_builtin;refine Jd _ rfl _ _ 37 rfl base 77 i0 _ 3 32 J5 fL dh gW gG rfl (by omega) _ _ xs rfl HO.out ⟨vb,0,be⟩ 1 1 vs rfl (by omega) hnews mM (by unfold Il;omega) (by omega) hbase ?_);intro v' w' r1 r2 r3;go_wp2_with fail;go_ret;exact⟨v',rfl,r1,r2⟩
theorem fj(base i vb:Nat)(v:Value)(ms:List bK)(m:bK)(w:World)(hown:Own base w v ms)(hi:i<=ms.length)(hn:ms.length<=1000)(hbase:base<=w.heap.size)(hv:w.heap[vb]?=AI (AT m.cs.toArray 77 (0,0)))(aM:v.ownBlock≠AI vb) :
 aF 216 #[v,U O i,J (AI ⟨vb,0,be⟩) 1 1] w λe w'=>∃v',e=By v'/\Own base w' v' (ms.take i++m::ms.drop i)/\w.grownBy w' v.ownBlock:=by
 have hlen:(ms.take i++m::ms.drop i).length=ms.length+1:=by simp;omega
 have GV:fl (ms.take i++m::ms.drop i)=(fl ms).take (i*3)++m.cs++(fl ms).drop (i*3):=by rw[cG,aZ,eY,eZ,Im]
 by_cases nO:i=ms.length
 .subst nO
  refine(fY base ms.length vb v (fl ms) m.cs w hown hn hbase hv rfl (df m)).mono ?_;rintro e w' ⟨v',rfl,h1,h2⟩;refine⟨v',rfl,?_,h2⟩;have e1:ms.take ms.length++m::ms.drop ms.length=ms++[m]:=by simp
  have e2:fl (ms++[m])=fl ms++m.cs:=by rw[cG,aZ];simp[fl]
  rw[e1];show w'.ownsRow base 77 3 v' (ms++[m]).length (fl (ms++[m]));rw[e2,show(ms++[m]).length=ms.length+1 by simp];exact h1
 .rcases hown.2 with⟨_,h0⟩|⟨g,c,cur,rfl,ev,hg,fG,dO,b9,bf⟩
  .omega
  .have pt:vb≠g:=λe=>aM (by simp[Jy,e])
   have lI:∀v∈cur.toList.take (ms.length*3),v.oneCell'=true:=by rw[bf];exact gJ ms
   have Mk:cur.toList.take (i*3)=(fl ms).take (i*3):=by rw[<- bf,QI];congr 1;omega
   have key:∀l:List Value,l=cur.toList.take (i*3)++m.cs++(cur.toList.take (ms.length*3)).drop (i*3)->l=fl (ms.take i++m::ms.drop i):=λl hl=>by rw[hl,GV,bf,Mk]
   by_cases dx:ms.length+1<=c
   .refine(fh g ms.length c i vb cur m.cs w hg b9 (by omega) dx (by unfold Il at dO;omega) pt hv rfl lI (df m)).mono ?_
    rintro e w' ⟨rfl,dR,h1,h2,h3,h4⟩;refine⟨_,rfl,?_,h4⟩;rw[<- hlen];exact ib ev h1 h2 (by omega) dO (key _ (by rw[hlen];exact h3))
   .refine(fi g ms.length c i vb cur m.cs w hg b9 (by omega) fG (by omega) hn hv rfl lI (df m)).mono ?_
    rintro e w' ⟨G,rfl,zi,wZ,dR,h1,h2,h3,h4⟩;refine⟨_,rfl,?_,ni h4 _⟩;rw[<- hlen];exact ib hbase h1 h2 (by omega) wZ (key _ (by rw[hlen];exact h3))
end Gw
namespace Lt
open Go.RowKit
structure fb where
 to:Int
 text:ByteArray
def dm:fb:=⟨0,Iv⟩
def fb.ok(m:fb):Prop:=m.text.size<=Il
theorem sD:dm.ok:=by simp[fb.ok,dm]
abbrev As(w:World)(b o:Nat)(m:fb):Prop:=w.cell? ⟨b,o,be⟩=AI (U O m.to)/\w.cell? ⟨b,o+1,be⟩=AI (Y m.text)
theorem As.eq{w w':World}{b o:Nat}{m:fb}(h:As w b o m)(e:∀o,w'.cell? ⟨b,o,be⟩=w.cell? ⟨b,o,be⟩):As w' b o m:=by
 obtain⟨c0,c1⟩:=h;exact⟨(e _).trans c0,(e _).trans c1⟩
def Row(w:World)(b off:Nat)(ms:List fb):Prop:=∀j,j<ms.length->As w b (off+j*2) (ms.getD j dm)
def Sl(w:World)(v:Value)(ms:List fb):Prop:=
 ∃(a:Option Addr) (cap:Nat),v=J a ms.length cap/\(∀j,(ms.getD j dm).ok) /\
  (ms=[]\/∃b off,a=AI ⟨b,off,be⟩/\b<w.heap.size/\Row w b off ms)
def fb.cs(m:fb):List Value:=[U O m.to,Y m.text]
def fl(ms:List fb):List Value:=ms.flatMap fb.cs
theorem bB(m:fb):m.cs.length=2:=rfl
theorem aZ(m:fb)(r:List fb):fl (m::r)=m.cs++fl r:=by simp[fl]
theorem cG(a b:List fb):fl (a++b)=fl a++fl b:=by simp[fl]
theorem cP:∀ms:List fb,(fl ms).length=ms.length*2
 |[]=>rfl
 |m::r=>by rw[aZ,Ig,cP r,bB,Iy];omega
theorem eY:∀(ms:List fb) (i:Nat),(fl ms).take (i*2)=fl (ms.take i)
 |[],i=>by simp[fl]
 |m::r,0=>by simp[fl]
 |m::r,i+1=>by
  rw[aZ,Oc,aZ,show(i+1)*2=m.cs.length+i*2 by rw[bB];omega,JX,eY r i]
theorem eZ:∀(ms:List fb) (i:Nat),(fl ms).drop (i*2)=fl (ms.drop i)
 |[],i=>by simp[fl]
 |m::r,0=>by simp
 |m::r,i+1=>by
  rw[aZ,Od,show(i+1)*2=m.cs.length+i*2 by rw[bB];omega,JY,eZ r i]
theorem df(m:fb):∀v∈m.cs,v.oneCell'=true:=by
 intro v hv;simp[fb.cs] at hv;rcases hv with rfl|rfl<;>rfl
theorem gJ(ms:List fb):∀v∈fl ms,v.oneCell'=true:=by
 intro v hv;obtain⟨m,_,h⟩:=Qe.1 hv;exact df m v h
theorem eb(ms:List fb)(j:Nat)(hj:j<ms.length)(t:Nat)(ht:t<2):(fl ms)[j*2+t]?=(ms.getD j dm).cs[t]?:=by
 induction ms generalizing j with
 |nil=>simp at hj
 |cons m r ih=>
  rw[aZ];cases j with
  |zero=>rw[Js (by rw[bB];omega)];simp
  |succ j=>
   rw[Jr (by rw[bB];omega),bB,show(j+1)*2+t-2=j*2+t by omega,ih j (by simpa using hj)];simp
abbrev Own(base:Nat)(w:World)(v:Value)(ms:List fb):Prop:=w.ownsRow base 102 2 v ms.length (fl ms)
theorem Own.sl{base:Nat}{w:World}{v:Value}{ms:List fb}(h:Own base w v ms)(hs:∀j,(ms.getD j dm).ok):Sl w v ms:=by
 rcases h.2 with⟨rfl,h0⟩|⟨g,c,cur,rfl,ev,hg,fG,dO,b9,bf⟩
 .exact⟨be,0,by rw[h0],hs,.inl (Je h0)⟩
 .refine⟨_,c,rfl,hs,.inr ⟨g,0,rfl,(BY.1 hg).1,λj hj=>?_⟩⟩
  have hc:∀t,t<2->w.cell? ⟨g,0+j*2+t,be⟩=(ms.getD j dm).cs[t]?:=λt ht=>by
   rw[ae hg,<- eb ms j hj t ht,<- bf,IL (by omega)];simp
  exact⟨hc 0 (by omega),hc 1 (by omega)⟩
theorem Own.below{base:Nat}{w w':World}{v:Value}{ms:List fb}(h:Own base w v ms)(hb:Below w.heap.size w w'):Own base w' v ms:=by
 rcases h.2 with⟨rfl,h0⟩|⟨g,c,cur,rfl,ev,hg,fG,dO,b9,bf⟩
 .exact⟨h.1,.inl ⟨rfl,h0⟩⟩
 .have aW:=(BY.1 hg).1
  exact⟨h.1,.inr ⟨g,c,cur,rfl,ev,(hb.block g aW).trans hg,fG,dO,b9,bf⟩⟩
theorem Sl.below{w w':World}{v:Value}{ms:List fb}(h:Sl w v ms)(hb:Below w.heap.size w w'):Sl w' v ms:=by
 obtain⟨a,cap,rfl,hs,h⟩:=h;refine⟨a,cap,rfl,hs,?_⟩;rcases h with h|⟨b,off,rfl,aW,hr⟩
 .exact .inl h
 .refine .inr ⟨b,off,rfl,IN aW hb.size,λj hj=>?_⟩
  exact(hr j hj).eq (λo=>(cz hb).1 b o aW)
theorem Row.later{w w':World}{b off:Nat}{ms:List fb}(hr:Row w b off ms)(hb:Below w.heap.size w w')(aW:b<w.heap.size):Row w' b off ms:=λj hj=>(hr j hj).eq (λo=>(cz hb).1 b o aW)
theorem Own.mono{base iK:Nat}{w:World}{v:Value}{ms:List fb}(h:Own base w v ms)(hb:iK<=base):Own iK w v ms:=by
 rcases h.2 with⟨rfl,h0⟩|⟨g,c,cur,rfl,ev,hg,fG,dO,b9,bf⟩
 .exact⟨h.1,.inl ⟨rfl,h0⟩⟩
 .exact⟨h.1,.inr ⟨g,c,cur,rfl,Iq hb ev,hg,fG,dO,b9,bf⟩⟩
theorem bY(base:Nat)(w:World):Own base w (J be 0 0) []:=J2 w base 102 2
theorem cB{ms:List fb}(h:∀m∈ms,(m).ok):∀j,(ms.getD j dm).ok:=by
 intro j;by_cases hj:j<ms.length
 .have:=h ms[j] (IH hj)
  simpa[Ip,If hj] using this
 .rw[Ip,IZ (Qf hj)];exact sD
theorem bD{base:Nat}{w:World}{v:Value}{ms:List fb}(h:Own base w v ms)(hs:∀m∈ms,(m).ok):Sl w v ms:=h.sl (cB hs)
end Lt
namespace Gw
open Go.RowKit
theorem eU(ms:List bK)(v:Value)(w:World)(h:Sl w v ms)(hn:ms.length<=1000) :
 aF 60 #[v] w λe w'=>∃v',e=By v'/\Own w.heap.size w' v' ms/\Below w.heap.size w w':=by
 obtain⟨a,cap,rfl,hs,h⟩:=h;obtain⟨i0,fL,dh,gW,gG⟩:=I6 Tryz.qw;cases a with
 |none=>
  have he:ms=[]:=by
   rcases h with h|⟨b,off,h,_⟩
   .exact h
   .cases h
  subst he;clear h hs;have gL:=λ(w:World)=>Ju (P:=AS) w 37 77 be 0 cap 0 0 J5;simp only[IW,OQ] at gL ⊢;go_enter Tryz.func60,Tryz.ntmps60;go_wp2_with fail;go_ret;exact⟨_,rfl,bY _ _,Below.refl _ _⟩
 |some a=>
  have gL:=λ(w:World)=>Ju (P:=AS) w 37 77 (AI a) ms.length cap 0 0 J5;simp only[OR] at gL;have hnews:Hid (∀j u,(fl ms)[j]?=AI u->(w.alloc (AT #[] 77)).cell? (a.add j)=AI u):=by
   intro j u hj;rcases h with h|⟨b,off,h,hb,hr⟩
   .subst h;simp[fl] at hj
   .cases h
    have Rh:j<ms.length*3:=by rw[<- cP];exact(Jm.1 hj).1
    have h1:=eb ms (j/3) (by omega) (j%3) (by omega);rw[show j/3*3+j%3=j by omega,hj] at h1;rw[I9,Og (w:=w) _ b _ hb];obtain⟨c0,c1,c2⟩:=hr (j/3) (by omega);have b9:j%3=0\/j%3=1\/j%3=2:=by omega
    rcases b9 with e|e|e
    .rw[show off+j=off+j/3*3 by omega,c0];rw[e] at h1;simpa[bK.cs] using h1.symm
    .rw[show off+j=off+j/3*3+1 by omega,c1];rw[e] at h1;simpa[bK.cs] using h1.symm
    .rw[show off+j=off+j/3*3+2 by omega,c2];rw[e] at h1;simpa[bK.cs] using h1.symm
  have HO:Hid ((w.alloc (AT #[] 77)).ownsRow w.heap.size 77 3 (J (AI ⟨w.heap.size,0,be⟩) 0 0) 0 []):=OS w #[] 0 (Ic _) (by unfold Il;omega) rfl;clear h hs;go_enter Tryz.func60,Tryz.ntmps60;go_wp2_with (at_builtin;refine Jd _ rfl _ _ 37 rfl w.heap.size 77 i0 _ 3 32 J5 fL dh gW gG rfl (by omega) _ 0 [] rfl HO.out a ms.length cap (fl ms) rfl (cP ms) hnews.out (gJ ms) (by unfold Il;omega) (by omega) (by simp) ?_);intro v' w' r1 r2 r3;go_wp2_with fail;go_ret;refine⟨v',rfl,?_,?_⟩
  .simpa using r1
  .exact((Below.refl _ _).alloc (Ic _) _).grown r2 (by simp) (λk hk=>by simp[Jy] at hk;omega)
end Gw
namespace Lt
open Go.RowKit
theorem Tryz.Ml:(Tryz.prog.info? 102).map (λi=>(i.zero,i.size,i.bytes))=AI (AI (.agg #[U O 0,Y ⟨#[]⟩]),2,24):=by kernel_rfl
end Lt
namespace Lt
open Go.RowKit
theorem eU(ms:List fb)(v:Value)(w:World)(h:Sl w v ms)(hn:ms.length<=1000) :
 aF 50 #[v] w λe w'=>∃v',e=By v'/\Own w.heap.size w' v' ms/\Below w.heap.size w w':=by
 obtain⟨a,cap,rfl,hs,h⟩:=h;obtain⟨i0,fL,dh,gW,gG⟩:=I6 Tryz.Ml;cases a with
 |none=>
  have he:ms=[]:=by
   rcases h with h|⟨b,off,h,_⟩
   .exact h
   .cases h
  subst he;clear h hs;have gL:=λ(w:World)=>Ju (P:=AS) w 25 102 be 0 cap 0 0 Qa;simp only[IW,OQ] at gL ⊢;go_enter Tryz.func50,Tryz.ntmps50;go_wp2_with fail;go_ret;exact⟨_,rfl,bY _ _,Below.refl _ _⟩
 |some a=>
  have gL:=λ(w:World)=>Ju (P:=AS) w 25 102 (AI a) ms.length cap 0 0 Qa;simp only[OR] at gL;have hnews:Hid (∀j u,(fl ms)[j]?=AI u->(w.alloc (AT #[] 102)).cell? (a.add j)=AI u):=by
   intro j u hj;rcases h with h|⟨b,off,h,hb,hr⟩
   .subst h;simp[fl] at hj
   .cases h
    have Rh:j<ms.length*2:=by rw[<- cP];exact(Jm.1 hj).1
    have h1:=eb ms (j/2) (by omega) (j%2) (by omega);rw[show j/2*2+j%2=j by omega,hj] at h1;rw[I9,Og (w:=w) _ b _ hb];obtain⟨c0,c1⟩:=hr (j/2) (by omega);have b9:j%2=0\/j%2=1:=by omega
    rcases b9 with e|e
    .rw[show off+j=off+j/2*2 by omega,c0];rw[e] at h1;simpa[fb.cs] using h1.symm
    .rw[show off+j=off+j/2*2+1 by omega,c1];rw[e] at h1;simpa[fb.cs] using h1.symm
  have HO:Hid ((w.alloc (AT #[] 102)).ownsRow w.heap.size 102 2 (J (AI ⟨w.heap.size,0,be⟩) 0 0) 0 []):=OS w #[] 0 (Ic _) (by unfold Il;omega) rfl;clear h hs;go_enter Tryz.func50,Tryz.ntmps50;go_wp2_with (at_builtin;refine Jd _ rfl _ _ 25 rfl w.heap.size 102 i0 _ 2 24 Qa fL dh gW gG rfl (by omega) _ 0 [] rfl HO.out a ms.length cap (fl ms) rfl (cP ms) hnews.out (gJ ms) (by unfold Il;omega) (by omega) (by simp) ?_);intro v' w' r1 r2 r3;go_wp2_with fail;go_ret;refine⟨v',rfl,?_,?_⟩
  .simpa using r1
  .exact((Below.refl _ _).alloc (Ic _) _).grown r2 (by simp) (λk hk=>by simp[Jy] at hk;omega)
end Lt
namespace Sv
open Go.ChangeShapes Go.WideShapes Go.ChangeAt Go.RowKit
section
variable {H:Type} {enc:TypeId × Value→H} {w:World} {base:Nat} {spare:Nat→Bool} {held:Bool}
theorem Tryz.kcT:Tryz.prog.cellsOf 46=9:=by kernel_rfl
theorem Tryz.kc9:Tryz.prog.cellsOf 9=1:=by kernel_rfl
theorem Tryz.L2:Tryz.prog.cellsOf 3=1:=by kernel_rfl
theorem Tryz.kc4:Tryz.prog.cellsOf 4=1:=by kernel_rfl
theorem zj{fuel:Nat}{cs:List Value}{x:DataW H×List MemPlace}(h:DataW.trod enc AS w base spare held fuel 46 cs=AI x) :
 ∃m:aT,cs=[Y m.node,Y m.bu,Y m.name,Y m.tag,U O m.addr,U O m.port,Ia m.aj,U O m.version,Ia m.gone]/\(m).ok:=by
 obtain⟨xs,n,_,_,hl,hlen,hf⟩:=DataW.trod_struct Tryz.underlying46 h;rw[Tryz.kcT] at hl
 match cs,hl with
 |[c0,c1,c2,c3,c4,c5,c6,c7,c8],_=>
  match xs,hlen with
  |[y0,y1,y2,y3,y4,y5,y6,y7,y8],_=>
   have h0:=hf 0 _ rfl;have h1:=hf 1 _ rfl;have h2:=hf 2 _ rfl;have h3:=hf 3 _ rfl;have h4:=hf 4 _ rfl;have h5:=hf 5 _ rfl;have h6:=hf 6 _ rfl;have h7:=hf 7 _ rfl;have h8:=hf 8 _ rfl;simp[Tryz.kc9] at h0;simp[Tryz.kc9] at h1;simp[Tryz.kc9] at h2;simp[Tryz.kc9] at h3;simp[Tryz.L2] at h4;simp[Tryz.L2] at h5;simp[Tryz.kc4] at h6;simp[Tryz.L2] at h7;simp[Tryz.kc4] at h8;obtain⟨z0,e0,_,g0⟩:=QD Ja h0;obtain⟨z1,e1,_,g1⟩:=QD Ja h1;obtain⟨z2,e2,_,g2⟩:=QD Ja h2;obtain⟨z3,e3,_,g3⟩:=QD Ja h3;obtain⟨z4,e4,_⟩:=JZ ID h4;obtain⟨z5,e5,_⟩:=JZ ID h5;obtain⟨z6,e6,_⟩:=DataW.trod_bool JK h6;obtain⟨z7,e7,_⟩:=JZ ID h7;obtain⟨z8,e8,_⟩:=DataW.trod_bool JK h8;simp only[List.cons.injEq,and_true] at e0 e1 e2 e3 e4 e5 e6 e7 e8;subst e0 e1 e2 e3 e4 e5 e6 e7 e8;exact⟨⟨z0,z1,z2,z3,z4,z5,z6,z7,z8⟩,rfl,⟨g0,g1,g2,g3⟩⟩
end
end Sv
end Go.Proofs.YtfidhgjmifendaaGreatDoor
