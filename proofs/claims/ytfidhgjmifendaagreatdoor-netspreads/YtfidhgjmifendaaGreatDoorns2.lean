import Derived.Test.YtfidhgjmifendaaGreatDoorns1
set_option maxHeartbeats 1000000
set_option maxRecDepth 100000
open Go.Obj renaming cells→By
open Option renaming some→AI,none→be,isNone_none→OP,isNone_some→OQ
open Go.Addr renaming add_lit→I9
open List renaming getElem?_take→Qp,length_drop→JM,length_take→IA,mem_of_mem_drop→QR,size_toArray→JX,length_append→Ig,append_assoc→Io,take_take→QJ,take_left'→OC,length_cons→Iw,take_succ_cons→Od,take_length_add_append→JY,drop_succ_cons→Oe,drop_length_add_append→JZ,mem_flatMap→Qd,getElem?_append_left→Js,getElem?_append_right→Jr,set_cons_succ→Ou,set_append→Q8,eq_nil_of_length_eq_zero→Jc,getElem?_take_of_lt→IN,length_set→IM,getElem_of_mem→IX,getD→Ip,getElem?_eq_getElem→If,getElem_mem→IJ,getElem?_eq_none→I1,getD_cons_zero→I4,getD_cons_succ→JB,length_nil→IV,getElem?_eq_some_iff→Jl
open Go.Value renaming slice→J,string→Y,int→U,bool→Ia,ownBlock→Jz
open Go.Builtin renaming copy_→Qs,firstCells→Ql,append_→Q9
open Nat renaming mul_le_mul_right→Ox,one_mul→Q7,add_sub_cancel→Qn,lt_of_lt_of_le→IL,le_trans→Ir,le_of_not_lt→Qe,zero_add→IC,le_refl→Ic
open Array renaming length_toList→IU,getElem?_eq_some_iff→BY,toList_append→Q2
open ByteArray renaming empty→Iv
open Go renaming maxLen→Il,cell_regrown→Iq,info_parts→I6,run_callFunc_extern→OF,run_firstCells_some→Q1,grownCap_le_maxLen→Ug,wpList_append_own→Ja
open Go.IntKind renaming i64→O,wrap_i64→IW
open Go.World.ownsRow renaming lt→OK,stored→II
open Go.World renaming ownsRow→J4,ownsRow_nil→J5,shape?→OW,frozen?→Is,cell?_alloc_past→Og,ownsRow_made→OR
open Go.Proofs.Tryz renaming prog→AS,underlying36→J6,underlying3→ID,underlying37→J8,underlying25→Qa
open Go.Extern.SlicesOverlaps renaming overlaps→Ow
open Go.Lib renaming run_overlaps_apart→Qv,run_append_grow_zeros→Qb,wpList_append_run→QD,run_eql_slice_nil→Ju
open Go.Ending renaming returned→AT
open Go.Act renaming eval→No,put→Oq
namespace Go.Proofs.YtfidhgjmifendaaGreatDoor
open Go.RowKit
section
variable {P:Program} {S T:TypeId} {k:Nat}
theorem Ke{w:World}{g i n:Nat}{cur:Array Value}(hg:w.heap[g]?=AI (By cur T (0,0))):∀j v,((cur.toList.take n).drop i)[j]?=AI v->w.cell? ((⟨g,i,be⟩:Addr).add j)=AI v:=λj v hj=>by
 rw[show w.cell? ((⟨g,i,be⟩:Addr).add j)=cur[i+j]? by rw[I9];exact ae hg _];rw[List.getElem?_drop,Qp] at hj;split at hj
 .simpa using hj
 .cases hj
theorem qe(hu:P.underlying S=AI (.slice T))(cI:(P.info? T).map (·.size)=AI k){g n c i vb:Nat}{cur:Array Value}{vs:List Value}{w:World}(hg:w.heap[g]?=AI (By cur T (0,0)))(cf:cur.size=c*k)(hi:i<n)(dz:n+1<=c)(qf:vb≠g)(hv:w.heap[vb]?=AI (By vs.toArray T (0,0)))(kB:vs.length=k)(l9:∀v∈cur.toList.take (n*k),v.oneCell'=true)(mW:∀v∈vs,v.oneCell'=true) :
 ∃W1 W2,(∀ty dc sc,(Qs #[S,S] ty #[J (AI ⟨g,(i+1)*k,be⟩) (n-i) dc,J (AI ⟨g,i*k,be⟩) (n+1-i) sc]).run P w.drew=.ok (goInt (Nat.min (n+1-i) (n-i))) W1) /\
  (∀ty dc,(Qs #[S,S] ty #[J (AI ⟨g,i*k,be⟩) (n+1-i) dc,J (AI ⟨vb,0,be⟩) 1 1]).run P W1=.ok (goInt (Nat.min 1 (n+1-i))) W2) /\
  ∃dV:Array Value,W2.heap[g]?=AI (By dV T (0,0))/\dV.size=c*k/\dV.toList.take ((n+1)*k)=cur.toList.take (i*k)++vs++(cur.toList.take (n*k)).drop (i*k)/\w.grownBy W2 (AI g):=by
 have m1:(i+1)*k=i*k+k:=Nat.succ_mul i k;have m2:(n+1)*k=n*k+k:=Nat.succ_mul n k;have m3:i*k<=n*k:=Ox k (by omega);have m4:(n+1)*k<=c*k:=Ox k dz;have m5:(n-i)*k=n*k-i*k:=Nat.sub_mul n i k;have MX:((cur.toList.take (n*k)).drop (i*k)).length=(n-i)*k:=by
  simp only[JM,IA,IU];omega
 have hX1:∀v∈(cur.toList.take (n*k)).drop (i*k),v.oneCell'=true:=λv hv=>l9 v (QR hv);have hXs:=Ke (w:=w.drew) (i:=i*k) (n:=n*k) hg;generalize hX:(cur.toList.take (n*k)).drop (i*k)=X at *;obtain⟨C1,PU⟩:∃C1:Array Value,C1=(cur.toList.take ((i+1)*k)++X++cur.toList.drop ((i+1)*k+X.length)).toArray:=⟨_,rfl⟩;obtain⟨W1,cT⟩:∃W1,W1=w.drew.setRow g C1:=⟨_,rfl⟩;have cO:W1.heap[g]?=AI (By C1 T (0,0)):=by rw[cT];exact setRow_heap w.drew g cur C1 T (0,0) hg
 have zF:∀q,q≠g->W1.heap[q]?=w.heap[q]?:=λq hq=>by rw[cT,setRow_other w.drew g q C1 hq];rfl
 have AW:W1.heap[vb]?=AI (By vs.toArray T (0,0)):=by rw[zF vb qf];exact hv
 have ft:C1.size=c*k:=by
  rw[PU];simp only[JX,Ig,IA,JM,IU,MX,cf];omega
 obtain⟨C2,Kf⟩:∃C2:Array Value,C2=(C1.toList.take (i*k)++vs++C1.toList.drop (i*k+vs.length)).toArray:=⟨_,rfl⟩;obtain⟨W2,bJ⟩:∃W2,W2=W1.setRow g C2:=⟨_,rfl⟩;refine⟨W1,W2,λty dc sc=>?_,λty dc=>?_,C2,by rw[bJ];exact setRow_heap W1 g C1 C2 T (0,0) cO,?_,?_,⟨by rw[bJ,cT];rfl,by rw[bJ,cT];rfl,by rw[bJ,cT];rfl,by rw[bJ,cT];simp[World.setRow],λq _ hq=>?_⟩⟩
 .rw[cT,PU]
  exact lH w.drew S S ty T g ((i+1)*k) (n-i) dc ⟨g,i*k,be⟩ (n+1-i) sc k cur T X hu cI hg (by rw[MX];congr 1;simp only[Nat.min_def];split<;>omega) hXs (by rw[MX,cf];omega) hX1
 .rw[bJ,Kf]
  exact lH W1 S S ty T g (i*k) (n+1-i) dc ⟨vb,0,be⟩ 1 1 k C1 T vs hu cI cO (by rw[kB,show Nat.min 1 (n+1-i)=1 by simp only[Nat.min_def];split<;>omega,Q7]) (λj v hj=>by rw[I9,ae AW];simpa using hj) (by rw[kB,ft];omega) mW
 .rw[Kf];simp only[JX,Ig,IA,JM,IU,kB,ft];omega
 .have e1:C1.toList.take (i*k)=cur.toList.take (i*k):=by
   rw[PU];simp only[Io];rw[List.take_append_of_le_length (by simp only[IA,IU,cf];omega),QJ];congr 1;omega
  have e2:C1.toList.drop (i*k+vs.length)=X++cur.toList.drop ((i+1)*k+X.length):=by
   rw[PU];simp only[Io];rw[List.drop_append_of_le_length (by simp only[IA,IU,cf];omega),List.drop_of_length_le (by simp only[IA,IU,cf];omega),List.nil_append]
  rw[Kf,e1,e2];simp only[Io];rw[<- Io vs,<- Io (List.take (i*k) cur.toList)];exact OC (by simp only[Ig,IA,IU,cf,kB,MX];omega)
 .have hq':q≠g:=λe=>hq (by rw[e])
  rw[bJ,setRow_other W1 g q C2 hq',zF q hq']
theorem qg(hu:P.underlying S=AI (.slice T))(cI:(P.info? T).map (·.size)=AI k){g c i vb G:Nat}{cur mG:Array Value}{vs:List Value}{w:World}(hg:w.heap[g]?=AI (By cur T (0,0)))(cf:cur.size=c*k)(hi:i<c)(hv:w.heap[vb]?=AI (By vs.toArray T (0,0)))(kB:vs.length=k)(l9:∀v∈cur.toList.take (c*k),v.oneCell'=true)(mW:∀v∈vs,v.oneCell'=true)(zG:c+1<=G)(AV:mG.size=G*k)(Eu:mG.toList.take (i*k)=cur.toList.take (i*k)) :
 ∃W2 W3,(∀ty dc,(Qs #[S,S] ty #[J (AI ⟨w.heap.size,i*k,be⟩) (c+1-i) dc,J (AI ⟨vb,0,be⟩) 1 1]).run P ((w.alloc (By mG T)).drew)=.ok (goInt (Nat.min 1 (c+1-i))) W2) /\
  (∀ty dc sc,(Qs #[S,S] ty #[J (AI ⟨w.heap.size,(i+1)*k,be⟩) (c-i) dc,J (AI ⟨g,i*k,be⟩) (c-i) sc]).run P W2.drew=.ok (goInt (Nat.min (c-i) (c-i))) W3) /\
  ∃dV:Array Value,W3.heap[w.heap.size]?=AI (By dV T (0,0))/\dV.size=G*k/\dV.toList.take ((c+1)*k)=cur.toList.take (i*k)++vs++(cur.toList.take (c*k)).drop (i*k)/\w.grownBy W3 be:=by
 have vh:g<w.heap.size:=(BY.1 hg).1;have Mm:vb<w.heap.size:=(BY.1 hv).1;have m1:(i+1)*k=i*k+k:=Nat.succ_mul i k;have m2:(c+1)*k=c*k+k:=Nat.succ_mul c k;have m3:i*k<=c*k:=Ox k (by omega);have m4:(c+1)*k<=G*k:=Ox k zG;have m5:(c-i)*k=c*k-i*k:=Nat.sub_mul c i k;obtain⟨W1,cT⟩:∃W1,W1=(w.alloc (By mG T)).drew:=⟨_,rfl⟩;rw[<- cT];have cO:W1.heap[w.heap.size]?=AI (By mG T (0,0)):=by rw[cT];exact heap_alloc_new w _
 have zF:∀q,q<w.heap.size->W1.heap[q]?=w.heap[q]?:=λq hq=>by rw[cT];exact Below.heap_alloc w _ q hq
 have AW:W1.heap[vb]?=AI (By vs.toArray T (0,0)):=by rw[zF vb Mm];exact hv
 obtain⟨C1,PU⟩:∃C1:Array Value,C1=(mG.toList.take (i*k)++vs++mG.toList.drop (i*k+vs.length)).toArray:=⟨_,rfl⟩;obtain⟨W2,bJ⟩:∃W2,W2=W1.setRow w.heap.size C1:=⟨_,rfl⟩;have dS:W2.drew.heap[w.heap.size]?=AI (By C1 T (0,0)):=by rw[bJ];exact setRow_heap W1 w.heap.size mG C1 T (0,0) cO
 have fK:∀q,q<w.heap.size->W2.drew.heap[q]?=w.heap[q]?:=λq hq=>by
  have:=setRow_other W1 w.heap.size q C1 (by omega);rw[<- bJ] at this;exact this.trans (zF q hq)
 have ft:C1.size=G*k:=by
  rw[PU];simp only[JX,Ig,IA,JM,IU,kB,AV];omega
 have MX:((cur.toList.take (c*k)).drop (i*k)).length=(c-i)*k:=by
  simp only[JM,IA,IU];omega
 have hX1:∀v∈(cur.toList.take (c*k)).drop (i*k),v.oneCell'=true:=λv hv=>l9 v (QR hv);have hXs:=Ke (w:=W2.drew) (i:=i*k) (n:=c*k) ((fK g vh).trans hg);generalize hX:(cur.toList.take (c*k)).drop (i*k)=X at *;obtain⟨C2,Kf⟩:∃C2:Array Value,C2=(C1.toList.take ((i+1)*k)++X++C1.toList.drop ((i+1)*k+X.length)).toArray:=⟨_,rfl⟩;obtain⟨W3,eu⟩:∃W3,W3=W2.drew.setRow w.heap.size C2:=⟨_,rfl⟩;refine⟨W2,W3,λty dc=>?_,λty dc sc=>?_,C2,by rw[eu];exact setRow_heap W2.drew w.heap.size C1 C2 T (0,0) dS,?_,?_,⟨by rw[eu,bJ,cT];rfl,by rw[eu,bJ,cT];rfl,by rw[eu,bJ,cT];rfl,by rw[eu,bJ,cT];simp[World.setRow],λq hq _=>by rw[eu,setRow_other W2.drew w.heap.size q C2 (by omega),fK q hq]⟩⟩
 .rw[bJ,PU]
  exact lH W1 S S ty T w.heap.size (i*k) (c+1-i) dc ⟨vb,0,be⟩ 1 1 k mG T vs hu cI cO (by rw[kB,show Nat.min 1 (c+1-i)=1 by simp only[Nat.min_def];split<;>omega,Q7]) (λj v hj=>by rw[I9,ae AW];simpa using hj) (by rw[kB,AV];omega) mW
 .rw[eu,Kf]
  exact lH W2.drew S S ty T w.heap.size ((i+1)*k) (c-i) dc ⟨g,i*k,be⟩ (c-i) sc k C1 T X hu cI dS (by rw[MX];congr 1;simp only[Nat.min_def];split<;>omega) hXs (by rw[MX,ft];omega) hX1
 .rw[Kf];simp only[JX,Ig,IA,JM,IU,MX,ft];omega
 .have e1:C1.toList.take ((i+1)*k)=cur.toList.take (i*k)++vs:=by
   rw[PU,Eu];exact OC (by simp only[Ig,IA,IU,cf,kB];omega)
  rw[Kf,e1];exact OC (by simp only[Ig,IA,IU,cf,kB,MX];omega)
end
theorem Ew(a:ByteArray):bR a a=0:=(bQ a a).2 rfl
theorem Ex(a b:ByteArray):0<bR a b↔bR b a<0:=by rw[nD,fL]
theorem BE(a b c:ByteArray)(h1:bR a b<0)(h2:bR b c<0):bR a c<0:=by
 rw[fL] at *;exact gd h1 h2
namespace RL
section
variable {α:Type}
theorem jN(f:α->ByteArray):Keyed λa b=>bR (f a) (f b) where
 refl a:=Ew _
 gt a b:=Ex _ _
 trans a b c h1 h2:=BE _ _ _ h1 h2
 left a b c h:=by rw[(bQ _ _).1 h]
 right a b c h:=by rw[(bQ _ _).1 h]
theorem iH(f:α->Int):Keyed λa b=>f a-f b where
 refl a:=by omega
 gt a b:=by constructor<;>intro h<;>omega
 trans a b c h1 h2:=by omega
 left a b c h:=by omega
 right a b c h:=by omega
def bI(b:Bool):Int:=if b=true then 1 else 0
theorem BF{a b:Bool}(h:bI a-bI b=0):a=b:=by cases a<;>cases b<;>simp[bI] at h ⊢
def lex(o p:α->α->Int)(a b:α):Int:=if o a b=0 then p a b else o a b
theorem gJ{o p:α->α->Int}(h:Keyed o)(k:Keyed p):Keyed (lex o p) where
 refl a:=by rw[lex,if_pos (h.refl a),k.refl a]
 gt a b:=by
  unfold lex;by_cases e:o a b=0
  .rw[if_pos e,if_pos (h.symm e)];exact k.gt a b
  .rw[if_neg e,if_neg (λe2=>e (h.symm e2))];exact h.gt a b
 trans a b c h1 h2:=by
  unfold lex at *;by_cases e:o a b=0
  .rw[if_pos e] at h1
   by_cases e2:o b c=0
   .rw[if_pos e2] at h2
    rw[if_pos (h.CT e e2)];exact k.trans _ _ _ h1 h2
   .rw[if_neg e2] at h2
    rw[if_neg (λe3=>e2 (h.CT (h.symm e) e3)),h.left a b c e];exact h2
  .rw[if_neg e] at h1
   by_cases e2:o b c=0
   .rw[if_neg (λe3=>e (h.CT e3 (h.symm e2))),<- h.right b c a e2];exact h1
   .rw[if_neg e2] at h2
    have h3:=h.trans _ _ _ h1 h2;rw[if_neg (by omega)];exact h3
 left a b c e:=by
  unfold lex at *;by_cases e1:o a b=0
  .rw[if_pos e1] at e
   rw[h.left a b c e1,k.left a b c e]
  .rw[if_neg e1] at e;exact absurd e e1
 right a b c e:=by
  unfold lex at *;by_cases e1:o a b=0
  .rw[if_pos e1] at e
   rw[h.right a b c e1,k.right a b c e]
  .rw[if_neg e1] at e;exact absurd e e1
theorem fy{o p:α->α->Int}{a b:α}(h:lex o p a b=0):o a b=0/\p a b=0:=by
 unfold lex at h;by_cases e:o a b=0
 .rw[if_pos e] at h;exact⟨e,h⟩
 .rw[if_neg e] at h;exact absurd h e
theorem wu{o p:α->α->Int}(k:Keyed p)(hz:∀a b,o a b=0->p a b=0->a=b):qR o λa b=>decide (0<p a b) where
 irrefl a:=by simp[k.refl a]
 trans a b c h1 h2:=by
  rw[decide_eq_true_eq] at *;rw[k.gt] at *;exact k.trans _ _ _ h2 h1
 total a b e h1 h2:=by
  rw[decide_eq_false_iff_not] at *;refine hz a b e ?_;have:=k.gt b a;omega
end
end RL
end Go.Proofs.YtfidhgjmifendaaGreatDoor
namespace Go.Proofs.YtfidhgjmifendaaGreatDoor
namespace Sv
open Go.RowKit
structure aY where
 node:ByteArray
 bP:ByteArray
 name:ByteArray
 tag:ByteArray
 addr:Int
 port:Int
 an:Bool
 version:Int
 gone:Bool
def dm:aY:=⟨Iv,Iv,Iv,Iv,0,0,false,0,false⟩
def aY.ok(m:aY):Prop:=m.node.size<=Il/\m.bP.size<=Il/\m.name.size<=Il/\m.tag.size<=Il
theorem sZ:dm.ok:=by simp[aY.ok,dm]
abbrev As(w:World)(b o:Nat)(m:aY):Prop:=w.cell? ⟨b,o,be⟩=AI (Y m.node)/\w.cell? ⟨b,o+1,be⟩=AI (Y m.bP)/\w.cell? ⟨b,o+2,be⟩=AI (Y m.name)/\w.cell? ⟨b,o+3,be⟩=AI (Y m.tag)/\w.cell? ⟨b,o+4,be⟩=AI (U O m.addr)/\w.cell? ⟨b,o+5,be⟩=AI (U O m.port)/\w.cell? ⟨b,o+6,be⟩=AI (Ia m.an)/\w.cell? ⟨b,o+7,be⟩=AI (U O m.version)/\w.cell? ⟨b,o+8,be⟩=AI (Ia m.gone)
theorem As.re{w:World}{b o:Nat}{m:aY}(h:As w b o m):∀d os,As (Go.Sort.grow (redrawn w d) os) b o m:=λd os=>by
 obtain⟨c0,c1,c2,c3,c4,c5,c6,c7,c8⟩:=h;exact⟨Iq c0 d os,Iq c1 d os,Iq c2 d os,Iq c3 d os,Iq c4 d os,Iq c5 d os,Iq c6 d os,Iq c7 d os,Iq c8 d os⟩
theorem As.eq{w w':World}{b o:Nat}{m:aY}(h:As w b o m)(e:∀o,w'.cell? ⟨b,o,be⟩=w.cell? ⟨b,o,be⟩):As w' b o m:=by
 obtain⟨c0,c1,c2,c3,c4,c5,c6,c7,c8⟩:=h;exact⟨(e _).trans c0,(e _).trans c1,(e _).trans c2,(e _).trans c3,(e _).trans c4,(e _).trans c5,(e _).trans c6,(e _).trans c7,(e _).trans c8⟩
def Row(w:World)(b off:Nat)(ms:List aY):Prop:=∀j,j<ms.length->As w b (off+j*9) (ms.getD j dm)
def Sl(w:World)(v:Value)(ms:List aY):Prop:=
 ∃(a:Option Addr) (cap:Nat),v=J a ms.length cap/\(∀j,(ms.getD j dm).ok) /\
  (ms=[]\/∃b off,a=AI ⟨b,off,be⟩/\b<w.heap.size/\Row w b off ms)
def aY.cs(m:aY):List Value:=[Y m.node,Y m.bP,Y m.name,Y m.tag,U O m.addr,U O m.port,Ia m.an,U O m.version,Ia m.gone]
def fl(ms:List aY):List Value:=ms.flatMap aY.cs
theorem bD(m:aY):m.cs.length=9:=rfl
theorem bb(m:aY)(r:List aY):fl (m::r)=m.cs++fl r:=by simp[fl]
theorem cK(a b:List aY):fl (a++b)=fl a++fl b:=by simp[fl]
theorem cQ:∀ms:List aY,(fl ms).length=ms.length*9
 |[]=>rfl
 |m::r=>by rw[bb,Ig,cQ r,bD,Iw];omega
theorem fk:∀(ms:List aY) (i:Nat),(fl ms).take (i*9)=fl (ms.take i)
 |[],i=>by simp[fl]
 |m::r,0=>by simp[fl]
 |m::r,i+1=>by
  rw[bb,Od,bb,show(i+1)*9=m.cs.length+i*9 by rw[bD];omega,JY,fk r i]
theorem fm:∀(ms:List aY) (i:Nat),(fl ms).drop (i*9)=fl (ms.drop i)
 |[],i=>by simp[fl]
 |m::r,0=>by simp
 |m::r,i+1=>by
  rw[bb,Oe,show(i+1)*9=m.cs.length+i*9 by rw[bD];omega,JZ,fm r i]
theorem dh(m:aY):∀v∈m.cs,v.oneCell'=true:=by
 intro v hv;simp[aY.cs] at hv;rcases hv with rfl|rfl|rfl|rfl|rfl|rfl|rfl|rfl|rfl<;>rfl
theorem gV(ms:List aY):∀v∈fl ms,v.oneCell'=true:=by
 intro v hv;obtain⟨m,_,h⟩:=Qd.1 hv;exact dh m v h
theorem ei(ms:List aY)(j:Nat)(hj:j<ms.length)(t:Nat)(ht:t<9):(fl ms)[j*9+t]?=(ms.getD j dm).cs[t]?:=by
 induction ms generalizing j with
 |nil=>simp at hj
 |cons m r ih=>
  rw[bb];cases j with
  |zero=>rw[Js (by rw[bD];omega)];simp
  |succ j=>
   rw[Jr (by rw[bD];omega),bD,show(j+1)*9+t-9=j*9+t by omega,ih j (by simpa using hj)];simp
theorem oA(ms:List aY)(p:Nat)(hp:p<ms.length)(m:aY):((((((((((fl ms).set (p*9) (Y m.node)).set (p*9+1) (Y m.bP)).set (p*9+2) (Y m.name)).set (p*9+3) (Y m.tag)).set (p*9+4) (U O m.addr)).set (p*9+5) (U O m.port)).set (p*9+6) (Ia m.an)).set (p*9+7) (U O m.version)).set (p*9+8) (Ia m.gone))=fl (ms.set p m):=by
 induction ms generalizing p with
 |nil=>simp at hp
 |cons x r ih=>
  cases p with
  |zero=>simp[fl,aY.cs]
  |succ p=>
   have MD:=ih p (by simpa using hp);rw[Ou,bb,bb,<- MD];simp only[Nat.add_mul,Q7];have e:∀(l:List Value) (k:Nat) (v:Value),(x.cs++l).set (k+9) v=x.cs++l.set k v:=λl k v=>by
    rw[Q8,if_neg (by rw[bD];omega),bD,Qn]
   have c:∀i:Nat,p*9+9+i=(p*9+i)+9:=λi=>by omega
   simp only[c];rw[e,e,e,e,e,e,e,e,e]
abbrev Own(base:Nat)(w:World)(v:Value)(ms:List aY):Prop:=w.ownsRow base 46 9 v ms.length (fl ms)
theorem iC{base g G:Nat}{w:World}{cur:Array Value}{ms:List aY}(hb:base<=g)(hg:w.heap[g]?=AI (By cur 46 (0,0)))(hs:cur.size=G*9)(hn:ms.length<=G)(hG:G<=Il)(ht:cur.toList.take (ms.length*9)=fl ms) :
 Own base w (J (AI ⟨g,0,be⟩) ms.length G) ms:=⟨cQ ms,.inr ⟨g,G,cur,rfl,hb,hg,hn,hG,hs,ht⟩⟩
theorem Own.sl{base:Nat}{w:World}{v:Value}{ms:List aY}(h:Own base w v ms)(hs:∀j,(ms.getD j dm).ok):Sl w v ms:=by
 rcases h.2 with⟨rfl,h0⟩|⟨g,c,cur,rfl,eD,hg,fP,dR,cf,bj⟩
 .exact⟨be,0,by rw[h0],hs,.inl (Jc h0)⟩
 .refine⟨_,c,rfl,hs,.inr ⟨g,0,rfl,(BY.1 hg).1,λj hj=>?_⟩⟩
  have hc:∀t,t<9->w.cell? ⟨g,0+j*9+t,be⟩=(ms.getD j dm).cs[t]?:=λt ht=>by
   rw[ae hg,<- ei ms j hj t ht,<- bj,IN (by omega)];simp
  exact⟨hc 0 (by omega),hc 1 (by omega),hc 2 (by omega),hc 3 (by omega),hc 4 (by omega),hc 5 (by omega),hc 6 (by omega),hc 7 (by omega),hc 8 (by omega)⟩
theorem Own.below{base:Nat}{w w':World}{v:Value}{ms:List aY}(h:Own base w v ms)(hb:Below w.heap.size w w'):Own base w' v ms:=by
 rcases h.2 with⟨rfl,h0⟩|⟨g,c,cur,rfl,eD,hg,fP,dR,cf,bj⟩
 .exact⟨h.1,.inl ⟨rfl,h0⟩⟩
 .have aX:=(BY.1 hg).1
  exact⟨h.1,.inr ⟨g,c,cur,rfl,eD,(hb.block g aX).trans hg,fP,dR,cf,bj⟩⟩
theorem Own.lt{base:Nat}{w:World}{v:Value}{ms:List aY}(h:Own base w v ms)(k:Nat)(hk:v.ownBlock=AI k):base<=k/\k<w.heap.size:=OK h k hk
theorem fq{base:Nat}{w w1 w2:World}{v:Value}{ms:List aY}(hb:Below base w w1)(h:Own base w1 v ms)(hg:w1.grownBy w2 v.ownBlock)(hbase:base<=w1.heap.size):Below base w w2:=
 hb.grown hg hbase (λk hk=>(h.lt k hk).1)
theorem eE{base g c:Nat}{w:World}{ms:List aY}(h:Own base w (J (AI ⟨g,0,be⟩) ms.length c) ms)(j:Nat)(hj:j<ms.length) :
 As w g (j*9) (ms.getD j dm):=by
 rcases h.2 with⟨h1,_⟩|⟨g',c',cur,h1,eD,hg,fP,dR,cf,bj⟩
 .cases h1
 .simp only[Value.slice.injEq,Option.some.injEq,Addr.mk.injEq] at h1
  obtain⟨⟨rfl,_,_⟩,_,_⟩:=h1;have hc:∀t,t<9->w.cell? ⟨g,j*9+t,be⟩=(ms.getD j dm).cs[t]?:=λt ht=>by
   rw[ae hg,<- ei ms j hj t ht,<- bj,IN (by omega)];simp
  exact⟨hc 0 (by omega),hc 1 (by omega),hc 2 (by omega),hc 3 (by omega),hc 4 (by omega),hc 5 (by omega),hc 6 (by omega),hc 7 (by omega),hc 8 (by omega)⟩
theorem jT{base:Nat}{w:World}{v:Value}{ms:List aY}(h:Own base w v ms)(p:Nat)(hp:p<ms.length):∃g c,v=J (AI ⟨g,0,be⟩) ms.length c:=by
 rcases h.2 with⟨_,h0⟩|⟨g,c,cur,h1,_⟩
 .omega
 .exact⟨g,c,h1⟩
theorem lK{base g c p:Nat}{W:World}{ms:List aY}(h:Own base W (J (AI ⟨g,0,be⟩) ms.length c) ms)(hp:p<ms.length)(m:aY) :
 Own base (((((((((W.setCell ⟨g,p*9,be⟩ (Y m.node)).setCell ⟨g,p*9+1,be⟩ (Y m.bP)).setCell ⟨g,p*9+2,be⟩ (Y m.name)).setCell ⟨g,p*9+3,be⟩ (Y m.tag)).setCell ⟨g,p*9+4,be⟩ (U O m.addr)).setCell ⟨g,p*9+5,be⟩ (U O m.port)).setCell ⟨g,p*9+6,be⟩ (Ia m.an)).setCell ⟨g,p*9+7,be⟩ (U O m.version)).setCell ⟨g,p*9+8,be⟩ (Ia m.gone)) (J (AI ⟨g,0,be⟩) ms.length c) (ms.set p m):=by
 have h1:=II h (p*9) (Y m.node);have h2:=II h1.1 (p*9+1) (Y m.bP);have h3:=II h2.1 (p*9+2) (Y m.name);have h4:=II h3.1 (p*9+3) (Y m.tag);have h5:=II h4.1 (p*9+4) (U O m.addr);have h6:=II h5.1 (p*9+5) (U O m.port);have h7:=II h6.1 (p*9+6) (Ia m.an);have h8:=II h7.1 (p*9+7) (U O m.version);have h9:=II h8.1 (p*9+8) (Ia m.gone);have e:=h9.1;rw[oA ms p hp m] at e;show J4 _ _ _ _ _ (ms.set p m).length _;rw[IM];exact e
theorem Sl.below{w w':World}{v:Value}{ms:List aY}(h:Sl w v ms)(hb:Below w.heap.size w w'):Sl w' v ms:=by
 obtain⟨a,cap,rfl,hs,h⟩:=h;refine⟨a,cap,rfl,hs,?_⟩;rcases h with h|⟨b,off,rfl,aX,hr⟩
 .exact .inl h
 .refine .inr ⟨b,off,rfl,IL aX hb.size,λj hj=>?_⟩
  exact(hr j hj).eq (λo=>(cC hb).1 b o aX)
theorem Row.later{w w':World}{b off:Nat}{ms:List aY}(hr:Row w b off ms)(hb:Below w.heap.size w w')(aX:b<w.heap.size):Row w' b off ms:=λj hj=>(hr j hj).eq (λo=>(cC hb).1 b o aX)
theorem Own.mono{base iX:Nat}{w:World}{v:Value}{ms:List aY}(h:Own base w v ms)(hb:iX<=base):Own iX w v ms:=by
 rcases h.2 with⟨rfl,h0⟩|⟨g,c,cur,rfl,eD,hg,fP,dR,cf,bj⟩
 .exact⟨h.1,.inl ⟨rfl,h0⟩⟩
 .exact⟨h.1,.inr ⟨g,c,cur,rfl,Ir hb eD,hg,fP,dR,cf,bj⟩⟩
theorem b9(base:Nat)(w:World):Own base w (J be 0 0) []:=J5 w base 46 9
theorem dy{ms:List aY}(h:∀j,(ms.getD j dm).ok):∀m∈ms,(m).ok:=by
 intro m hm;obtain⟨j,hj,rfl⟩:=IX hm;have:=h j;simpa[Ip,If hj] using this
theorem cy{ms:List aY}(h:∀m∈ms,(m).ok):∀j,(ms.getD j dm).ok:=by
 intro j;by_cases hj:j<ms.length
 .have:=h ms[j] (IJ hj)
  simpa[Ip,If hj] using this
 .rw[Ip,I1 (Qe hj)];exact sZ
theorem bF{base:Nat}{w:World}{v:Value}{ms:List aY}(h:Own base w v ms)(hs:∀m∈ms,(m).ok):Sl w v ms:=h.sl (cy hs)
theorem oJ(w:World)(b cap:Nat)(m:aY)(hm:(m).ok)(hg:w.heap[b]?=AI (By #[Y m.node,Y m.bP,Y m.name,Y m.tag,U O m.addr,U O m.port,Ia m.an,U O m.version,Ia m.gone] 46 (0,0))):Sl w (J (AI ⟨b,0,be⟩) 1 cap) [m]:=by
 refine⟨_,cap,rfl,cy (λx hx=>by simp at hx;subst hx;exact hm),.inr ⟨b,0,rfl,(BY.1 hg).1,λj hj=>?_⟩⟩
 have:j=0:=by simpa using hj
 subst this;exact⟨ae hg (0+0*9),ae hg (0+0*9+1),ae hg (0+0*9+2),ae hg (0+0*9+3),ae hg (0+0*9+4),ae hg (0+0*9+5),ae hg (0+0*9+6),ae hg (0+0*9+7),ae hg (0+0*9+8)⟩
theorem jU{base:Nat}{w:World}{v:Value}{L:List aY}{m:aY}(h:w.ownsRow base 46 9 v (L.length+1) (fl L++m.cs)):Own base w v (L++[m]):=by
 have e:fl (L++[m])=fl L++m.cs:=by rw[cK,bb];simp[fl]
 show w.ownsRow base 46 9 v (L++[m]).length (fl (L++[m]));rw[e,Ig];exact h
end Sv
namespace Sv
open Go.RowKit
theorem Tryz.qZ:(Tryz.prog.info? 46).map (λi=>(i.zero,i.size,i.bytes))=AI (AI (.agg #[Y ⟨#[]⟩,Y ⟨#[]⟩,Y ⟨#[]⟩,Y ⟨#[]⟩,U O 0,U O 0,Ia false,U O 0,Ia false]),9,104):=by kernel_rfl
theorem Kg:(Tryz.prog.info? 46).map (·.size)=AI 9:=by
 obtain⟨i,hi,h1,h2,h3⟩:=I6 Tryz.qZ;rw[hi];simp[h2]
theorem sizeOf46(w:World):(Go.sizeOf 46).run AS w=.ok 9 w:=by
 obtain⟨i,hi,h1,h2,h3⟩:=I6 Tryz.qZ;simp[Go.sizeOf,typeInfo,hi,h2]
theorem eP(w:World)(g vb o lb cb:Nat)(cur vs:Array Value)(hg:w.heap[g]?=AI (By cur 46 (0,0)))(hv:w.heap[vb]?=AI (By vs 46 (0,0)))(aQ:vb≠g)(hk:cur.size≠0) : (callFunc 245 #[J (AI ⟨vb,0,be⟩) 1 1,J (AI ⟨g,o,be⟩) lb cb]).run AS w=.ok (.value (Ia false)) w:=by
 rw[OF Tryz.func245 (by kernel_rfl) (by kernel_rfl) (by kernel_rfl) (e:=Ow #[36,36] #[4]) (by kernel_rfl),
  Qv w 36 4 46 J6 9 sizeOf46 ⟨vb,0,be⟩ ⟨g,o,be⟩ 1 1 lb cb aQ 46 46 vs.size cur.size (by simp[OW,hv]) (by simp[OW,hg]) hk (by simp[Is,hv]) (by simp[Is,hv])]
 rfl
theorem fA(g n c i vb:Nat)(cur:Array Value)(vs:List Value)(w:World)(hg:w.heap[g]?=AI (By cur 46 (0,0)))(cf:cur.size=c*9)(hi:i<n)(dz:n+1<=c)(BG:c<=9223372036854775807)(qf:vb≠g)(hv:w.heap[vb]?=AI (By vs.toArray 46 (0,0)))(kB:vs.length=9)(l9:∀v∈cur.toList.take (n*9),v.oneCell'=true)(mW:∀v∈vs,v.oneCell'=true) :
 aI 214 #[J (AI ⟨g,0,be⟩) n c,U O i,J (AI ⟨vb,0,be⟩) 1 1] w λe w'=>e=AT (J (AI ⟨g,0,be⟩) (n+1) c) /\
  ∃dV:Array Value,w'.heap[g]?=AI (By dV 46 (0,0))/\dV.size=c*9/\dV.toList.take ((n+1)*9)=cur.toList.take (i*9)++vs++(cur.toList.take (n*9)).drop (i*9)/\w.grownBy w' (AI g):=by
 have Sk:=λo lb cb=>eP w g vb o lb cb cur vs.toArray hg hv qf (by omega);have nW:¬ ((i:Int)=(n:Int)):=by omega
 have aK:¬ (c=i+1):=by omega
 have eU:¬ (c=i):=by omega
 have bX:(i:Int)<=(n:Int)+1:=by omega
 obtain⟨W1,W2,oS,tH,HF⟩:=qe J6 Kg hg cf hi dz qf hv kB l9 mW;have HF:Hid _:=HF;clear l9 mW hg hv;have MY:IntKind.i64.wrap ((i:Int)+1)=(i:Int)+1:=by rw[IW];omega
 have aB:(0:Int)<=(i:Int)+1:=by omega
 have mI:i<=n:=by omega
 have Et:((i:Int)+1).toNat=i+1:=by omega
 go_enter Tryz.func214,Tryz.ntmps214;go_wp2_with (simp only[Sk]);go_region_law (refine dw rfl _ _ 36 36 rfl _ _ (by simp[No,Oq]) (by simp[No,Oq]) (oS _ _ _) ?_)
 go_wp2_with fail;go_ret;exact⟨rfl,HF.out⟩
theorem fB(g n c i vb:Nat)(cur:Array Value)(vs:List Value)(w:World)(hg:w.heap[g]?=AI (By cur 46 (0,0)))(cf:cur.size=c*9)(hi:i<n)(fP:n<=c)(dz:c<n+1)(BG:n<=1000)(hv:w.heap[vb]?=AI (By vs.toArray 46 (0,0)))(kB:vs.length=9)(l9:∀v∈cur.toList.take (n*9),v.oneCell'=true)(mW:∀v∈vs,v.oneCell'=true) :
 aI 214 #[J (AI ⟨g,0,be⟩) n c,U O i,J (AI ⟨vb,0,be⟩) 1 1] w λe w'=>∃G,e=AT (J (AI ⟨w.heap.size,0,be⟩) (n+1) G)/\n+1<=G/\G<=Il /\
  ∃dV:Array Value,w'.heap[w.heap.size]?=AI (By dV 46 (0,0))/\dV.size=G*9/\dV.toList.take ((n+1)*9)=cur.toList.take (i*9)++vs++(cur.toList.take (n*9)).drop (i*9)/\w.grownBy w' be:=by
 obtain⟨i0,fV,di,il,gT⟩:=I6 Tryz.qZ;have BH:c=n:=by omega
 subst BH;have nW:¬ ((i:Int)=(c:Int)):=by omega
 have qL:(c:Int)<(c:Int)+1:=by omega
 have rj:(c:Int)+1-(i:Int)=((c+1-i:Nat):Int):=by omega
 have BI:i+(c+1-i)=c+1:=by omega
 have hold:(Ql i0.size i (J (AI ⟨g,0,be⟩) i c)).run AS w.drew=.ok (cur.toList.take (i*9)).toArray w.drew:=by
  rw[il];exact Q1 w.drew 9 i ⟨g,0,be⟩ i c (cur.toList.take (i*9)) (by rw[IA,IU];omega) (λj v hj=>by
   have e:w.drew.cell? ((⟨g,0,be⟩:Addr).add j)=cur[j]?:=by rw[I9,IC];exact ae hg _
   rw[e];rw[Qp] at hj;split at hj
   .simpa using hj
   .cases hj)
 have xF:∀ty,∃G mG,c+1<=G/\G<=Il/\mG.size=G*9/\mG.toList.take (i*9)=cur.toList.take (i*9)/\(Q9 #[36,3] ty #[J (AI ⟨g,0,be⟩) i c,U O ((c:Int)+1-(i:Int))]).run AS w =
  .ok (J (AI ⟨w.heap.size,0,be⟩) (c+1) G) (w.drew.alloc (By mG 46)):=λty=>by
  have h:=Qb w 36 3 ty 46 i0 _ O O J6 ID fV di (AI ⟨g,0,be⟩) i c (cur.toList.take (i*9)) hold (c+1-i) (by omega) (by omega) (by omega) (by omega) (by rw[gT];omega) (by rw[gT,BI];exact growslice_fits dz (by omega));rw[BI] at h;rw[rj];have h1:=grownCap_ge w (c+1) c 46;refine⟨_,_,h1,Ug w (c+1) c 46 (by unfold Il;omega),?_,?_,h⟩
  .simp only[Array.size_append,JX,size_zeroCells,IA,IU,cf,Value.cells]
   simp;omega
  .simp only[Q2,Io]
   exact OC (by simp only[IA,IU,cf];omega)
 obtain⟨G,mG,zG,xG,AV,Eu,xF⟩:=xF 36;have Sm:G<=9223372036854775807:=by unfold Il at xG;omega
 obtain⟨W2,W3,oS,tH,HF⟩:=qg J6 Kg hg cf hi hv kB l9 mW zG AV Eu;obtain⟨W1,cT⟩:∃W1,W1=(w.alloc (By mG 46)).drew:=⟨_,rfl⟩;have Kh:w.drew.alloc (By mG 46)=W1:=by rw[cT];rfl
 rw[Kh] at xF;rw[<- cT] at oS;have HF:Hid _:=HF;have MY:IntKind.i64.wrap ((i:Int)+1)=(i:Int)+1:=by rw[IW];omega
 have aB:(0:Int)<=(i:Int)+1:=by omega
 have mI:i<=c:=by omega
 have Et:((i:Int)+1).toNat=i+1:=by omega
 have hGi:¬ (G=i):=by omega
 have Sn:¬ (G=i+1):=by omega
 have hci:¬ (c=i):=by omega
 clear cT l9 mW Kh AV Eu rj BI hold hg hv fV di il gT;go_enter Tryz.func214,Tryz.ntmps214;go_wp2_with (at_builtin;refine QD _ rfl _ _ _ _ rfl _ _ rfl rfl _ _ xF ?_);go_region_law (refine dw rfl _ _ 36 36 rfl _ _ (by simp[No,Oq]) (by simp[No,Oq]) (tH _ _ _) ?_)
 go_wp2_with fail;go_ret;exact⟨G,rfl,zG,xG,HF.out⟩
theorem gk(base n vb:Nat)(v:Value)(xs vs:List Value)(w:World)(hown:w.ownsRow base 46 9 v n xs)(hn:n<=1000)(hbase:base<=w.heap.size)(hv:w.heap[vb]?=AI (By vs.toArray 46 (0,0)))(kB:vs.length=9)(mW:∀v∈vs,v.oneCell'=true) :
 aI 214 #[v,U O n,J (AI ⟨vb,0,be⟩) 1 1] w λe w'=>∃v',e=AT v'/\w'.ownsRow base 46 9 v' (n+1) (xs++vs)/\w.grownBy w' v.ownBlock:=by
 obtain⟨i0,fV,di,il,gT⟩:=I6 Tryz.qZ;have hnews:∀j u,vs[j]?=AI u->w.cell? ((⟨vb,0,be⟩:Addr).add j)=AI u:=λj v hj=>by rw[I9,ae hv];simpa using hj
 have HO:Hid (w.ownsRow base 46 9 v n xs):=hown;rcases hown.2 with⟨rfl,rfl⟩|⟨g,c,cur,rfl,_,_,fP,dR,_,_⟩;rotate_left;unfold Il at dR;by_cases BH:c=n;subst BH;all_goals
  clear hown hv;go_enter Tryz.func214,Tryz.ntmps214;go_wp2_with (at_builtin;refine Ja _ rfl _ _ 36 rfl base 46 i0 _ 9 104 J6 fV di il gT rfl (by omega) _ _ xs rfl HO.out ⟨vb,0,be⟩ 1 1 vs rfl (by omega) hnews mW (by unfold Il;omega) (by omega) hbase ?_);intro v' w' r1 r2 r3;go_wp2_with fail;go_ret;exact⟨v',rfl,r1,r2⟩
theorem fC(base i vb:Nat)(v:Value)(ms:List aY)(m:aY)(w:World)(hown:Own base w v ms)(hi:i<=ms.length)(hn:ms.length<=1000)(hbase:base<=w.heap.size)(hv:w.heap[vb]?=AI (By m.cs.toArray 46 (0,0)))(aQ:v.ownBlock≠AI vb) :
 aI 214 #[v,U O i,J (AI ⟨vb,0,be⟩) 1 1] w λe w'=>∃v',e=AT v'/\Own base w' v' (ms.take i++m::ms.drop i)/\w.grownBy w' v.ownBlock:=by
 have hlen:(ms.take i++m::ms.drop i).length=ms.length+1:=by simp;omega
 have Hq:fl (ms.take i++m::ms.drop i)=(fl ms).take (i*9)++m.cs++(fl ms).drop (i*9):=by rw[cK,bb,fk,fm,Io]
 by_cases mI:i=ms.length
 .subst mI
  refine(gk base ms.length vb v (fl ms) m.cs w hown hn hbase hv rfl (dh m)).mono ?_;rintro e w' ⟨v',rfl,h1,h2⟩;refine⟨v',rfl,?_,h2⟩;have e1:ms.take ms.length++m::ms.drop ms.length=ms++[m]:=by simp
  have e2:fl (ms++[m])=fl ms++m.cs:=by rw[cK,bb];simp[fl]
  rw[e1];show w'.ownsRow base 46 9 v' (ms++[m]).length (fl (ms++[m]));rw[e2,show(ms++[m]).length=ms.length+1 by simp];exact h1
 .rcases hown.2 with⟨_,h0⟩|⟨g,c,cur,rfl,eD,hg,fP,dR,cf,bj⟩
  .omega
  .have qf:vb≠g:=λe=>aQ (by simp[Jz,e])
   have l9:∀v∈cur.toList.take (ms.length*9),v.oneCell'=true:=by rw[bj];exact gV ms
   have MZ:cur.toList.take (i*9)=(fl ms).take (i*9):=by rw[<- bj,QJ];congr 1;omega
   have key:∀l:List Value,l=cur.toList.take (i*9)++m.cs++(cur.toList.take (ms.length*9)).drop (i*9)->l=fl (ms.take i++m::ms.drop i):=λl hl=>by rw[hl,Hq,bj,MZ]
   by_cases dz:ms.length+1<=c
   .refine(fA g ms.length c i vb cur m.cs w hg cf (by omega) dz (by unfold Il at dR;omega) qf hv rfl l9 (dh m)).mono ?_
    rintro e w' ⟨rfl,dV,h1,h2,h3,h4⟩;refine⟨_,rfl,?_,h4⟩;rw[<- hlen];exact iC eD h1 h2 (by omega) dR (key _ (by rw[hlen];exact h3))
   .refine(fB g ms.length c i vb cur m.cs w hg cf (by omega) fP (by omega) hn hv rfl l9 (dh m)).mono ?_
    rintro e w' ⟨G,rfl,zG,xG,dV,h1,h2,h3,h4⟩;refine⟨_,rfl,?_,nE h4 _⟩;rw[<- hlen];exact iC hbase h1 h2 (by omega) xG (key _ (by rw[hlen];exact h3))
end Sv
namespace Sv
open Go.RowKit
def ord:aY->aY->Int:=RL.lex (λa b=>bR a.node b.node) (λa b=>bR a.bP b.bP)
theorem keyed:RL.Keyed ord:=RL.gJ (RL.jN aY.node) (RL.jN aY.bP)
def xH:aY->aY->Int:=RL.lex (λa b=>a.version-b.version) (RL.lex (λa b=>RL.bI a.gone-RL.bI b.gone) (RL.lex (λa b=>bR a.name b.name) (RL.lex (λa b=>bR a.tag b.tag) (RL.lex (λa b=>a.addr-b.addr) (RL.lex (λa b=>a.port-b.port) (λa b=>RL.bI a.an-RL.bI b.an))))))
theorem BJ:RL.Keyed xH:=RL.gJ (RL.iH aY.version) (RL.gJ (RL.iH λa:aY=>RL.bI a.gone) (RL.gJ (RL.jN aY.name) (RL.gJ (RL.jN aY.tag) (RL.gJ (RL.iH aY.addr) (RL.gJ (RL.iH aY.port) (RL.iH λa:aY=>RL.bI a.an))))))
def bT(a b:aY):Bool:=decide (0<xH a b)
theorem iI:RL.qR ord bT:=RL.wu BJ λa b h1 h2=>by
 obtain⟨n1,n2⟩:=RL.fy h1;obtain⟨h3,h2⟩:=RL.fy h2;obtain⟨h4,h2⟩:=RL.fy h2;obtain⟨h5,h2⟩:=RL.fy h2;obtain⟨h6,h2⟩:=RL.fy h2;obtain⟨h7,h2⟩:=RL.fy h2;obtain⟨h8,h9⟩:=RL.fy h2;have e1:a.node=b.node:=(bQ _ _).1 n1;have e2:a.bP=b.bP:=(bQ _ _).1 n2;have e3:a.version=b.version:=by omega
 have e4:a.gone=b.gone:=RL.BF h4;have e5:a.name=b.name:=(bQ _ _).1 h5;have e6:a.tag=b.tag:=(bQ _ _).1 h6;have e7:a.addr=b.addr:=by omega
 have e8:a.port=b.port:=by omega
 have e9:a.an=b.an:=RL.BF h9;obtain⟨a_node,a_idn,a_name,a_tag,a_addr,a_port,a_passing,a_version,a_gone⟩:=a;obtain⟨b_node,b_idn,b_name,b_tag,b_addr,b_port,b_passing,b_version,b_gone⟩:=b;simp only at e1 e2 e3 e4 e5 e6 e7 e8 e9;subst e1 e2 e3 e4 e5 e6 e7 e8 e9;rfl
abbrev bp(ms:List aY):Prop:=RL.bp ord ms
abbrev aO(ms:List aY)(m:aY):List aY:=RL.fS ord bT ms m
abbrev av(a b:List aY):List aY:=RL.join ord bT a b
abbrev At(ms:List aY)(t:aY)(p:Nat)(f:Bool):Prop:=RL.At ord dm ms t p f
abbrev aM(ms:List aY):Bool:=RL.aM ord ms
theorem dU{ms:List aY}(h:bp ms)(t:aY):∀i j,i<=j->j<ms.length->ord (ms.getD j dm) t<0->ord (ms.getD i dm) t<0:=RL.dU ord dm keyed h t
theorem fD(ms:List aY)(h:∀j,j+1<ms.length->ord (ms.getD j dm) (ms.getD (j+1) dm)<0):aM ms=true:=RL.gF ord dm ms h
theorem fE(ms:List aY)(h:aM ms=true):∀j,j+1<ms.length->ord (ms.getD j dm) (ms.getD (j+1) dm)<0:=RL.iB ord dm ms h
theorem jS(ms:List aY)(hr:bp ms)(t:aY):∃p f,At ms t p f:=RL.jS ord dm keyed ms hr t
theorem eN{ms:List aY}{t:aY}{p q:Nat}{f e:Bool}(h:At ms t p f)(k:At ms t q e):p=q/\f=e:=RL.eN ord dm h k
theorem df(ms:List aY)(m:aY)(p:Nat)(f:Bool)(h:At ms m p f) :
 aO ms m=if f=true then(if bT m (ms.getD p dm)=true then ms.set p m else ms) else ms.take p++m::ms.drop p:=RL.pI ord bT dm ms m p f h
theorem dF(b a:List aY)(h:bp a):bp (av a b):=RL.kY ord bT keyed b a h
theorem dj(b a:List aY):(av a b).length<=a.length+b.length:=RL.pK ord bT b a
theorem dW(b a:List aY)(x:aY)(h:x∈av a b):x∈a\/x∈b:=RL.pL ord bT b a x h
theorem gl(a b:List aY)(j:Nat)(hj:j<b.length):av a (b.take (j+1))=aO (av a (b.take j)) (b.getD j dm):=RL.qS ord bT dm a b j hj
theorem iJ(b:List aY)(h:bp b):av [] b=b:=RL.join_nil ord bT b h
theorem iU(b a:List aY)(ha:∀m∈a,m.ok)(hb:∀m∈b,m.ok):∀x∈av a b,x.ok:=by
 intro x hx;rcases dW b a x hx with h|h
 .exact ha x h
 .exact hb x h
def lU(t:ByteArray):Bool:=decide (t=Iv)||bc t
def aY.e(m:aY):Int:=
 if(bc m.node&&(bc m.bP&&(bc m.name&&lU m.tag)))=true then(if(within m.addr 0 4294967295&&(within m.port 0 65535&&within m.version 1 1000000))=true then 0 else 3) else 1
def aU:List aY->Int
 |[]=>0
 |m::r=>if m.e=0 then aU r else m.e
theorem cG:∀(ms:List aY),(∀j,j<ms.length->(ms.getD j dm).e=0)->aU ms=0
 |[],_=>rfl
 |m::r,h=>by
  have h0:=h 0 (by simp);simp only[I4] at h0;rw[aU,if_pos h0];exact cG r λj hj=>by have:=h (j+1) (by simpa using hj);simpa using this
theorem dX:∀(ms:List aY) (k:Nat),k<ms.length->(∀j,j<k->(ms.getD j dm).e=0)->(ms.getD k dm).e≠0->aU ms=(ms.getD k dm).e
 |[],k,h,_,_=>by simp at h
 |m::r,0,_,_,aQ=>by
  simp only[I4] at aQ ⊢;rw[aU,if_neg aQ]
 |m::r,k+1,h,hz,aQ=>by
  have h0:=hz 0 (by omega);simp only[I4] at h0;rw[aU,if_pos h0,JB];rw[JB] at aQ;exact dX r k (by simpa using h) (λj hj=>by have:=hz (j+1) (by omega);simpa using this) aQ
theorem bf:∀(ms:List aY),aU ms=0->∀m∈ms,m.e=0
 |[],_,m,hm=>by simp at hm
 |x::r,h,m,hm=>by
  rw[aU] at h;split at h
  .rename_i hx
   rcases List.mem_cons.1 hm with rfl|hm
   .exact hx
   .exact bf r h m hm
  .rename_i hx;exact absurd h hx
theorem fF:∀(ms:List aY),(∀m∈ms,m.e=0)->aU ms=0
 |[],_=>rfl
 |x::r,h=>by rw[aU,if_pos (h x (by simp))];exact fF r λm hm=>h m (by simp[hm])
def bl(ms:List aY):Int:=if 40<ms.length then 2 else if aU ms=0 then(if aM ms=true then 0 else 4) else aU ms
theorem tI(ms:List aY)(k:Nat)(hn:ms.length<=40)(hk:k<ms.length)(hz:∀j,j<k->(ms.getD j dm).e=0)(aQ:(ms.getD k dm).e≠0):bl ms=(ms.getD k dm).e:=by
 have h:=dX ms k hk hz aQ;rw[bl,if_neg (by omega),h,if_neg aQ]
theorem rM(ms:List aY)(hn:ms.length<=40)(hz:∀j,j<ms.length->(ms.getD j dm).e=0):bl ms=if aM ms=true then 0 else 4:=by
 rw[bl,if_neg (by omega),cG ms hz,if_pos rfl]
theorem af{ms:List aY}(h:bl ms=0):ms.length<=40/\bp ms/\aU ms=0:=by
 unfold bl at h;split at h
 .omega
 .split at h
  .rename_i h1 h2
   split at h
   .rename_i h3
    exact⟨by omega,RL.lI ord keyed ms h3,h2⟩
   .omega
  .rename_i h1 h2;exact absurd h h2
theorem ki{ms:List aY}(h1:ms.length<=40)(h2:bp ms)(h3:∀m∈ms,m.e=0):bl ms=0:=by
 rw[bl,if_neg (by omega),fF ms h3,if_pos rfl,if_pos (RL.jR ord ms h2)]
theorem xI(m:aY):bl [m]=m.e:=by
 have h1:aU [m]=m.e:=by
  rw[aU];split
  .rename_i h;rw[h];rfl
  .rfl
 rw[bl,if_neg (by simp),h1];split
 .rename_i h;rw[h];exact if_pos rfl
 .rfl
def aP(a b:List aY):Int:=if bl a=0 then bl b else bl a
def dG(a b:List aY)(k:Nat):List aY:=if k=0 then[] else if k=1 then a else av a b
def aE(a b:List aY):Int:=if aP a b=0 then(if 40<(av a b).length then 2 else 0) else aP a b
end Sv
namespace Gw
open Go.RowKit
structure bL where
 aD:ByteArray
 addr:Int
 version:Int
def dm:bL:=⟨Iv,0,0⟩
def bL.ok(m:bL):Prop:=m.aD.size<=Il
theorem sZ:dm.ok:=by simp[bL.ok,dm]
abbrev As(w:World)(b o:Nat)(m:bL):Prop:=w.cell? ⟨b,o,be⟩=AI (Y m.aD)/\w.cell? ⟨b,o+1,be⟩=AI (U O m.addr)/\w.cell? ⟨b,o+2,be⟩=AI (U O m.version)
theorem As.re{w:World}{b o:Nat}{m:bL}(h:As w b o m):∀d os,As (Go.Sort.grow (redrawn w d) os) b o m:=λd os=>by
 obtain⟨c0,c1,c2⟩:=h;exact⟨Iq c0 d os,Iq c1 d os,Iq c2 d os⟩
theorem As.eq{w w':World}{b o:Nat}{m:bL}(h:As w b o m)(e:∀o,w'.cell? ⟨b,o,be⟩=w.cell? ⟨b,o,be⟩):As w' b o m:=by
 obtain⟨c0,c1,c2⟩:=h;exact⟨(e _).trans c0,(e _).trans c1,(e _).trans c2⟩
def Row(w:World)(b off:Nat)(ms:List bL):Prop:=∀j,j<ms.length->As w b (off+j*3) (ms.getD j dm)
def Sl(w:World)(v:Value)(ms:List bL):Prop:=
 ∃(a:Option Addr) (cap:Nat),v=J a ms.length cap/\(∀j,(ms.getD j dm).ok) /\
  (ms=[]\/∃b off,a=AI ⟨b,off,be⟩/\b<w.heap.size/\Row w b off ms)
def bL.cs(m:bL):List Value:=[Y m.aD,U O m.addr,U O m.version]
def fl(ms:List bL):List Value:=ms.flatMap bL.cs
theorem bD(m:bL):m.cs.length=3:=rfl
theorem bb(m:bL)(r:List bL):fl (m::r)=m.cs++fl r:=by simp[fl]
theorem cK(a b:List bL):fl (a++b)=fl a++fl b:=by simp[fl]
theorem cQ:∀ms:List bL,(fl ms).length=ms.length*3
 |[]=>rfl
 |m::r=>by rw[bb,Ig,cQ r,bD,Iw];omega
theorem fk:∀(ms:List bL) (i:Nat),(fl ms).take (i*3)=fl (ms.take i)
 |[],i=>by simp[fl]
 |m::r,0=>by simp[fl]
 |m::r,i+1=>by
  rw[bb,Od,bb,show(i+1)*3=m.cs.length+i*3 by rw[bD];omega,JY,fk r i]
theorem fm:∀(ms:List bL) (i:Nat),(fl ms).drop (i*3)=fl (ms.drop i)
 |[],i=>by simp[fl]
 |m::r,0=>by simp
 |m::r,i+1=>by
  rw[bb,Oe,show(i+1)*3=m.cs.length+i*3 by rw[bD];omega,JZ,fm r i]
theorem dh(m:bL):∀v∈m.cs,v.oneCell'=true:=by
 intro v hv;simp[bL.cs] at hv;rcases hv with rfl|rfl|rfl<;>rfl
theorem gV(ms:List bL):∀v∈fl ms,v.oneCell'=true:=by
 intro v hv;obtain⟨m,_,h⟩:=Qd.1 hv;exact dh m v h
theorem ei(ms:List bL)(j:Nat)(hj:j<ms.length)(t:Nat)(ht:t<3):(fl ms)[j*3+t]?=(ms.getD j dm).cs[t]?:=by
 induction ms generalizing j with
 |nil=>simp at hj
 |cons m r ih=>
  rw[bb];cases j with
  |zero=>rw[Js (by rw[bD];omega)];simp
  |succ j=>
   rw[Jr (by rw[bD];omega),bD,show(j+1)*3+t-3=j*3+t by omega,ih j (by simpa using hj)];simp
theorem oA(ms:List bL)(p:Nat)(hp:p<ms.length)(m:bL):((((fl ms).set (p*3) (Y m.aD)).set (p*3+1) (U O m.addr)).set (p*3+2) (U O m.version))=fl (ms.set p m):=by
 induction ms generalizing p with
 |nil=>simp at hp
 |cons x r ih=>
  cases p with
  |zero=>simp[fl,bL.cs]
  |succ p=>
   have MD:=ih p (by simpa using hp);rw[Ou,bb,bb,<- MD];simp only[Nat.add_mul,Q7];have e:∀(l:List Value) (k:Nat) (v:Value),(x.cs++l).set (k+3) v=x.cs++l.set k v:=λl k v=>by
    rw[Q8,if_neg (by rw[bD];omega),bD,Qn]
   have c:∀i:Nat,p*3+3+i=(p*3+i)+3:=λi=>by omega
   simp only[c];rw[e,e,e]
abbrev Own(base:Nat)(w:World)(v:Value)(ms:List bL):Prop:=w.ownsRow base 77 3 v ms.length (fl ms)
theorem iC{base g G:Nat}{w:World}{cur:Array Value}{ms:List bL}(hb:base<=g)(hg:w.heap[g]?=AI (By cur 77 (0,0)))(hs:cur.size=G*3)(hn:ms.length<=G)(hG:G<=Il)(ht:cur.toList.take (ms.length*3)=fl ms) :
 Own base w (J (AI ⟨g,0,be⟩) ms.length G) ms:=⟨cQ ms,.inr ⟨g,G,cur,rfl,hb,hg,hn,hG,hs,ht⟩⟩
theorem Own.sl{base:Nat}{w:World}{v:Value}{ms:List bL}(h:Own base w v ms)(hs:∀j,(ms.getD j dm).ok):Sl w v ms:=by
 rcases h.2 with⟨rfl,h0⟩|⟨g,c,cur,rfl,eD,hg,fP,dR,cf,bj⟩
 .exact⟨be,0,by rw[h0],hs,.inl (Jc h0)⟩
 .refine⟨_,c,rfl,hs,.inr ⟨g,0,rfl,(BY.1 hg).1,λj hj=>?_⟩⟩
  have hc:∀t,t<3->w.cell? ⟨g,0+j*3+t,be⟩=(ms.getD j dm).cs[t]?:=λt ht=>by
   rw[ae hg,<- ei ms j hj t ht,<- bj,IN (by omega)];simp
  exact⟨hc 0 (by omega),hc 1 (by omega),hc 2 (by omega)⟩
theorem Own.below{base:Nat}{w w':World}{v:Value}{ms:List bL}(h:Own base w v ms)(hb:Below w.heap.size w w'):Own base w' v ms:=by
 rcases h.2 with⟨rfl,h0⟩|⟨g,c,cur,rfl,eD,hg,fP,dR,cf,bj⟩
 .exact⟨h.1,.inl ⟨rfl,h0⟩⟩
 .have aX:=(BY.1 hg).1
  exact⟨h.1,.inr ⟨g,c,cur,rfl,eD,(hb.block g aX).trans hg,fP,dR,cf,bj⟩⟩
theorem Own.lt{base:Nat}{w:World}{v:Value}{ms:List bL}(h:Own base w v ms)(k:Nat)(hk:v.ownBlock=AI k):base<=k/\k<w.heap.size:=OK h k hk
theorem fq{base:Nat}{w w1 w2:World}{v:Value}{ms:List bL}(hb:Below base w w1)(h:Own base w1 v ms)(hg:w1.grownBy w2 v.ownBlock)(hbase:base<=w1.heap.size):Below base w w2:=
 hb.grown hg hbase (λk hk=>(h.lt k hk).1)
theorem eE{base g c:Nat}{w:World}{ms:List bL}(h:Own base w (J (AI ⟨g,0,be⟩) ms.length c) ms)(j:Nat)(hj:j<ms.length) :
 As w g (j*3) (ms.getD j dm):=by
 rcases h.2 with⟨h1,_⟩|⟨g',c',cur,h1,eD,hg,fP,dR,cf,bj⟩
 .cases h1
 .simp only[Value.slice.injEq,Option.some.injEq,Addr.mk.injEq] at h1
  obtain⟨⟨rfl,_,_⟩,_,_⟩:=h1;have hc:∀t,t<3->w.cell? ⟨g,j*3+t,be⟩=(ms.getD j dm).cs[t]?:=λt ht=>by
   rw[ae hg,<- ei ms j hj t ht,<- bj,IN (by omega)];simp
  exact⟨hc 0 (by omega),hc 1 (by omega),hc 2 (by omega)⟩
theorem jT{base:Nat}{w:World}{v:Value}{ms:List bL}(h:Own base w v ms)(p:Nat)(hp:p<ms.length):∃g c,v=J (AI ⟨g,0,be⟩) ms.length c:=by
 rcases h.2 with⟨_,h0⟩|⟨g,c,cur,h1,_⟩
 .omega
 .exact⟨g,c,h1⟩
theorem lK{base g c p:Nat}{W:World}{ms:List bL}(h:Own base W (J (AI ⟨g,0,be⟩) ms.length c) ms)(hp:p<ms.length)(m:bL) :
 Own base (((W.setCell ⟨g,p*3,be⟩ (Y m.aD)).setCell ⟨g,p*3+1,be⟩ (U O m.addr)).setCell ⟨g,p*3+2,be⟩ (U O m.version)) (J (AI ⟨g,0,be⟩) ms.length c) (ms.set p m):=by
 have h1:=II h (p*3) (Y m.aD);have h2:=II h1.1 (p*3+1) (U O m.addr);have h3:=II h2.1 (p*3+2) (U O m.version);have e:=h3.1;rw[oA ms p hp m] at e;show J4 _ _ _ _ _ (ms.set p m).length _;rw[IM];exact e
theorem Sl.below{w w':World}{v:Value}{ms:List bL}(h:Sl w v ms)(hb:Below w.heap.size w w'):Sl w' v ms:=by
 obtain⟨a,cap,rfl,hs,h⟩:=h;refine⟨a,cap,rfl,hs,?_⟩;rcases h with h|⟨b,off,rfl,aX,hr⟩
 .exact .inl h
 .refine .inr ⟨b,off,rfl,IL aX hb.size,λj hj=>?_⟩
  exact(hr j hj).eq (λo=>(cC hb).1 b o aX)
theorem Row.later{w w':World}{b off:Nat}{ms:List bL}(hr:Row w b off ms)(hb:Below w.heap.size w w')(aX:b<w.heap.size):Row w' b off ms:=λj hj=>(hr j hj).eq (λo=>(cC hb).1 b o aX)
theorem Own.mono{base iX:Nat}{w:World}{v:Value}{ms:List bL}(h:Own base w v ms)(hb:iX<=base):Own iX w v ms:=by
 rcases h.2 with⟨rfl,h0⟩|⟨g,c,cur,rfl,eD,hg,fP,dR,cf,bj⟩
 .exact⟨h.1,.inl ⟨rfl,h0⟩⟩
 .exact⟨h.1,.inr ⟨g,c,cur,rfl,Ir hb eD,hg,fP,dR,cf,bj⟩⟩
theorem b9(base:Nat)(w:World):Own base w (J be 0 0) []:=J5 w base 77 3
theorem dy{ms:List bL}(h:∀j,(ms.getD j dm).ok):∀m∈ms,(m).ok:=by
 intro m hm;obtain⟨j,hj,rfl⟩:=IX hm;have:=h j;simpa[Ip,If hj] using this
theorem cy{ms:List bL}(h:∀m∈ms,(m).ok):∀j,(ms.getD j dm).ok:=by
 intro j;by_cases hj:j<ms.length
 .have:=h ms[j] (IJ hj)
  simpa[Ip,If hj] using this
 .rw[Ip,I1 (Qe hj)];exact sZ
theorem bF{base:Nat}{w:World}{v:Value}{ms:List bL}(h:Own base w v ms)(hs:∀m∈ms,(m).ok):Sl w v ms:=h.sl (cy hs)
theorem oJ(w:World)(b cap:Nat)(m:bL)(hm:(m).ok)(hg:w.heap[b]?=AI (By #[Y m.aD,U O m.addr,U O m.version] 77 (0,0))):Sl w (J (AI ⟨b,0,be⟩) 1 cap) [m]:=by
 refine⟨_,cap,rfl,cy (λx hx=>by simp at hx;subst hx;exact hm),.inr ⟨b,0,rfl,(BY.1 hg).1,λj hj=>?_⟩⟩
 have:j=0:=by simpa using hj
 subst this;exact⟨ae hg (0+0*3),ae hg (0+0*3+1),ae hg (0+0*3+2)⟩
theorem jU{base:Nat}{w:World}{v:Value}{L:List bL}{m:bL}(h:w.ownsRow base 77 3 v (L.length+1) (fl L++m.cs)):Own base w v (L++[m]):=by
 have e:fl (L++[m])=fl L++m.cs:=by rw[cK,bb];simp[fl]
 show w.ownsRow base 77 3 v (L++[m]).length (fl (L++[m]));rw[e,Ig];exact h
end Gw
namespace Gw
open Go.RowKit
theorem Tryz.rl:(Tryz.prog.info? 77).map (λi=>(i.zero,i.size,i.bytes))=AI (AI (.agg #[Y ⟨#[]⟩,U O 0,U O 0]),3,32):=by kernel_rfl
theorem Ki:(Tryz.prog.info? 77).map (·.size)=AI 3:=by
 obtain⟨i,hi,h1,h2,h3⟩:=I6 Tryz.rl;rw[hi];simp[h2]
theorem sizeOf77(w:World):(Go.sizeOf 77).run AS w=.ok 3 w:=by
 obtain⟨i,hi,h1,h2,h3⟩:=I6 Tryz.rl;simp[Go.sizeOf,typeInfo,hi,h2]
theorem eP(w:World)(g vb o lb cb:Nat)(cur vs:Array Value)(hg:w.heap[g]?=AI (By cur 77 (0,0)))(hv:w.heap[vb]?=AI (By vs 77 (0,0)))(aQ:vb≠g)(hk:cur.size≠0) : (callFunc 248 #[J (AI ⟨vb,0,be⟩) 1 1,J (AI ⟨g,o,be⟩) lb cb]).run AS w=.ok (.value (Ia false)) w:=by
 rw[OF Tryz.func248 (by kernel_rfl) (by kernel_rfl) (by kernel_rfl) (e:=Ow #[37,37] #[4]) (by kernel_rfl),
  Qv w 37 4 77 J8 3 sizeOf77 ⟨vb,0,be⟩ ⟨g,o,be⟩ 1 1 lb cb aQ 77 77 vs.size cur.size (by simp[OW,hv]) (by simp[OW,hg]) hk (by simp[Is,hv]) (by simp[Is,hv])]
 rfl
theorem fA(g n c i vb:Nat)(cur:Array Value)(vs:List Value)(w:World)(hg:w.heap[g]?=AI (By cur 77 (0,0)))(cf:cur.size=c*3)(hi:i<n)(dz:n+1<=c)(BG:c<=9223372036854775807)(qf:vb≠g)(hv:w.heap[vb]?=AI (By vs.toArray 77 (0,0)))(kB:vs.length=3)(l9:∀v∈cur.toList.take (n*3),v.oneCell'=true)(mW:∀v∈vs,v.oneCell'=true) :
 aI 216 #[J (AI ⟨g,0,be⟩) n c,U O i,J (AI ⟨vb,0,be⟩) 1 1] w λe w'=>e=AT (J (AI ⟨g,0,be⟩) (n+1) c) /\
  ∃dV:Array Value,w'.heap[g]?=AI (By dV 77 (0,0))/\dV.size=c*3/\dV.toList.take ((n+1)*3)=cur.toList.take (i*3)++vs++(cur.toList.take (n*3)).drop (i*3)/\w.grownBy w' (AI g):=by
 have Sk:=λo lb cb=>eP w g vb o lb cb cur vs.toArray hg hv qf (by omega);have nW:¬ ((i:Int)=(n:Int)):=by omega
 have aK:¬ (c=i+1):=by omega
 have eU:¬ (c=i):=by omega
 have bX:(i:Int)<=(n:Int)+1:=by omega
 obtain⟨W1,W2,oS,tH,HF⟩:=qe J8 Ki hg cf hi dz qf hv kB l9 mW;have HF:Hid _:=HF;clear l9 mW hg hv;have MY:IntKind.i64.wrap ((i:Int)+1)=(i:Int)+1:=by rw[IW];omega
 have aB:(0:Int)<=(i:Int)+1:=by omega
 have mI:i<=n:=by omega
 have Et:((i:Int)+1).toNat=i+1:=by omega
 go_enter Tryz.func216,Tryz.ntmps216;go_wp2_with (simp only[Sk]);go_region_law (refine dw rfl _ _ 37 37 rfl _ _ (by simp[No,Oq]) (by simp[No,Oq]) (oS _ _ _) ?_)
 go_wp2_with fail;go_ret;exact⟨rfl,HF.out⟩
theorem fB(g n c i vb:Nat)(cur:Array Value)(vs:List Value)(w:World)(hg:w.heap[g]?=AI (By cur 77 (0,0)))(cf:cur.size=c*3)(hi:i<n)(fP:n<=c)(dz:c<n+1)(BG:n<=1000)(hv:w.heap[vb]?=AI (By vs.toArray 77 (0,0)))(kB:vs.length=3)(l9:∀v∈cur.toList.take (n*3),v.oneCell'=true)(mW:∀v∈vs,v.oneCell'=true) :
 aI 216 #[J (AI ⟨g,0,be⟩) n c,U O i,J (AI ⟨vb,0,be⟩) 1 1] w λe w'=>∃G,e=AT (J (AI ⟨w.heap.size,0,be⟩) (n+1) G)/\n+1<=G/\G<=Il /\
  ∃dV:Array Value,w'.heap[w.heap.size]?=AI (By dV 77 (0,0))/\dV.size=G*3/\dV.toList.take ((n+1)*3)=cur.toList.take (i*3)++vs++(cur.toList.take (n*3)).drop (i*3)/\w.grownBy w' be:=by
 obtain⟨i0,fV,di,il,gT⟩:=I6 Tryz.rl;have BH:c=n:=by omega
 subst BH;have nW:¬ ((i:Int)=(c:Int)):=by omega
 have qL:(c:Int)<(c:Int)+1:=by omega
 have rj:(c:Int)+1-(i:Int)=((c+1-i:Nat):Int):=by omega
 have BI:i+(c+1-i)=c+1:=by omega
 have hold:(Ql i0.size i (J (AI ⟨g,0,be⟩) i c)).run AS w.drew=.ok (cur.toList.take (i*3)).toArray w.drew:=by
  rw[il];exact Q1 w.drew 3 i ⟨g,0,be⟩ i c (cur.toList.take (i*3)) (by rw[IA,IU];omega) (λj v hj=>by
   have e:w.drew.cell? ((⟨g,0,be⟩:Addr).add j)=cur[j]?:=by rw[I9,IC];exact ae hg _
   rw[e];rw[Qp] at hj;split at hj
   .simpa using hj
   .cases hj)
 have xF:∀ty,∃G mG,c+1<=G/\G<=Il/\mG.size=G*3/\mG.toList.take (i*3)=cur.toList.take (i*3)/\(Q9 #[37,3] ty #[J (AI ⟨g,0,be⟩) i c,U O ((c:Int)+1-(i:Int))]).run AS w =
  .ok (J (AI ⟨w.heap.size,0,be⟩) (c+1) G) (w.drew.alloc (By mG 77)):=λty=>by
  have h:=Qb w 37 3 ty 77 i0 _ O O J8 ID fV di (AI ⟨g,0,be⟩) i c (cur.toList.take (i*3)) hold (c+1-i) (by omega) (by omega) (by omega) (by omega) (by rw[gT];omega) (by rw[gT,BI];exact growslice_fits dz (by omega));rw[BI] at h;rw[rj];have h1:=grownCap_ge w (c+1) c 77;refine⟨_,_,h1,Ug w (c+1) c 77 (by unfold Il;omega),?_,?_,h⟩
  .simp only[Array.size_append,JX,size_zeroCells,IA,IU,cf,Value.cells]
   simp;omega
  .simp only[Q2,Io]
   exact OC (by simp only[IA,IU,cf];omega)
 obtain⟨G,mG,zG,xG,AV,Eu,xF⟩:=xF 37;have Sm:G<=9223372036854775807:=by unfold Il at xG;omega
 obtain⟨W2,W3,oS,tH,HF⟩:=qg J8 Ki hg cf hi hv kB l9 mW zG AV Eu;obtain⟨W1,cT⟩:∃W1,W1=(w.alloc (By mG 77)).drew:=⟨_,rfl⟩;have Kh:w.drew.alloc (By mG 77)=W1:=by rw[cT];rfl
 rw[Kh] at xF;rw[<- cT] at oS;have HF:Hid _:=HF;have MY:IntKind.i64.wrap ((i:Int)+1)=(i:Int)+1:=by rw[IW];omega
 have aB:(0:Int)<=(i:Int)+1:=by omega
 have mI:i<=c:=by omega
 have Et:((i:Int)+1).toNat=i+1:=by omega
 have hGi:¬ (G=i):=by omega
 have Sn:¬ (G=i+1):=by omega
 have hci:¬ (c=i):=by omega
 clear cT l9 mW Kh AV Eu rj BI hold hg hv fV di il gT;go_enter Tryz.func216,Tryz.ntmps216;go_wp2_with (at_builtin;refine QD _ rfl _ _ _ _ rfl _ _ rfl rfl _ _ xF ?_);go_region_law (refine dw rfl _ _ 37 37 rfl _ _ (by simp[No,Oq]) (by simp[No,Oq]) (tH _ _ _) ?_)
 go_wp2_with fail;go_ret;exact⟨G,rfl,zG,xG,HF.out⟩
theorem gk(base n vb:Nat)(v:Value)(xs vs:List Value)(w:World)(hown:w.ownsRow base 77 3 v n xs)(hn:n<=1000)(hbase:base<=w.heap.size)(hv:w.heap[vb]?=AI (By vs.toArray 77 (0,0)))(kB:vs.length=3)(mW:∀v∈vs,v.oneCell'=true) :
 aI 216 #[v,U O n,J (AI ⟨vb,0,be⟩) 1 1] w λe w'=>∃v',e=AT v'/\w'.ownsRow base 77 3 v' (n+1) (xs++vs)/\w.grownBy w' v.ownBlock:=by
 obtain⟨i0,fV,di,il,gT⟩:=I6 Tryz.rl;have hnews:∀j u,vs[j]?=AI u->w.cell? ((⟨vb,0,be⟩:Addr).add j)=AI u:=λj v hj=>by rw[I9,ae hv];simpa using hj
 have HO:Hid (w.ownsRow base 77 3 v n xs):=hown;rcases hown.2 with⟨rfl,rfl⟩|⟨g,c,cur,rfl,_,_,fP,dR,_,_⟩;rotate_left;unfold Il at dR;by_cases BH:c=n;subst BH;all_goals
  clear hown hv;go_enter Tryz.func216,Tryz.ntmps216;go_wp2_with (at_builtin;refine Ja _ rfl _ _ 37 rfl base 77 i0 _ 3 32 J8 fV di il gT rfl (by omega) _ _ xs rfl HO.out ⟨vb,0,be⟩ 1 1 vs rfl (by omega) hnews mW (by unfold Il;omega) (by omega) hbase ?_);intro v' w' r1 r2 r3;go_wp2_with fail;go_ret;exact⟨v',rfl,r1,r2⟩
theorem fC(base i vb:Nat)(v:Value)(ms:List bL)(m:bL)(w:World)(hown:Own base w v ms)(hi:i<=ms.length)(hn:ms.length<=1000)(hbase:base<=w.heap.size)(hv:w.heap[vb]?=AI (By m.cs.toArray 77 (0,0)))(aQ:v.ownBlock≠AI vb) :
 aI 216 #[v,U O i,J (AI ⟨vb,0,be⟩) 1 1] w λe w'=>∃v',e=AT v'/\Own base w' v' (ms.take i++m::ms.drop i)/\w.grownBy w' v.ownBlock:=by
 have hlen:(ms.take i++m::ms.drop i).length=ms.length+1:=by simp;omega
 have Hq:fl (ms.take i++m::ms.drop i)=(fl ms).take (i*3)++m.cs++(fl ms).drop (i*3):=by rw[cK,bb,fk,fm,Io]
 by_cases mI:i=ms.length
 .subst mI
  refine(gk base ms.length vb v (fl ms) m.cs w hown hn hbase hv rfl (dh m)).mono ?_;rintro e w' ⟨v',rfl,h1,h2⟩;refine⟨v',rfl,?_,h2⟩;have e1:ms.take ms.length++m::ms.drop ms.length=ms++[m]:=by simp
  have e2:fl (ms++[m])=fl ms++m.cs:=by rw[cK,bb];simp[fl]
  rw[e1];show w'.ownsRow base 77 3 v' (ms++[m]).length (fl (ms++[m]));rw[e2,show(ms++[m]).length=ms.length+1 by simp];exact h1
 .rcases hown.2 with⟨_,h0⟩|⟨g,c,cur,rfl,eD,hg,fP,dR,cf,bj⟩
  .omega
  .have qf:vb≠g:=λe=>aQ (by simp[Jz,e])
   have l9:∀v∈cur.toList.take (ms.length*3),v.oneCell'=true:=by rw[bj];exact gV ms
   have MZ:cur.toList.take (i*3)=(fl ms).take (i*3):=by rw[<- bj,QJ];congr 1;omega
   have key:∀l:List Value,l=cur.toList.take (i*3)++m.cs++(cur.toList.take (ms.length*3)).drop (i*3)->l=fl (ms.take i++m::ms.drop i):=λl hl=>by rw[hl,Hq,bj,MZ]
   by_cases dz:ms.length+1<=c
   .refine(fA g ms.length c i vb cur m.cs w hg cf (by omega) dz (by unfold Il at dR;omega) qf hv rfl l9 (dh m)).mono ?_
    rintro e w' ⟨rfl,dV,h1,h2,h3,h4⟩;refine⟨_,rfl,?_,h4⟩;rw[<- hlen];exact iC eD h1 h2 (by omega) dR (key _ (by rw[hlen];exact h3))
   .refine(fB g ms.length c i vb cur m.cs w hg cf (by omega) fP (by omega) hn hv rfl l9 (dh m)).mono ?_
    rintro e w' ⟨G,rfl,zG,xG,dV,h1,h2,h3,h4⟩;refine⟨_,rfl,?_,nE h4 _⟩;rw[<- hlen];exact iC hbase h1 h2 (by omega) xG (key _ (by rw[hlen];exact h3))
end Gw
namespace Lt
open Go.RowKit
structure fg where
 to:Int
 text:ByteArray
def dm:fg:=⟨0,Iv⟩
def fg.ok(m:fg):Prop:=m.text.size<=Il
theorem sZ:dm.ok:=by simp[fg.ok,dm]
abbrev As(w:World)(b o:Nat)(m:fg):Prop:=w.cell? ⟨b,o,be⟩=AI (U O m.to)/\w.cell? ⟨b,o+1,be⟩=AI (Y m.text)
theorem As.eq{w w':World}{b o:Nat}{m:fg}(h:As w b o m)(e:∀o,w'.cell? ⟨b,o,be⟩=w.cell? ⟨b,o,be⟩):As w' b o m:=by
 obtain⟨c0,c1⟩:=h;exact⟨(e _).trans c0,(e _).trans c1⟩
def Row(w:World)(b off:Nat)(ms:List fg):Prop:=∀j,j<ms.length->As w b (off+j*2) (ms.getD j dm)
def Sl(w:World)(v:Value)(ms:List fg):Prop:=
 ∃(a:Option Addr) (cap:Nat),v=J a ms.length cap/\(∀j,(ms.getD j dm).ok) /\
  (ms=[]\/∃b off,a=AI ⟨b,off,be⟩/\b<w.heap.size/\Row w b off ms)
def fg.cs(m:fg):List Value:=[U O m.to,Y m.text]
def fl(ms:List fg):List Value:=ms.flatMap fg.cs
theorem bD(m:fg):m.cs.length=2:=rfl
theorem bb(m:fg)(r:List fg):fl (m::r)=m.cs++fl r:=by simp[fl]
theorem cK(a b:List fg):fl (a++b)=fl a++fl b:=by simp[fl]
theorem cQ:∀ms:List fg,(fl ms).length=ms.length*2
 |[]=>rfl
 |m::r=>by rw[bb,Ig,cQ r,bD,Iw];omega
theorem fk:∀(ms:List fg) (i:Nat),(fl ms).take (i*2)=fl (ms.take i)
 |[],i=>by simp[fl]
 |m::r,0=>by simp[fl]
 |m::r,i+1=>by
  rw[bb,Od,bb,show(i+1)*2=m.cs.length+i*2 by rw[bD];omega,JY,fk r i]
theorem fm:∀(ms:List fg) (i:Nat),(fl ms).drop (i*2)=fl (ms.drop i)
 |[],i=>by simp[fl]
 |m::r,0=>by simp
 |m::r,i+1=>by
  rw[bb,Oe,show(i+1)*2=m.cs.length+i*2 by rw[bD];omega,JZ,fm r i]
theorem dh(m:fg):∀v∈m.cs,v.oneCell'=true:=by
 intro v hv;simp[fg.cs] at hv;rcases hv with rfl|rfl<;>rfl
theorem gV(ms:List fg):∀v∈fl ms,v.oneCell'=true:=by
 intro v hv;obtain⟨m,_,h⟩:=Qd.1 hv;exact dh m v h
theorem ei(ms:List fg)(j:Nat)(hj:j<ms.length)(t:Nat)(ht:t<2):(fl ms)[j*2+t]?=(ms.getD j dm).cs[t]?:=by
 induction ms generalizing j with
 |nil=>simp at hj
 |cons m r ih=>
  rw[bb];cases j with
  |zero=>rw[Js (by rw[bD];omega)];simp
  |succ j=>
   rw[Jr (by rw[bD];omega),bD,show(j+1)*2+t-2=j*2+t by omega,ih j (by simpa using hj)];simp
abbrev Own(base:Nat)(w:World)(v:Value)(ms:List fg):Prop:=w.ownsRow base 102 2 v ms.length (fl ms)
theorem Own.sl{base:Nat}{w:World}{v:Value}{ms:List fg}(h:Own base w v ms)(hs:∀j,(ms.getD j dm).ok):Sl w v ms:=by
 rcases h.2 with⟨rfl,h0⟩|⟨g,c,cur,rfl,eD,hg,fP,dR,cf,bj⟩
 .exact⟨be,0,by rw[h0],hs,.inl (Jc h0)⟩
 .refine⟨_,c,rfl,hs,.inr ⟨g,0,rfl,(BY.1 hg).1,λj hj=>?_⟩⟩
  have hc:∀t,t<2->w.cell? ⟨g,0+j*2+t,be⟩=(ms.getD j dm).cs[t]?:=λt ht=>by
   rw[ae hg,<- ei ms j hj t ht,<- bj,IN (by omega)];simp
  exact⟨hc 0 (by omega),hc 1 (by omega)⟩
theorem Own.below{base:Nat}{w w':World}{v:Value}{ms:List fg}(h:Own base w v ms)(hb:Below w.heap.size w w'):Own base w' v ms:=by
 rcases h.2 with⟨rfl,h0⟩|⟨g,c,cur,rfl,eD,hg,fP,dR,cf,bj⟩
 .exact⟨h.1,.inl ⟨rfl,h0⟩⟩
 .have aX:=(BY.1 hg).1
  exact⟨h.1,.inr ⟨g,c,cur,rfl,eD,(hb.block g aX).trans hg,fP,dR,cf,bj⟩⟩
theorem Sl.below{w w':World}{v:Value}{ms:List fg}(h:Sl w v ms)(hb:Below w.heap.size w w'):Sl w' v ms:=by
 obtain⟨a,cap,rfl,hs,h⟩:=h;refine⟨a,cap,rfl,hs,?_⟩;rcases h with h|⟨b,off,rfl,aX,hr⟩
 .exact .inl h
 .refine .inr ⟨b,off,rfl,IL aX hb.size,λj hj=>?_⟩
  exact(hr j hj).eq (λo=>(cC hb).1 b o aX)
theorem Row.later{w w':World}{b off:Nat}{ms:List fg}(hr:Row w b off ms)(hb:Below w.heap.size w w')(aX:b<w.heap.size):Row w' b off ms:=λj hj=>(hr j hj).eq (λo=>(cC hb).1 b o aX)
theorem Own.mono{base iX:Nat}{w:World}{v:Value}{ms:List fg}(h:Own base w v ms)(hb:iX<=base):Own iX w v ms:=by
 rcases h.2 with⟨rfl,h0⟩|⟨g,c,cur,rfl,eD,hg,fP,dR,cf,bj⟩
 .exact⟨h.1,.inl ⟨rfl,h0⟩⟩
 .exact⟨h.1,.inr ⟨g,c,cur,rfl,Ir hb eD,hg,fP,dR,cf,bj⟩⟩
theorem b9(base:Nat)(w:World):Own base w (J be 0 0) []:=J5 w base 102 2
theorem cy{ms:List fg}(h:∀m∈ms,(m).ok):∀j,(ms.getD j dm).ok:=by
 intro j;by_cases hj:j<ms.length
 .have:=h ms[j] (IJ hj)
  simpa[Ip,If hj] using this
 .rw[Ip,I1 (Qe hj)];exact sZ
theorem bF{base:Nat}{w:World}{v:Value}{ms:List fg}(h:Own base w v ms)(hs:∀m∈ms,(m).ok):Sl w v ms:=h.sl (cy hs)
end Lt
namespace Gw
open Go.RowKit
theorem fc(ms:List bL)(v:Value)(w:World)(h:Sl w v ms)(hn:ms.length<=1000) :
 aI 60 #[v] w λe w'=>∃v',e=AT v'/\Own w.heap.size w' v' ms/\Below w.heap.size w w':=by
 obtain⟨a,cap,rfl,hs,h⟩:=h;obtain⟨i0,fV,di,il,gT⟩:=I6 Tryz.rl;cases a with
 |none=>
  have he:ms=[]:=by
   rcases h with h|⟨b,off,h,_⟩
   .exact h
   .cases h
  subst he;clear h hs;have gX:=λ(w:World)=>Ju (P:=AS) w 37 77 be 0 cap 0 0 J8;simp only[IV,OP] at gX ⊢;go_enter Tryz.func60,Tryz.ntmps60;go_wp2_with fail;go_ret;exact⟨_,rfl,b9 _ _,Below.refl _ _⟩
 |some a=>
  have gX:=λ(w:World)=>Ju (P:=AS) w 37 77 (AI a) ms.length cap 0 0 J8;simp only[OQ] at gX;have hnews:Hid (∀j u,(fl ms)[j]?=AI u->(w.alloc (By #[] 77)).cell? (a.add j)=AI u):=by
   intro j u hj;rcases h with h|⟨b,off,h,hb,hr⟩
   .subst h;simp[fl] at hj
   .cases h
    have RI:j<ms.length*3:=by rw[<- cQ];exact(Jl.1 hj).1
    have h1:=ei ms (j/3) (by omega) (j%3) (by omega);rw[show j/3*3+j%3=j by omega,hj] at h1;rw[I9,Og (w:=w) _ b _ hb];obtain⟨c0,c1,c2⟩:=hr (j/3) (by omega);have cf:j%3=0\/j%3=1\/j%3=2:=by omega
    rcases cf with e|e|e
    .rw[show off+j=off+j/3*3 by omega,c0];rw[e] at h1;simpa[bL.cs] using h1.symm
    .rw[show off+j=off+j/3*3+1 by omega,c1];rw[e] at h1;simpa[bL.cs] using h1.symm
    .rw[show off+j=off+j/3*3+2 by omega,c2];rw[e] at h1;simpa[bL.cs] using h1.symm
  have HO:Hid ((w.alloc (By #[] 77)).ownsRow w.heap.size 77 3 (J (AI ⟨w.heap.size,0,be⟩) 0 0) 0 []):=OR w #[] 0 (Ic _) (by unfold Il;omega) rfl;clear h hs;go_enter Tryz.func60,Tryz.ntmps60;go_wp2_with (at_builtin;refine Ja _ rfl _ _ 37 rfl w.heap.size 77 i0 _ 3 32 J8 fV di il gT rfl (by omega) _ 0 [] rfl HO.out a ms.length cap (fl ms) rfl (cQ ms) hnews.out (gV ms) (by unfold Il;omega) (by omega) (by simp) ?_);intro v' w' r1 r2 r3;go_wp2_with fail;go_ret;refine⟨v',rfl,?_,?_⟩
  .simpa using r1
  .exact((Below.refl _ _).alloc (Ic _) _).grown r2 (by simp) (λk hk=>by simp[Jz] at hk;omega)
end Gw
namespace Lt
open Go.RowKit
theorem Tryz.M0:(Tryz.prog.info? 102).map (λi=>(i.zero,i.size,i.bytes))=AI (AI (.agg #[U O 0,Y ⟨#[]⟩]),2,24):=by kernel_rfl
end Lt
namespace Lt
open Go.RowKit
theorem fc(ms:List fg)(v:Value)(w:World)(h:Sl w v ms)(hn:ms.length<=1000) :
 aI 50 #[v] w λe w'=>∃v',e=AT v'/\Own w.heap.size w' v' ms/\Below w.heap.size w w':=by
 obtain⟨a,cap,rfl,hs,h⟩:=h;obtain⟨i0,fV,di,il,gT⟩:=I6 Tryz.M0;cases a with
 |none=>
  have he:ms=[]:=by
   rcases h with h|⟨b,off,h,_⟩
   .exact h
   .cases h
  subst he;clear h hs;have gX:=λ(w:World)=>Ju (P:=AS) w 25 102 be 0 cap 0 0 Qa;simp only[IV,OP] at gX ⊢;go_enter Tryz.func50,Tryz.ntmps50;go_wp2_with fail;go_ret;exact⟨_,rfl,b9 _ _,Below.refl _ _⟩
 |some a=>
  have gX:=λ(w:World)=>Ju (P:=AS) w 25 102 (AI a) ms.length cap 0 0 Qa;simp only[OQ] at gX;have hnews:Hid (∀j u,(fl ms)[j]?=AI u->(w.alloc (By #[] 102)).cell? (a.add j)=AI u):=by
   intro j u hj;rcases h with h|⟨b,off,h,hb,hr⟩
   .subst h;simp[fl] at hj
   .cases h
    have RI:j<ms.length*2:=by rw[<- cQ];exact(Jl.1 hj).1
    have h1:=ei ms (j/2) (by omega) (j%2) (by omega);rw[show j/2*2+j%2=j by omega,hj] at h1;rw[I9,Og (w:=w) _ b _ hb];obtain⟨c0,c1⟩:=hr (j/2) (by omega);have cf:j%2=0\/j%2=1:=by omega
    rcases cf with e|e
    .rw[show off+j=off+j/2*2 by omega,c0];rw[e] at h1;simpa[fg.cs] using h1.symm
    .rw[show off+j=off+j/2*2+1 by omega,c1];rw[e] at h1;simpa[fg.cs] using h1.symm
  have HO:Hid ((w.alloc (By #[] 102)).ownsRow w.heap.size 102 2 (J (AI ⟨w.heap.size,0,be⟩) 0 0) 0 []):=OR w #[] 0 (Ic _) (by unfold Il;omega) rfl;clear h hs;go_enter Tryz.func50,Tryz.ntmps50;go_wp2_with (at_builtin;refine Ja _ rfl _ _ 25 rfl w.heap.size 102 i0 _ 2 24 Qa fV di il gT rfl (by omega) _ 0 [] rfl HO.out a ms.length cap (fl ms) rfl (cQ ms) hnews.out (gV ms) (by unfold Il;omega) (by omega) (by simp) ?_);intro v' w' r1 r2 r3;go_wp2_with fail;go_ret;refine⟨v',rfl,?_,?_⟩
  .simpa using r1
  .exact((Below.refl _ _).alloc (Ic _) _).grown r2 (by simp) (λk hk=>by simp[Jz] at hk;omega)
end Lt
end Go.Proofs.YtfidhgjmifendaaGreatDoor
