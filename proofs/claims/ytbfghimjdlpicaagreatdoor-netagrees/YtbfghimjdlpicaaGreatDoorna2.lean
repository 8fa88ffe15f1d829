import Derived.Test.YtbfghimjdlpicaaGreatDoorna1
set_option maxHeartbeats 1000000
set_option maxRecDepth 100000
open Go.Obj renaming cells→By
open Option renaming some→AI,none→be
open Go.Addr renaming add_lit→I5
open List renaming getElem?_take→Qz,length_drop→JU,length_take→IE,mem_of_mem_drop→Q2,size_toArray→J5,length_append→Ii,append_assoc→Iq,take_take→QR,take_left'→OK,getD→Ir
open Go.Value renaming slice→J,string→Y,int→U,ownBlock→JF
open Go.Builtin renaming copy_→QB,firstCells→Qu,append_→Ui
open Nat renaming mul_le_mul_right→OG,one_mul→Ug,zero_add→ID
open Array renaming length_toList→IW,getElem?_eq_some_iff→BY,toList_append→Ud
open Go.IntKind renaming i64→O,wrap_i64→I1
open Go renaming info_parts→I9,run_callFunc_extern→OM,maxLen→Io,run_firstCells_some→Uc,grownCap_le_maxLen→Uq,wpList_append_own→IZ
open Go.Proofs.Tryz renaming prog→AS,underlying48→Ob,underlying3→IH,underlying47→Oa
open Go.Extern.SlicesOverlaps renaming overlaps→OF
open Go.Lib renaming run_overlaps_apart→QF,run_append_grow_zeros→Qk,wpList_append_run→QL
open Go.World renaming shape?→O7,frozen?→It
open Go.Ending renaming returned→AT
open Go.Act renaming eval→Of,put→Oz
namespace Go.Proofs.YtbfghimjdlpicaaGreatDoor
open Go.RowKit
section
variable {P:Program} {S T:TypeId} {k:Nat}
theorem M4{w:World}{g i n:Nat}{cur:Array Value}(hg:w.heap[g]?=AI (By cur T (0,0))):∀j v,((cur.toList.take n).drop i)[j]?=AI v->w.cell? ((⟨g,i,be⟩:Addr).add j)=AI v:=λj v hj=>by
 rw[show w.cell? ((⟨g,i,be⟩:Addr).add j)=cur[i+j]? by rw[I5];exact ae hg _];rw[List.getElem?_drop,Qz] at hj;split at hj
 .simpa using hj
 .cases hj
theorem rL(hu:P.underlying S=AI (.slice T))(cB:(P.info? T).map (·.size)=AI k){g n c i vb:Nat}{cur:Array Value}{vs:List Value}{w:World}(hg:w.heap[g]?=AI (By cur T (0,0)))(cE:cur.size=c*k)(hi:i<n)(dN:n+1<=c)(rK:vb≠g)(hv:w.heap[vb]?=AI (By vs.toArray T (0,0)))(lC:vs.length=k)(nt:∀v∈cur.toList.take (n*k),v.oneCell'=true)(oy:∀v∈vs,v.oneCell'=true) :
 ∃W1 W2,(∀ty dc sc,(QB #[S,S] ty #[J (AI ⟨g,(i+1)*k,be⟩) (n-i) dc,J (AI ⟨g,i*k,be⟩) (n+1-i) sc]).run P w.drew=.ok (goInt (Nat.min (n+1-i) (n-i))) W1) /\
  (∀ty dc,(QB #[S,S] ty #[J (AI ⟨g,i*k,be⟩) (n+1-i) dc,J (AI ⟨vb,0,be⟩) 1 1]).run P W1=.ok (goInt (Nat.min 1 (n+1-i))) W2) /\
  ∃ev:Array Value,W2.heap[g]?=AI (By ev T (0,0))/\ev.size=c*k/\ev.toList.take ((n+1)*k)=cur.toList.take (i*k)++vs++(cur.toList.take (n*k)).drop (i*k)/\w.grownBy W2 (AI g):=by
 have m1:(i+1)*k=i*k+k:=Nat.succ_mul i k;have m2:(n+1)*k=n*k+k:=Nat.succ_mul n k;have m3:i*k<=n*k:=OG k (by omega);have m4:(n+1)*k<=c*k:=OG k dN;have m5:(n-i)*k=n*k-i*k:=Nat.sub_mul n i k;have Sj:((cur.toList.take (n*k)).drop (i*k)).length=(n-i)*k:=by
  simp only[JU,IE,IW];omega
 have hX1:∀v∈(cur.toList.take (n*k)).drop (i*k),v.oneCell'=true:=λv hv=>nt v (Q2 hv);have hXs:=M4 (w:=w.drew) (i:=i*k) (n:=n*k) hg;generalize hX:(cur.toList.take (n*k)).drop (i*k)=X at *;obtain⟨C1,Vh⟩:∃C1:Array Value,C1=(cur.toList.take ((i+1)*k)++X++cur.toList.drop ((i+1)*k+X.length)).toArray:=⟨_,rfl⟩;obtain⟨W1,db⟩:∃W1,W1=w.drew.setRow g C1:=⟨_,rfl⟩;have cI:W1.heap[g]?=AI (By C1 T (0,0)):=by rw[db];exact setRow_heap w.drew g cur C1 T (0,0) hg
 have Bj:∀q,q≠g->W1.heap[q]?=w.heap[q]?:=λq hq=>by rw[db,setRow_other w.drew g q C1 hq];rfl
 have Co:W1.heap[vb]?=AI (By vs.toArray T (0,0)):=by rw[Bj vb rK];exact hv
 have fO:C1.size=c*k:=by
  rw[Vh];simp only[J5,Ii,IE,JU,IW,Sj,cE];omega
 obtain⟨C2,M5⟩:∃C2:Array Value,C2=(C1.toList.take (i*k)++vs++C1.toList.drop (i*k+vs.length)).toArray:=⟨_,rfl⟩;obtain⟨W2,bO⟩:∃W2,W2=W1.setRow g C2:=⟨_,rfl⟩;refine⟨W1,W2,λty dc sc=>?_,λty dc=>?_,C2,by rw[bO];exact setRow_heap W1 g C1 C2 T (0,0) cI,?_,?_,⟨by rw[bO,db];rfl,by rw[bO,db];rfl,by rw[bO,db];rfl,by rw[bO,db];simp[World.setRow],λq _ hq=>?_⟩⟩
 .rw[db,Vh]
  exact mL w.drew S S ty T g ((i+1)*k) (n-i) dc ⟨g,i*k,be⟩ (n+1-i) sc k cur T X hu cB hg (by rw[Sj];congr 1;simp only[Nat.min_def];split<;>omega) hXs (by rw[Sj,cE];omega) hX1
 .rw[bO,M5]
  exact mL W1 S S ty T g (i*k) (n+1-i) dc ⟨vb,0,be⟩ 1 1 k C1 T vs hu cB cI (by rw[lC,show Nat.min 1 (n+1-i)=1 by simp only[Nat.min_def];split<;>omega,Ug]) (λj v hj=>by rw[I5,ae Co];simpa using hj) (by rw[lC,fO];omega) oy
 .rw[M5];simp only[J5,Ii,IE,JU,IW,lC,fO];omega
 .have e1:C1.toList.take (i*k)=cur.toList.take (i*k):=by
   rw[Vh];simp only[Iq];rw[List.take_append_of_le_length (by simp only[IE,IW,cE];omega),QR];congr 1;omega
  have e2:C1.toList.drop (i*k+vs.length)=X++cur.toList.drop ((i+1)*k+X.length):=by
   rw[Vh];simp only[Iq];rw[List.drop_append_of_le_length (by simp only[IE,IW,cE];omega),List.drop_of_length_le (by simp only[IE,IW,cE];omega),List.nil_append]
  rw[M5,e1,e2];simp only[Iq];rw[<- Iq vs,<- Iq (List.take (i*k) cur.toList)];exact OK (by simp only[Ii,IE,IW,cE,lC,Sj];omega)
 .have hq':q≠g:=λe=>hq (by rw[e])
  rw[bO,setRow_other W1 g q C2 hq',Bj q hq']
theorem rM(hu:P.underlying S=AI (.slice T))(cB:(P.info? T).map (·.size)=AI k){g c i vb G:Nat}{cur nQ:Array Value}{vs:List Value}{w:World}(hg:w.heap[g]?=AI (By cur T (0,0)))(cE:cur.size=c*k)(hi:i<c)(hv:w.heap[vb]?=AI (By vs.toArray T (0,0)))(lC:vs.length=k)(nt:∀v∈cur.toList.take (c*k),v.oneCell'=true)(oy:∀v∈vs,v.oneCell'=true)(Bp:c+1<=G)(Cp:nQ.size=G*k)(He:nQ.toList.take (i*k)=cur.toList.take (i*k)) :
 ∃W2 W3,(∀ty dc,(QB #[S,S] ty #[J (AI ⟨w.heap.size,i*k,be⟩) (c+1-i) dc,J (AI ⟨vb,0,be⟩) 1 1]).run P ((w.alloc (By nQ T)).drew)=.ok (goInt (Nat.min 1 (c+1-i))) W2) /\
  (∀ty dc sc,(QB #[S,S] ty #[J (AI ⟨w.heap.size,(i+1)*k,be⟩) (c-i) dc,J (AI ⟨g,i*k,be⟩) (c-i) sc]).run P W2.drew=.ok (goInt (Nat.min (c-i) (c-i))) W3) /\
  ∃ev:Array Value,W3.heap[w.heap.size]?=AI (By ev T (0,0))/\ev.size=G*k/\ev.toList.take ((c+1)*k)=cur.toList.take (i*k)++vs++(cur.toList.take (c*k)).drop (i*k)/\w.grownBy W3 be:=by
 have wW:g<w.heap.size:=(BY.1 hg).1;have LC:vb<w.heap.size:=(BY.1 hv).1;have m1:(i+1)*k=i*k+k:=Nat.succ_mul i k;have m2:(c+1)*k=c*k+k:=Nat.succ_mul c k;have m3:i*k<=c*k:=OG k (by omega);have m4:(c+1)*k<=G*k:=OG k Bp;have m5:(c-i)*k=c*k-i*k:=Nat.sub_mul c i k;obtain⟨W1,db⟩:∃W1,W1=(w.alloc (By nQ T)).drew:=⟨_,rfl⟩;rw[<- db];have cI:W1.heap[w.heap.size]?=AI (By nQ T (0,0)):=by rw[db];exact heap_alloc_new w _
 have Bj:∀q,q<w.heap.size->W1.heap[q]?=w.heap[q]?:=λq hq=>by rw[db];exact Below.heap_alloc w _ q hq
 have Co:W1.heap[vb]?=AI (By vs.toArray T (0,0)):=by rw[Bj vb LC];exact hv
 obtain⟨C1,Vh⟩:∃C1:Array Value,C1=(nQ.toList.take (i*k)++vs++nQ.toList.drop (i*k+vs.length)).toArray:=⟨_,rfl⟩;obtain⟨W2,bO⟩:∃W2,W2=W1.setRow w.heap.size C1:=⟨_,rfl⟩;have dO:W2.drew.heap[w.heap.size]?=AI (By C1 T (0,0)):=by rw[bO];exact setRow_heap W1 w.heap.size nQ C1 T (0,0) cI
 have fS:∀q,q<w.heap.size->W2.drew.heap[q]?=w.heap[q]?:=λq hq=>by
  have:=setRow_other W1 w.heap.size q C1 (by omega);rw[<- bO] at this;exact this.trans (Bj q hq)
 have fO:C1.size=G*k:=by
  rw[Vh];simp only[J5,Ii,IE,JU,IW,lC,Cp];omega
 have Sj:((cur.toList.take (c*k)).drop (i*k)).length=(c-i)*k:=by
  simp only[JU,IE,IW];omega
 have hX1:∀v∈(cur.toList.take (c*k)).drop (i*k),v.oneCell'=true:=λv hv=>nt v (Q2 hv);have hXs:=M4 (w:=W2.drew) (i:=i*k) (n:=c*k) ((fS g wW).trans hg);generalize hX:(cur.toList.take (c*k)).drop (i*k)=X at *;obtain⟨C2,M5⟩:∃C2:Array Value,C2=(C1.toList.take ((i+1)*k)++X++C1.toList.drop ((i+1)*k+X.length)).toArray:=⟨_,rfl⟩;obtain⟨W3,ee⟩:∃W3,W3=W2.drew.setRow w.heap.size C2:=⟨_,rfl⟩;refine⟨W2,W3,λty dc=>?_,λty dc sc=>?_,C2,by rw[ee];exact setRow_heap W2.drew w.heap.size C1 C2 T (0,0) dO,?_,?_,⟨by rw[ee,bO,db];rfl,by rw[ee,bO,db];rfl,by rw[ee,bO,db];rfl,by rw[ee,bO,db];simp[World.setRow],λq hq _=>by rw[ee,setRow_other W2.drew w.heap.size q C2 (by omega),fS q hq]⟩⟩
 .rw[bO,Vh]
  exact mL W1 S S ty T w.heap.size (i*k) (c+1-i) dc ⟨vb,0,be⟩ 1 1 k nQ T vs hu cB cI (by rw[lC,show Nat.min 1 (c+1-i)=1 by simp only[Nat.min_def];split<;>omega,Ug]) (λj v hj=>by rw[I5,ae Co];simpa using hj) (by rw[lC,Cp];omega) oy
 .rw[ee,M5]
  exact mL W2.drew S S ty T w.heap.size ((i+1)*k) (c-i) dc ⟨g,i*k,be⟩ (c-i) sc k C1 T X hu cB dO (by rw[Sj];congr 1;simp only[Nat.min_def];split<;>omega) hXs (by rw[Sj,fO];omega) hX1
 .rw[M5];simp only[J5,Ii,IE,JU,IW,Sj,fO];omega
 .have e1:C1.toList.take ((i+1)*k)=cur.toList.take (i*k)++vs:=by
   rw[Vh,He];exact OK (by simp only[Ii,IE,IW,cE,lC];omega)
  rw[M5,e1];exact OK (by simp only[Ii,IE,IW,cE,lC,Sj];omega)
end
end Go.Proofs.YtbfghimjdlpicaaGreatDoor
namespace Go.Proofs.YtbfghimjdlpicaaGreatDoor
namespace Wh
open Go.RowKit
theorem Tryz.oZ:(Tryz.prog.info? 116).map (λi=>(i.zero,i.size,i.bytes))=AI (AI (.agg #[Y ⟨#[]⟩,U O 0,U O 0,U O 0,U O 0,U O 0]),6,56):=by kernel_rfl
theorem Fm:(Tryz.prog.info? 116).map (·.size)=AI 6:=by
 obtain⟨i,hi,h1,h2,h3⟩:=I9 Tryz.oZ;rw[hi];simp[h2]
theorem sizeOf116(w:World):(Go.sizeOf 116).run AS w=.ok 6 w:=by
 obtain⟨i,hi,h1,h2,h3⟩:=I9 Tryz.oZ;simp[Go.sizeOf,typeInfo,hi,h2]
theorem fx(w:World)(g vb o lb cb:Nat)(cur vs:Array Value)(hg:w.heap[g]?=AI (By cur 116 (0,0)))(hv:w.heap[vb]?=AI (By vs 116 (0,0)))(aP:vb≠g)(hk:cur.size≠0) : (callFunc 163 #[J (AI ⟨vb,0,be⟩) 1 1,J (AI ⟨g,o,be⟩) lb cb]).run AS w=.ok (.value (.bool false)) w:=by
 rw[OM Tryz.func163 (by kernel_rfl) (by kernel_rfl) (by kernel_rfl) (e:=OF #[48,48] #[4]) (by kernel_rfl),
  QF w 48 4 116 Ob 6 sizeOf116 ⟨vb,0,be⟩ ⟨g,o,be⟩ 1 1 lb cb aP 116 116 vs.size cur.size (by simp[O7,hv]) (by simp[O7,hg]) hk (by simp[It,hv]) (by simp[It,hv])]
 rfl
theorem gl(g n c i vb:Nat)(cur:Array Value)(vs:List Value)(w:World)(hg:w.heap[g]?=AI (By cur 116 (0,0)))(cE:cur.size=c*6)(hi:i<n)(dN:n+1<=c)(Di:c<=9223372036854775807)(rK:vb≠g)(hv:w.heap[vb]?=AI (By vs.toArray 116 (0,0)))(lC:vs.length=6)(nt:∀v∈cur.toList.take (n*6),v.oneCell'=true)(oy:∀v∈vs,v.oneCell'=true) :
 aK 112 #[J (AI ⟨g,0,be⟩) n c,U O i,J (AI ⟨vb,0,be⟩) 1 1] w λe w'=>e=AT (J (AI ⟨g,0,be⟩) (n+1) c) /\
  ∃ev:Array Value,w'.heap[g]?=AI (By ev 116 (0,0))/\ev.size=c*6/\ev.toList.take ((n+1)*6)=cur.toList.take (i*6)++vs++(cur.toList.take (n*6)).drop (i*6)/\w.grownBy w' (AI g):=by
 have WI:=λo lb cb=>fx w g vb o lb cb cur vs.toArray hg hv rK (by omega);have pA:¬ ((i:Int)=(n:Int)):=by omega
 have aL:¬ (c=i+1):=by omega
 have eV:¬ (c=i):=by omega
 have bY:(i:Int)<=(n:Int)+1:=by omega
 obtain⟨W1,W2,qG,vo,HF⟩:=rL Ob Fm hg cE hi dN rK hv lC nt oy;have HF:Hid _:=HF;clear nt oy hg hv;have nR:IntKind.i64.wrap ((i:Int)+1)=(i:Int)+1:=by rw[I1];omega
 have aC:(0:Int)<=(i:Int)+1:=by omega
 have o5:i<=n:=by omega
 have Gp:((i:Int)+1).toNat=i+1:=by omega
 go_enter Tryz.func112,Tryz.ntmps112;go_wp2_with (simp only[WI]);go_region_law (refine dL rfl _ _ 48 48 rfl _ _ (by simp[Of,Oz]) (by simp[Of,Oz]) (qG _ _ _) ?_)
 go_wp2_with fail;go_ret;exact⟨rfl,HF.out⟩
theorem gm(g n c i vb:Nat)(cur:Array Value)(vs:List Value)(w:World)(hg:w.heap[g]?=AI (By cur 116 (0,0)))(cE:cur.size=c*6)(hi:i<n)(gK:n<=c)(dN:c<n+1)(Di:n<=1000)(hv:w.heap[vb]?=AI (By vs.toArray 116 (0,0)))(lC:vs.length=6)(nt:∀v∈cur.toList.take (n*6),v.oneCell'=true)(oy:∀v∈vs,v.oneCell'=true) :
 aK 112 #[J (AI ⟨g,0,be⟩) n c,U O i,J (AI ⟨vb,0,be⟩) 1 1] w λe w'=>∃G,e=AT (J (AI ⟨w.heap.size,0,be⟩) (n+1) G)/\n+1<=G/\G<=Io /\
  ∃ev:Array Value,w'.heap[w.heap.size]?=AI (By ev 116 (0,0))/\ev.size=G*6/\ev.toList.take ((n+1)*6)=cur.toList.take (i*6)++vs++(cur.toList.take (n*6)).drop (i*6)/\w.grownBy w' be:=by
 obtain⟨i0,fH,dt,gJ,gB⟩:=I9 Tryz.oZ;have Dj:c=n:=by omega
 subst Dj;have pA:¬ ((i:Int)=(c:Int)):=by omega
 have su:(c:Int)<(c:Int)+1:=by omega
 have tw:(c:Int)+1-(i:Int)=((c+1-i:Nat):Int):=by omega
 have Dl:i+(c+1-i)=c+1:=by omega
 have hold:(Qu i0.size i (J (AI ⟨g,0,be⟩) i c)).run AS w.drew=.ok (cur.toList.take (i*6)).toArray w.drew:=by
  rw[gJ];exact Uc w.drew 6 i ⟨g,0,be⟩ i c (cur.toList.take (i*6)) (by rw[IE,IW];omega) (λj v hj=>by
   have e:w.drew.cell? ((⟨g,0,be⟩:Addr).add j)=cur[j]?:=by rw[I5,ID];exact ae hg _
   rw[e];rw[Qz] at hj;split at hj
   .simpa using hj
   .cases hj)
 have zq:∀ty,∃G nQ,c+1<=G/\G<=Io/\nQ.size=G*6/\nQ.toList.take (i*6)=cur.toList.take (i*6)/\(Ui #[48,3] ty #[J (AI ⟨g,0,be⟩) i c,U O ((c:Int)+1-(i:Int))]).run AS w =
  .ok (J (AI ⟨w.heap.size,0,be⟩) (c+1) G) (w.drew.alloc (By nQ 116)):=λty=>by
  have h:=Qk w 48 3 ty 116 i0 _ O O Ob IH fH dt (AI ⟨g,0,be⟩) i c (cur.toList.take (i*6)) hold (c+1-i) (by omega) (by omega) (by omega) (by omega) (by rw[gB];omega) (by rw[gB,Dl];exact growslice_fits dN (by omega));rw[Dl] at h;rw[tw];have h1:=grownCap_ge w (c+1) c 116;refine⟨_,_,h1,Uq w (c+1) c 116 (by unfold Io;omega),?_,?_,h⟩
  .simp only[Array.size_append,J5,size_zeroCells,IE,IW,cE,Value.cells]
   simp;omega
  .simp only[Ud,Iq]
   exact OK (by simp only[IE,IW,cE];omega)
 obtain⟨G,nQ,Bp,zr,Cp,He,zq⟩:=zq 48;have WJ:G<=9223372036854775807:=by unfold Io at zr;omega
 obtain⟨W2,W3,qG,vo,HF⟩:=rM Ob Fm hg cE hi hv lC nt oy Bp Cp He;obtain⟨W1,db⟩:∃W1,W1=(w.alloc (By nQ 116)).drew:=⟨_,rfl⟩;have M6:w.drew.alloc (By nQ 116)=W1:=by rw[db];rfl
 rw[M6] at zq;rw[<- db] at qG;have HF:Hid _:=HF;have nR:IntKind.i64.wrap ((i:Int)+1)=(i:Int)+1:=by rw[I1];omega
 have aC:(0:Int)<=(i:Int)+1:=by omega
 have o5:i<=c:=by omega
 have Gp:((i:Int)+1).toNat=i+1:=by omega
 have hGi:¬ (G=i):=by omega
 have WK:¬ (G=i+1):=by omega
 have hci:¬ (c=i):=by omega
 clear db nt oy M6 Cp He tw Dl hold hg hv fH dt gJ gB;go_enter Tryz.func112,Tryz.ntmps112;go_wp2_with (at_builtin;refine QL _ rfl _ _ _ _ rfl _ _ rfl rfl _ _ zq ?_);go_region_law (refine dL rfl _ _ 48 48 rfl _ _ (by simp[Of,Oz]) (by simp[Of,Oz]) (vo _ _ _) ?_)
 go_wp2_with fail;go_ret;exact⟨G,rfl,Bp,zr,HF.out⟩
theorem ij(base n vb:Nat)(v:Value)(xs vs:List Value)(w:World)(hown:w.ownsRow base 116 6 v n xs)(hn:n<=1000)(hbase:base<=w.heap.size)(hv:w.heap[vb]?=AI (By vs.toArray 116 (0,0)))(lC:vs.length=6)(oy:∀v∈vs,v.oneCell'=true) :
 aK 112 #[v,U O n,J (AI ⟨vb,0,be⟩) 1 1] w λe w'=>∃v',e=AT v'/\w'.ownsRow base 116 6 v' (n+1) (xs++vs)/\w.grownBy w' v.ownBlock:=by
 obtain⟨i0,fH,dt,gJ,gB⟩:=I9 Tryz.oZ;have hnews:∀j u,vs[j]?=AI u->w.cell? ((⟨vb,0,be⟩:Addr).add j)=AI u:=λj v hj=>by rw[I5,ae hv];simpa using hj
 have HO:Hid (w.ownsRow base 116 6 v n xs):=hown;rcases hown.2 with⟨rfl,rfl⟩|⟨g,c,cur,rfl,_,_,gK,et,_,_⟩;rotate_left;unfold Io at et;by_cases Dj:c=n;subst Dj;all_goals
  clear hown hv;go_enter Tryz.func112,Tryz.ntmps112;go_wp2_with (at_builtin;refine IZ _ rfl _ _ 48 rfl base 116 i0 _ 6 56 Ob fH dt gJ gB rfl (by omega) _ _ xs rfl HO.out ⟨vb,0,be⟩ 1 1 vs rfl (by omega) hnews oy (by unfold Io;omega) (by omega) hbase ?_);intro v' w' r1 r2 r3;go_wp2_with fail;go_ret;exact⟨v',rfl,r1,r2⟩
theorem gh(base i vb:Nat)(v:Value)(ms:List bT)(m:bT)(w:World)(hown:Own base w v ms)(hi:i<=ms.length)(hn:ms.length<=1000)(hbase:base<=w.heap.size)(hv:w.heap[vb]?=AI (By m.cs.toArray 116 (0,0)))(aP:v.ownBlock≠AI vb) :
 aK 112 #[v,U O i,J (AI ⟨vb,0,be⟩) 1 1] w λe w'=>∃v',e=AT v'/\Own base w' v' (ms.take i++m::ms.drop i)/\w.grownBy w' v.ownBlock:=by
 have hlen:(ms.take i++m::ms.drop i).length=ms.length+1:=by simp;omega
 have Mm:fl (ms.take i++m::ms.drop i)=(fl ms).take (i*6)++m.cs++(fl ms).drop (i*6):=by rw[cU,bk,fP,fQ,Iq]
 by_cases o5:i=ms.length
 .subst o5
  refine(ij base ms.length vb v (fl ms) m.cs w hown hn hbase hv rfl (cX m)).mono ?_;rintro e w' ⟨v',rfl,h1,h2⟩;refine⟨v',rfl,?_,h2⟩;have e1:ms.take ms.length++m::ms.drop ms.length=ms++[m]:=by simp
  have e2:fl (ms++[m])=fl ms++m.cs:=by rw[cU,bk];simp[fl]
  rw[e1];show w'.ownsRow base 116 6 v' (ms++[m]).length (fl (ms++[m]));rw[e2,show(ms++[m]).length=ms.length+1 by simp];exact h1
 .rcases hown.2 with⟨_,h0⟩|⟨g,c,cur,rfl,eX,hg,gK,et,cE,bo⟩
  .omega
  .have rK:vb≠g:=λe=>aP (by simp[JF,e])
   have nt:∀v∈cur.toList.take (ms.length*6),v.oneCell'=true:=by rw[bo];exact iK ms
   have RQ:cur.toList.take (i*6)=(fl ms).take (i*6):=by rw[<- bo,QR];congr 1;omega
   have key:∀l:List Value,l=cur.toList.take (i*6)++m.cs++(cur.toList.take (ms.length*6)).drop (i*6)->l=fl (ms.take i++m::ms.drop i):=λl hl=>by rw[hl,Mm,bo,RQ]
   by_cases dN:ms.length+1<=c
   .refine(gl g ms.length c i vb cur m.cs w hg cE (by omega) dN (by unfold Io at et;omega) rK hv rfl nt (cX m)).mono ?_
    rintro e w' ⟨rfl,ev,h1,h2,h3,h4⟩;refine⟨_,rfl,?_,h4⟩;rw[<- hlen];exact jo eX h1 h2 (by omega) et (key _ (by rw[hlen];exact h3))
   .refine(gm g ms.length c i vb cur m.cs w hg cE (by omega) gK (by omega) hn hv rfl nt (cX m)).mono ?_
    rintro e w' ⟨G,rfl,Bp,zr,ev,h1,h2,h3,h4⟩;refine⟨_,rfl,?_,oT h4 _⟩;rw[<- hlen];exact jo hbase h1 h2 (by omega) zr (key _ (by rw[hlen];exact h3))
end Wh
namespace Gw
open Go.RowKit
theorem Tryz.oY:(Tryz.prog.info? 102).map (λi=>(i.zero,i.size,i.bytes))=AI (AI (.agg #[Y ⟨#[]⟩,U O 0,U O 0]),3,32):=by kernel_rfl
theorem Fo:(Tryz.prog.info? 102).map (·.size)=AI 3:=by
 obtain⟨i,hi,h1,h2,h3⟩:=I9 Tryz.oY;rw[hi];simp[h2]
theorem sizeOf102(w:World):(Go.sizeOf 102).run AS w=.ok 3 w:=by
 obtain⟨i,hi,h1,h2,h3⟩:=I9 Tryz.oY;simp[Go.sizeOf,typeInfo,hi,h2]
theorem fx(w:World)(g vb o lb cb:Nat)(cur vs:Array Value)(hg:w.heap[g]?=AI (By cur 102 (0,0)))(hv:w.heap[vb]?=AI (By vs 102 (0,0)))(aP:vb≠g)(hk:cur.size≠0) : (callFunc 240 #[J (AI ⟨vb,0,be⟩) 1 1,J (AI ⟨g,o,be⟩) lb cb]).run AS w=.ok (.value (.bool false)) w:=by
 rw[OM Tryz.func240 (by kernel_rfl) (by kernel_rfl) (by kernel_rfl) (e:=OF #[47,47] #[4]) (by kernel_rfl),
  QF w 47 4 102 Oa 3 sizeOf102 ⟨vb,0,be⟩ ⟨g,o,be⟩ 1 1 lb cb aP 102 102 vs.size cur.size (by simp[O7,hv]) (by simp[O7,hg]) hk (by simp[It,hv]) (by simp[It,hv])]
 rfl
theorem gl(g n c i vb:Nat)(cur:Array Value)(vs:List Value)(w:World)(hg:w.heap[g]?=AI (By cur 102 (0,0)))(cE:cur.size=c*3)(hi:i<n)(dN:n+1<=c)(Di:c<=9223372036854775807)(rK:vb≠g)(hv:w.heap[vb]?=AI (By vs.toArray 102 (0,0)))(lC:vs.length=3)(nt:∀v∈cur.toList.take (n*3),v.oneCell'=true)(oy:∀v∈vs,v.oneCell'=true) :
 aK 201 #[J (AI ⟨g,0,be⟩) n c,U O i,J (AI ⟨vb,0,be⟩) 1 1] w λe w'=>e=AT (J (AI ⟨g,0,be⟩) (n+1) c) /\
  ∃ev:Array Value,w'.heap[g]?=AI (By ev 102 (0,0))/\ev.size=c*3/\ev.toList.take ((n+1)*3)=cur.toList.take (i*3)++vs++(cur.toList.take (n*3)).drop (i*3)/\w.grownBy w' (AI g):=by
 have WI:=λo lb cb=>fx w g vb o lb cb cur vs.toArray hg hv rK (by omega);have pA:¬ ((i:Int)=(n:Int)):=by omega
 have aL:¬ (c=i+1):=by omega
 have eV:¬ (c=i):=by omega
 have bY:(i:Int)<=(n:Int)+1:=by omega
 obtain⟨W1,W2,qG,vo,HF⟩:=rL Oa Fo hg cE hi dN rK hv lC nt oy;have HF:Hid _:=HF;clear nt oy hg hv;have nR:IntKind.i64.wrap ((i:Int)+1)=(i:Int)+1:=by rw[I1];omega
 have aC:(0:Int)<=(i:Int)+1:=by omega
 have o5:i<=n:=by omega
 have Gp:((i:Int)+1).toNat=i+1:=by omega
 go_enter Tryz.func201,Tryz.ntmps201;go_wp2_with (simp only[WI]);go_region_law (refine dL rfl _ _ 47 47 rfl _ _ (by simp[Of,Oz]) (by simp[Of,Oz]) (qG _ _ _) ?_)
 go_wp2_with fail;go_ret;exact⟨rfl,HF.out⟩
theorem gm(g n c i vb:Nat)(cur:Array Value)(vs:List Value)(w:World)(hg:w.heap[g]?=AI (By cur 102 (0,0)))(cE:cur.size=c*3)(hi:i<n)(gK:n<=c)(dN:c<n+1)(Di:n<=1000)(hv:w.heap[vb]?=AI (By vs.toArray 102 (0,0)))(lC:vs.length=3)(nt:∀v∈cur.toList.take (n*3),v.oneCell'=true)(oy:∀v∈vs,v.oneCell'=true) :
 aK 201 #[J (AI ⟨g,0,be⟩) n c,U O i,J (AI ⟨vb,0,be⟩) 1 1] w λe w'=>∃G,e=AT (J (AI ⟨w.heap.size,0,be⟩) (n+1) G)/\n+1<=G/\G<=Io /\
  ∃ev:Array Value,w'.heap[w.heap.size]?=AI (By ev 102 (0,0))/\ev.size=G*3/\ev.toList.take ((n+1)*3)=cur.toList.take (i*3)++vs++(cur.toList.take (n*3)).drop (i*3)/\w.grownBy w' be:=by
 obtain⟨i0,fH,dt,gJ,gB⟩:=I9 Tryz.oY;have Dj:c=n:=by omega
 subst Dj;have pA:¬ ((i:Int)=(c:Int)):=by omega
 have su:(c:Int)<(c:Int)+1:=by omega
 have tw:(c:Int)+1-(i:Int)=((c+1-i:Nat):Int):=by omega
 have Dl:i+(c+1-i)=c+1:=by omega
 have hold:(Qu i0.size i (J (AI ⟨g,0,be⟩) i c)).run AS w.drew=.ok (cur.toList.take (i*3)).toArray w.drew:=by
  rw[gJ];exact Uc w.drew 3 i ⟨g,0,be⟩ i c (cur.toList.take (i*3)) (by rw[IE,IW];omega) (λj v hj=>by
   have e:w.drew.cell? ((⟨g,0,be⟩:Addr).add j)=cur[j]?:=by rw[I5,ID];exact ae hg _
   rw[e];rw[Qz] at hj;split at hj
   .simpa using hj
   .cases hj)
 have zq:∀ty,∃G nQ,c+1<=G/\G<=Io/\nQ.size=G*3/\nQ.toList.take (i*3)=cur.toList.take (i*3)/\(Ui #[47,3] ty #[J (AI ⟨g,0,be⟩) i c,U O ((c:Int)+1-(i:Int))]).run AS w =
  .ok (J (AI ⟨w.heap.size,0,be⟩) (c+1) G) (w.drew.alloc (By nQ 102)):=λty=>by
  have h:=Qk w 47 3 ty 102 i0 _ O O Oa IH fH dt (AI ⟨g,0,be⟩) i c (cur.toList.take (i*3)) hold (c+1-i) (by omega) (by omega) (by omega) (by omega) (by rw[gB];omega) (by rw[gB,Dl];exact growslice_fits dN (by omega));rw[Dl] at h;rw[tw];have h1:=grownCap_ge w (c+1) c 102;refine⟨_,_,h1,Uq w (c+1) c 102 (by unfold Io;omega),?_,?_,h⟩
  .simp only[Array.size_append,J5,size_zeroCells,IE,IW,cE,Value.cells]
   simp;omega
  .simp only[Ud,Iq]
   exact OK (by simp only[IE,IW,cE];omega)
 obtain⟨G,nQ,Bp,zr,Cp,He,zq⟩:=zq 47;have WJ:G<=9223372036854775807:=by unfold Io at zr;omega
 obtain⟨W2,W3,qG,vo,HF⟩:=rM Oa Fo hg cE hi hv lC nt oy Bp Cp He;obtain⟨W1,db⟩:∃W1,W1=(w.alloc (By nQ 102)).drew:=⟨_,rfl⟩;have M6:w.drew.alloc (By nQ 102)=W1:=by rw[db];rfl
 rw[M6] at zq;rw[<- db] at qG;have HF:Hid _:=HF;have nR:IntKind.i64.wrap ((i:Int)+1)=(i:Int)+1:=by rw[I1];omega
 have aC:(0:Int)<=(i:Int)+1:=by omega
 have o5:i<=c:=by omega
 have Gp:((i:Int)+1).toNat=i+1:=by omega
 have hGi:¬ (G=i):=by omega
 have WK:¬ (G=i+1):=by omega
 have hci:¬ (c=i):=by omega
 clear db nt oy M6 Cp He tw Dl hold hg hv fH dt gJ gB;go_enter Tryz.func201,Tryz.ntmps201;go_wp2_with (at_builtin;refine QL _ rfl _ _ _ _ rfl _ _ rfl rfl _ _ zq ?_);go_region_law (refine dL rfl _ _ 47 47 rfl _ _ (by simp[Of,Oz]) (by simp[Of,Oz]) (vo _ _ _) ?_)
 go_wp2_with fail;go_ret;exact⟨G,rfl,Bp,zr,HF.out⟩
theorem ij(base n vb:Nat)(v:Value)(xs vs:List Value)(w:World)(hown:w.ownsRow base 102 3 v n xs)(hn:n<=1000)(hbase:base<=w.heap.size)(hv:w.heap[vb]?=AI (By vs.toArray 102 (0,0)))(lC:vs.length=3)(oy:∀v∈vs,v.oneCell'=true) :
 aK 201 #[v,U O n,J (AI ⟨vb,0,be⟩) 1 1] w λe w'=>∃v',e=AT v'/\w'.ownsRow base 102 3 v' (n+1) (xs++vs)/\w.grownBy w' v.ownBlock:=by
 obtain⟨i0,fH,dt,gJ,gB⟩:=I9 Tryz.oY;have hnews:∀j u,vs[j]?=AI u->w.cell? ((⟨vb,0,be⟩:Addr).add j)=AI u:=λj v hj=>by rw[I5,ae hv];simpa using hj
 have HO:Hid (w.ownsRow base 102 3 v n xs):=hown;rcases hown.2 with⟨rfl,rfl⟩|⟨g,c,cur,rfl,_,_,gK,et,_,_⟩;rotate_left;unfold Io at et;by_cases Dj:c=n;subst Dj;all_goals
  clear hown hv;go_enter Tryz.func201,Tryz.ntmps201;go_wp2_with (at_builtin;refine IZ _ rfl _ _ 47 rfl base 102 i0 _ 3 32 Oa fH dt gJ gB rfl (by omega) _ _ xs rfl HO.out ⟨vb,0,be⟩ 1 1 vs rfl (by omega) hnews oy (by unfold Io;omega) (by omega) hbase ?_);intro v' w' r1 r2 r3;go_wp2_with fail;go_ret;exact⟨v',rfl,r1,r2⟩
theorem gh(base i vb:Nat)(v:Value)(ms:List bN)(m:bN)(w:World)(hown:Own base w v ms)(hi:i<=ms.length)(hn:ms.length<=1000)(hbase:base<=w.heap.size)(hv:w.heap[vb]?=AI (By m.cs.toArray 102 (0,0)))(aP:v.ownBlock≠AI vb) :
 aK 201 #[v,U O i,J (AI ⟨vb,0,be⟩) 1 1] w λe w'=>∃v',e=AT v'/\Own base w' v' (ms.take i++m::ms.drop i)/\w.grownBy w' v.ownBlock:=by
 have hlen:(ms.take i++m::ms.drop i).length=ms.length+1:=by simp;omega
 have Mm:fl (ms.take i++m::ms.drop i)=(fl ms).take (i*3)++m.cs++(fl ms).drop (i*3):=by rw[cU,bk,fP,fQ,Iq]
 by_cases o5:i=ms.length
 .subst o5
  refine(ij base ms.length vb v (fl ms) m.cs w hown hn hbase hv rfl (cX m)).mono ?_;rintro e w' ⟨v',rfl,h1,h2⟩;refine⟨v',rfl,?_,h2⟩;have e1:ms.take ms.length++m::ms.drop ms.length=ms++[m]:=by simp
  have e2:fl (ms++[m])=fl ms++m.cs:=by rw[cU,bk];simp[fl]
  rw[e1];show w'.ownsRow base 102 3 v' (ms++[m]).length (fl (ms++[m]));rw[e2,show(ms++[m]).length=ms.length+1 by simp];exact h1
 .rcases hown.2 with⟨_,h0⟩|⟨g,c,cur,rfl,eX,hg,gK,et,cE,bo⟩
  .omega
  .have rK:vb≠g:=λe=>aP (by simp[JF,e])
   have nt:∀v∈cur.toList.take (ms.length*3),v.oneCell'=true:=by rw[bo];exact iK ms
   have RQ:cur.toList.take (i*3)=(fl ms).take (i*3):=by rw[<- bo,QR];congr 1;omega
   have key:∀l:List Value,l=cur.toList.take (i*3)++m.cs++(cur.toList.take (ms.length*3)).drop (i*3)->l=fl (ms.take i++m::ms.drop i):=λl hl=>by rw[hl,Mm,bo,RQ]
   by_cases dN:ms.length+1<=c
   .refine(gl g ms.length c i vb cur m.cs w hg cE (by omega) dN (by unfold Io at et;omega) rK hv rfl nt (cX m)).mono ?_
    rintro e w' ⟨rfl,ev,h1,h2,h3,h4⟩;refine⟨_,rfl,?_,h4⟩;rw[<- hlen];exact jo eX h1 h2 (by omega) et (key _ (by rw[hlen];exact h3))
   .refine(gm g ms.length c i vb cur m.cs w hg cE (by omega) gK (by omega) hn hv rfl nt (cX m)).mono ?_
    rintro e w' ⟨G,rfl,Bp,zr,ev,h1,h2,h3,h4⟩;refine⟨_,rfl,?_,oT h4 _⟩;rw[<- hlen];exact jo hbase h1 h2 (by omega) zr (key _ (by rw[hlen];exact h3))
end Gw
namespace Lt
open Go.RowKit
structure fy where
 to:Int
 text:ByteArray
def dm:fy:=⟨0,ByteArray.empty⟩
def fy.ok(m:fy):Prop:=m.text.size<=Io
theorem uE:dm.ok:=by simp[fy.ok,dm]
abbrev As(w:World)(b o:Nat)(m:fy):Prop:=w.cell? ⟨b,o,be⟩=AI (U O m.to)/\w.cell? ⟨b,o+1,be⟩=AI (Y m.text)
theorem As.eq{w w':World}{b o:Nat}{m:fy}(h:As w b o m)(e:∀o,w'.cell? ⟨b,o,be⟩=w.cell? ⟨b,o,be⟩):As w' b o m:=by
 obtain⟨c0,c1⟩:=h;exact⟨(e _).trans c0,(e _).trans c1⟩
def Row(w:World)(b off:Nat)(ms:List fy):Prop:=∀j,j<ms.length->As w b (off+j*2) (ms.getD j dm)
def Sl(w:World)(v:Value)(ms:List fy):Prop:=
 ∃(a:Option Addr) (cap:Nat),v=J a ms.length cap/\(∀j,(ms.getD j dm).ok) /\
  (ms=[]\/∃b off,a=AI ⟨b,off,be⟩/\b<w.heap.size/\Row w b off ms)
def fy.cs(m:fy):List Value:=[U O m.to,Y m.text]
def fl(ms:List fy):List Value:=ms.flatMap fy.cs
theorem bR(m:fy):m.cs.length=2:=rfl
theorem bk(m:fy)(r:List fy):fl (m::r)=m.cs++fl r:=by simp[fl]
theorem cU(a b:List fy):fl (a++b)=fl a++fl b:=by simp[fl]
theorem da:∀ms:List fy,(fl ms).length=ms.length*2
 |[]=>rfl
 |m::r=>by rw[bk,Ii,da r,bR,List.length_cons];omega
theorem fP:∀(ms:List fy) (i:Nat),(fl ms).take (i*2)=fl (ms.take i)
 |[],i=>by simp[fl]
 |m::r,0=>by simp[fl]
 |m::r,i+1=>by
  rw[bk,List.take_succ_cons,bk,show(i+1)*2=m.cs.length+i*2 by rw[bR];omega,List.take_length_add_append,fP r i]
theorem fQ:∀(ms:List fy) (i:Nat),(fl ms).drop (i*2)=fl (ms.drop i)
 |[],i=>by simp[fl]
 |m::r,0=>by simp
 |m::r,i+1=>by
  rw[bk,List.drop_succ_cons,show(i+1)*2=m.cs.length+i*2 by rw[bR];omega,List.drop_length_add_append,fQ r i]
theorem cX(m:fy):∀v∈m.cs,v.oneCell'=true:=by
 intro v hv;simp[fy.cs] at hv;rcases hv with rfl|rfl<;>rfl
theorem iK(ms:List fy):∀v∈fl ms,v.oneCell'=true:=by
 intro v hv;obtain⟨m,_,h⟩:=List.mem_flatMap.1 hv;exact cX m v h
theorem eK(ms:List fy)(j:Nat)(hj:j<ms.length)(t:Nat)(ht:t<2):(fl ms)[j*2+t]?=(ms.getD j dm).cs[t]?:=by
 induction ms generalizing j with
 |nil=>simp at hj
 |cons m r ih=>
  rw[bk];cases j with
  |zero=>rw[List.getElem?_append_left (by rw[bR];omega)];simp
  |succ j=>
   rw[List.getElem?_append_right (by rw[bR];omega),bR,show(j+1)*2+t-2=j*2+t by omega,ih j (by simpa using hj)];simp
abbrev Own(base:Nat)(w:World)(v:Value)(ms:List fy):Prop:=w.ownsRow base 92 2 v ms.length (fl ms)
theorem Own.sl{base:Nat}{w:World}{v:Value}{ms:List fy}(h:Own base w v ms)(hs:∀j,(ms.getD j dm).ok):Sl w v ms:=by
 rcases h.2 with⟨rfl,h0⟩|⟨g,c,cur,rfl,eX,hg,gK,et,cE,bo⟩
 .exact⟨be,0,by rw[h0],hs,.inl (List.eq_nil_of_length_eq_zero h0)⟩
 .refine⟨_,c,rfl,hs,.inr ⟨g,0,rfl,(BY.1 hg).1,λj hj=>?_⟩⟩
  have hc:∀t,t<2->w.cell? ⟨g,0+j*2+t,be⟩=(ms.getD j dm).cs[t]?:=λt ht=>by
   rw[ae hg,<- eK ms j hj t ht,<- bo,List.getElem?_take_of_lt (by omega)];simp
  exact⟨hc 0 (by omega),hc 1 (by omega)⟩
theorem Own.below{base:Nat}{w w':World}{v:Value}{ms:List fy}(h:Own base w v ms)(hb:Below w.heap.size w w'):Own base w' v ms:=by
 rcases h.2 with⟨rfl,h0⟩|⟨g,c,cur,rfl,eX,hg,gK,et,cE,bo⟩
 .exact⟨h.1,.inl ⟨rfl,h0⟩⟩
 .have aX:=(BY.1 hg).1
  exact⟨h.1,.inr ⟨g,c,cur,rfl,eX,(hb.block g aX).trans hg,gK,et,cE,bo⟩⟩
theorem Sl.below{w w':World}{v:Value}{ms:List fy}(h:Sl w v ms)(hb:Below w.heap.size w w'):Sl w' v ms:=by
 obtain⟨a,cap,rfl,hs,h⟩:=h;refine⟨a,cap,rfl,hs,?_⟩;rcases h with h|⟨b,off,rfl,aX,hr⟩
 .exact .inl h
 .refine .inr ⟨b,off,rfl,Nat.lt_of_lt_of_le aX hb.size,λj hj=>?_⟩
  exact(hr j hj).eq (λo=>(cd hb).1 b o aX)
theorem Row.later{w w':World}{b off:Nat}{ms:List fy}(hr:Row w b off ms)(hb:Below w.heap.size w w')(aX:b<w.heap.size):Row w' b off ms:=λj hj=>(hr j hj).eq (λo=>(cd hb).1 b o aX)
theorem Own.mono{base jG:Nat}{w:World}{v:Value}{ms:List fy}(h:Own base w v ms)(hb:jG<=base):Own jG w v ms:=by
 rcases h.2 with⟨rfl,h0⟩|⟨g,c,cur,rfl,eX,hg,gK,et,cE,bo⟩
 .exact⟨h.1,.inl ⟨rfl,h0⟩⟩
 .exact⟨h.1,.inr ⟨g,c,cur,rfl,Nat.le_trans hb eX,hg,gK,et,cE,bo⟩⟩
theorem cv(base:Nat)(w:World):Own base w (J be 0 0) []:=World.ownsRow_nil w base 92 2
theorem cD{ms:List fy}(h:∀m∈ms,(m).ok):∀j,(ms.getD j dm).ok:=by
 intro j;by_cases hj:j<ms.length
 .have:=h ms[j] (List.getElem_mem hj)
  simpa[Ir,List.getElem?_eq_getElem hj] using this
 .rw[Ir,List.getElem?_eq_none (Nat.le_of_not_lt hj)];exact uE
theorem bM{base:Nat}{w:World}{v:Value}{ms:List fy}(h:Own base w v ms)(hs:∀m∈ms,(m).ok):Sl w v ms:=h.sl (cD hs)
end Lt
namespace Lt
open Go.RowKit
theorem Tryz.WL:(Tryz.prog.info? 92).map (λi=>(i.zero,i.size,i.bytes))=AI (AI (.agg #[U O 0,Y ⟨#[]⟩]),2,24):=by kernel_rfl
end Lt
end Go.Proofs.YtbfghimjdlpicaaGreatDoor
