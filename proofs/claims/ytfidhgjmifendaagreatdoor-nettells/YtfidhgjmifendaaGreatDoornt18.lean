import Derived.Test.YtfidhgjmifendaaGreatDoornt4
set_option maxHeartbeats 1600000
set_option maxRecDepth 100000
open Go renaming maxLen→Il,heap_alloc_new→Ih
open Go.Value renaming slice→J,string→Y,int→U,bool→Ia,agg→Ij,tuple→Ik
open Option renaming some→AI,none→be
open Go.Obj renaming cells→AT
open Go.IntKind renaming i64→O
open Go.RowKit.Below renaming refl→Ib,heap_alloc→IE
namespace Go.Proofs.YtfidhgjmifendaaGreatDoor
open Go.RowKit
def bP(a b:Mem):Int:=if aO [a] [b]=0 then(if a.name=b.name then 0 else 1) else aO [a] [b]
theorem pc(a b:ByteArray):(a.toList !=b.toList)=true↔a≠b:=by
 rw[bne_iff_ne,Lib.toList_data,Lib.toList_data];exact⟨λh e=>h (by rw[e]),λh e=>h (ky e)⟩
theorem jP(a b:Mem)(w:World)(ha:a.name.size<=Il)(hb:b.name.size<=Il) :
 aF 207 #[J (AI ⟨w.heap.size+1+1+1+1+1+1,0,be⟩) 2 2]
  ((((((((w.alloc (AT #[Y a.name,U O a.state,U O a.aI,U O a.addr,Ia a.server] 50)).alloc (AT #[Y b.name,U O b.state,U O b.aI,U O b.addr,Ia b.server] 50)).alloc
    (AT #[Y a.name,U O a.state,U O a.aI,U O a.addr,Ia a.server] 50)).alloc (AT #[Y a.name,U O a.state,U O a.aI,U O a.addr,Ia a.server] 50)).alloc
    (AT #[Y b.name,U O b.state,U O b.aI,U O b.addr,Ia b.server] 50)).alloc (AT #[Y b.name,U O b.state,U O b.aI,U O b.addr,Ia b.server] 50)).alloc
    (AT #[J (AI ⟨w.heap.size+1+1+1,0,be⟩) 1 1,J (AI ⟨w.heap.size+1+1+1+1+1,0,be⟩) 1 1] 34)).drew)
  λe w'=>e=.returned (U O (aO [a] [b]))/\Below (w.heap.size+1+1) ((w.alloc (AT #[Y a.name,U O a.state,U O a.aI,U O a.addr,Ia a.server] 50)).alloc (AT #[Y b.name,U O b.state,U O b.aI,U O b.addr,Ia b.server] 50)) w':=by
 obtain⟨A,hA⟩:∃A:Obj,A=AT #[Y a.name,U O a.state,U O a.aI,U O a.addr,Ia a.server] 50:=⟨_,rfl⟩;obtain⟨B,hB⟩:∃B:Obj,B=AT #[Y b.name,U O b.state,U O b.aI,U O b.addr,Ia b.server] 50:=⟨_,rfl⟩;obtain⟨Pq,hP⟩:∃P:Obj,P=AT #[J (AI ⟨w.heap.size+1+1+1,0,be⟩) 1 1,J (AI ⟨w.heap.size+1+1+1+1+1,0,be⟩) 1 1] 34:=⟨_,rfl⟩;rw[<- hA,<- hB,<- hP];have rj:Below (w.heap.size+1+1) ((w.alloc A).alloc B) ((((((((w.alloc A).alloc B).alloc A).alloc A).alloc B).alloc B).alloc Pq).drew):=
  ((((((Ib _ _).alloc (by simp) A).alloc (by simp<;>omega) A).alloc (by simp<;>omega) B).alloc (by simp<;>omega) B).alloc (by simp<;>omega) Pq).drew
 have hgp:((((((((w.alloc A).alloc B).alloc A).alloc A).alloc B).alloc B).alloc Pq).drew).heap[w.heap.size+1+1+1+1+1+1]?=AI Pq:=by
  have h:=Ih ((((((w.alloc A).alloc B).alloc A).alloc A).alloc B).alloc B) Pq;rw[show((((((w.alloc A).alloc B).alloc A).alloc A).alloc B).alloc B).heap.size=w.heap.size+1+1+1+1+1+1 by simp] at h;exact h
 have Vx:((((((((w.alloc A).alloc B).alloc A).alloc A).alloc B).alloc B).alloc Pq).drew).heap[w.heap.size+1+1+1]?=AI A:=by
  have h1:=Ih (((w.alloc A).alloc B).alloc A) A;rw[show(((w.alloc A).alloc B).alloc A).heap.size=w.heap.size+1+1+1 by simp] at h1;have h2:=IE ((((w.alloc A).alloc B).alloc A).alloc A) B (w.heap.size+1+1+1) (by simp);have h3:=IE (((((w.alloc A).alloc B).alloc A).alloc A).alloc B) B (w.heap.size+1+1+1) (by simp<;>omega);have h4:=IE ((((((w.alloc A).alloc B).alloc A).alloc A).alloc B).alloc B) Pq (w.heap.size+1+1+1) (by simp<;>omega);exact h4.trans (h3.trans (h2.trans h1))
 have AW:((((((((w.alloc A).alloc B).alloc A).alloc A).alloc B).alloc B).alloc Pq).drew).heap[w.heap.size+1+1+1+1+1]?=AI B:=by
  have h1:=Ih (((((w.alloc A).alloc B).alloc A).alloc A).alloc B) B;rw[show(((((w.alloc A).alloc B).alloc A).alloc A).alloc B).heap.size=w.heap.size+1+1+1+1+1 by simp] at h1;have h4:=IE ((((((w.alloc A).alloc B).alloc A).alloc A).alloc B).alloc B) Pq (w.heap.size+1+1+1+1+1) (by simp);exact h4.trans h1
 have cF:((((((((w.alloc A).alloc B).alloc A).alloc A).alloc B).alloc B).alloc Pq).drew).heap.size=w.heap.size+1+1+1+1+1+1+1:=by simp
 generalize((((((((w.alloc A).alloc B).alloc A).alloc A).alloc B).alloc B).alloc Pq).drew)=W at *;have Vy:=hgp.trans (congrArg AI hP);refine(dL [a] [b] _ _ _ 2 W (oj W _ 1 a ha (Vx.trans (congrArg AI hA))) (oj W _ 1 b hb (AW.trans (congrArg AI hB))) (by omega) (ae Vy 0) (ae Vy 1)).mono ?_;rintro e w' ⟨rfl,h⟩;exact⟨rfl,rj.trans (h.mono (by omega))⟩
theorem A4(a b:Mem)(w:World)(ha:a.name.size<=Il)(hb:b.name.size<=Il)(DT:aO [a] [b]≠0) :
 aF 162 #[Ij #[Y a.name,U O a.state,U O a.aI,U O a.addr,Ia a.server],Ij #[Y b.name,U O b.state,U O b.aI,U O b.addr,Ia b.server]] w
  λe w'=>e=.returned (Ik #[Ia (bP a b==0&&eB a b),U O (bP a b)])/\Below w.heap.size w w':=by
 have aM:(aO [a] [b]!=0)=true:=by simpa using DT
 have HE:Hid (bP a b=aO [a] [b]):=if_neg DT;have HN:Hid (aO [a] [b]≠0):=DT;clear DT;go_enter Tryz.func162,Tryz.ntmps162;go_wp2_with fail;go_region_with (first|(go_at_call 166;refine(nu _ _ _ _ _ _).mono ?_;rintro e w' ⟨rfl,rfl⟩)|(go_at_call 207;refine(jP a b w ha hb).mono ?_;rintro e w1 ⟨rfl,aB⟩))
 all_goals
  go_wp2_with fail;go_ret2;refine⟨?_,?_⟩
  .rw[HE.out,show(aO [a] [b]==0)=false by simpa using HN.out];rfl
  .exact(((Ib _ _).alloc (Nat.le_refl _) _).alloc (by simp) _).trans (aB.mono (by omega))
theorem yW(a b:Mem)(w:World)(ha:a.name.size<=Il)(hb:b.name.size<=Il)(h0:aO [a] [b]=0)(cV:a.name≠b.name) :
 aF 162 #[Ij #[Y a.name,U O a.state,U O a.aI,U O a.addr,Ia a.server],Ij #[Y b.name,U O b.state,U O b.aI,U O b.addr,Ia b.server]] w
  λe w'=>e=.returned (Ik #[Ia (bP a b==0&&eB a b),U O (bP a b)])/\Below w.heap.size w w':=by
 have hz:(aO [a] [b]!=0)=false:=by simpa using h0
 have hn:(a.name.toList==b.name.toList)=false:=by have h:=(pc a.name b.name).2 cV;simpa using h
 have hn3:¬ a.name.toList=b.name.toList:=by simpa using hn
 have HE:Hid (bP a b=1):=(show bP a b=1 by rw[bP,if_pos h0,if_neg cV]);clear cV h0;go_enter Tryz.func162,Tryz.ntmps162;go_wp2_with fail;go_region_with (first|(go_at_call 166;refine(nu _ _ _ _ _ _).mono ?_;rintro e w' ⟨rfl,rfl⟩)|(go_at_call 207;refine(jP a b w ha hb).mono ?_;rintro e w1 ⟨rfl,aB⟩))
 all_goals
  have cF:=aB.size;have eG:∀k o,k<w.heap.size+1+1->w1.cell? ⟨k,o,be⟩=((w.alloc (AT #[Y a.name,U O a.state,U O a.aI,U O a.addr,Ia a.server] 50)).alloc (AT #[Y b.name,U O b.state,U O b.aI,U O b.addr,Ia b.server] 50)).cell? ⟨k,o,be⟩:=λk o h=>aB.cell (p:=⟨k,o,be⟩) h;have Gb:w.heap.size<w.heap.size+1+1:=by omega
  have acD:w.heap.size+1<w.heap.size+1+1:=by omega
  go_wp2_with fail;go_ret2;refine⟨?_,?_⟩
  .rw[HE.out];rfl
  .exact(((Ib _ _).alloc (Nat.le_refl _) _).alloc (by simp) _).trans (aB.mono (by omega))
theorem yX(na:ByteArray)(sa la aa:Int)(va:Bool)(sb lb ab:Int)(vb:Bool)(w:World)(ha:na.size<=Il)(h0:aO [⟨na,sa,la,aa,va⟩] [⟨na,sb,lb,ab,vb⟩]=0) :
 aF 162 #[Ij #[Y na,U O sa,U O la,U O aa,Ia va],Ij #[Y na,U O sb,U O lb,U O ab,Ia vb]] w
  λe w'=>e=.returned (Ik #[Ia (uN sa la aa va sb lb ab vb),U O 0])/\Below w.heap.size w w':=by
 have hz:(aO [⟨na,sa,la,aa,va⟩] [⟨na,sb,lb,ab,vb⟩]!=0)=false:=by simpa using h0
 clear h0;go_enter Tryz.func162,Tryz.ntmps162;go_wp2_with fail;go_region_with (first|(go_at_call 166;refine(nu _ _ _ _ _ _).mono ?_;rintro e w' ⟨rfl,rfl⟩)|(go_at_call 207;refine(jP ⟨na,sa,la,aa,va⟩ ⟨na,sb,lb,ab,vb⟩ w ha ha).mono ?_;rintro e w1 ⟨rfl,aB⟩))
 all_goals
  have cF:=aB.size;have eG:∀k o,k<w.heap.size+1+1->w1.cell? ⟨k,o,be⟩=((w.alloc (AT #[Y na,U O sa,U O la,U O aa,Ia va] 50)).alloc (AT #[Y na,U O sb,U O lb,U O ab,Ia vb] 50)).cell? ⟨k,o,be⟩:=λk o h=>aB.cell (p:=⟨k,o,be⟩) h;have Gb:w.heap.size<w.heap.size+1+1:=by omega
  have acD:w.heap.size+1<w.heap.size+1+1:=by omega
  go_wp2_with (go_at_call 208;refine(vE _ _ _ _ _ _ _ _ _ _ _).mono ?_;rintro e w' ⟨rfl,rfl⟩);go_ret2;refine⟨rfl,?_⟩;have h0:=(((Ib w.heap.size w).alloc (Nat.le_refl _) (AT #[Y na,U O sa,U O la,U O aa,Ia va] 50)).alloc (by simp) (AT #[Y na,U O sb,U O lb,U O ab,Ia vb] 50)).trans (aB.mono (by omega));exact(h0.alloc h0.size _).alloc (by have:=h0.size;simp;omega) _
theorem om(a b:Mem)(w:World)(ha:a.name.size<=Il)(hb:b.name.size<=Il) :
 aF 162 #[Ij #[Y a.name,U O a.state,U O a.aI,U O a.addr,Ia a.server],Ij #[Y b.name,U O b.state,U O b.aI,U O b.addr,Ia b.server]] w
  λe w'=>e=.returned (Ik #[Ia (bP a b==0&&eB a b),U O (bP a b)])/\Below w.heap.size w w':=by
 by_cases h0:aO [a] [b]=0
 .by_cases cV:a.name=b.name
  .have hE:bP a b=0:=by rw[bP,if_pos h0,if_pos cV]
   rw[hE];obtain⟨na,sa,la,aa,va⟩:=a;obtain⟨nb,sb,lb,ab,vb⟩:=b;simp only at cV;subst cV;exact yX na sa la aa va sb lb ab vb w ha h0
  .exact yW a b w ha hb h0 cV
 .exact A4 a b w ha hb h0
end Go.Proofs.YtfidhgjmifendaaGreatDoor
