import Derived.Test.YtfidhgjmifendaaGreatDoorns4
set_option maxHeartbeats 1600000
set_option maxRecDepth 100000
open Go renaming maxLen→Il,heap_alloc_new→Ih
open Go.Value renaming slice→J,string→Y,int→U,bool→Ia,agg→Ij,tuple→Ik
open Option renaming some→AI,none→be
open Go.Obj renaming cells→By
open Go.IntKind renaming i64→O
open Go.RowKit.Below renaming refl→Ib,heap_alloc→IE
namespace Go.Proofs.YtfidhgjmifendaaGreatDoor
open Go.RowKit
def bT(a b:Mem):Int:=if aP [a] [b]=0 then(if a.name=b.name then 0 else 1) else aP [a] [b]
theorem tp(a b:ByteArray):(a.toList !=b.toList)=true↔a≠b:=by
 rw[bne_iff_ne,Lib.toList_data,Lib.toList_data];exact⟨λh e=>h (by rw[e]),λh e=>h (qQ e)⟩
theorem jZ(a b:Mem)(w:World)(ha:a.name.size<=Il)(hb:b.name.size<=Il) :
 aI 207 #[J (AI ⟨w.heap.size+1+1+1+1+1+1,0,be⟩) 2 2]
  ((((((((w.alloc (By #[Y a.name,U O a.state,U O a.aJ,U O a.addr,Ia a.server] 50)).alloc (By #[Y b.name,U O b.state,U O b.aJ,U O b.addr,Ia b.server] 50)).alloc
    (By #[Y a.name,U O a.state,U O a.aJ,U O a.addr,Ia a.server] 50)).alloc (By #[Y a.name,U O a.state,U O a.aJ,U O a.addr,Ia a.server] 50)).alloc
    (By #[Y b.name,U O b.state,U O b.aJ,U O b.addr,Ia b.server] 50)).alloc (By #[Y b.name,U O b.state,U O b.aJ,U O b.addr,Ia b.server] 50)).alloc
    (By #[J (AI ⟨w.heap.size+1+1+1,0,be⟩) 1 1,J (AI ⟨w.heap.size+1+1+1+1+1,0,be⟩) 1 1] 34)).drew)
  λe w'=>e=.returned (U O (aP [a] [b]))/\Below (w.heap.size+1+1) ((w.alloc (By #[Y a.name,U O a.state,U O a.aJ,U O a.addr,Ia a.server] 50)).alloc (By #[Y b.name,U O b.state,U O b.aJ,U O b.addr,Ia b.server] 50)) w':=by
 obtain⟨A,hA⟩:∃A:Obj,A=By #[Y a.name,U O a.state,U O a.aJ,U O a.addr,Ia a.server] 50:=⟨_,rfl⟩;obtain⟨B,hB⟩:∃B:Obj,B=By #[Y b.name,U O b.state,U O b.aJ,U O b.addr,Ia b.server] 50:=⟨_,rfl⟩;obtain⟨Pq,hP⟩:∃P:Obj,P=By #[J (AI ⟨w.heap.size+1+1+1,0,be⟩) 1 1,J (AI ⟨w.heap.size+1+1+1+1+1,0,be⟩) 1 1] 34:=⟨_,rfl⟩;rw[<- hA,<- hB,<- hP];have rL:Below (w.heap.size+1+1) ((w.alloc A).alloc B) ((((((((w.alloc A).alloc B).alloc A).alloc A).alloc B).alloc B).alloc Pq).drew):=
  ((((((Ib _ _).alloc (by simp) A).alloc (by simp<;>omega) A).alloc (by simp<;>omega) B).alloc (by simp<;>omega) B).alloc (by simp<;>omega) Pq).drew
 have VY:((((((((w.alloc A).alloc B).alloc A).alloc A).alloc B).alloc B).alloc Pq).drew).heap[w.heap.size+1+1+1+1+1+1]?=AI Pq:=by
  have h:=Ih ((((((w.alloc A).alloc B).alloc A).alloc A).alloc B).alloc B) Pq;rw[show((((((w.alloc A).alloc B).alloc A).alloc A).alloc B).alloc B).heap.size=w.heap.size+1+1+1+1+1+1 by simp] at h;exact h
 have VZ:((((((((w.alloc A).alloc B).alloc A).alloc A).alloc B).alloc B).alloc Pq).drew).heap[w.heap.size+1+1+1]?=AI A:=by
  have h1:=Ih (((w.alloc A).alloc B).alloc A) A;rw[show(((w.alloc A).alloc B).alloc A).heap.size=w.heap.size+1+1+1 by simp] at h1;have h2:=IE ((((w.alloc A).alloc B).alloc A).alloc A) B (w.heap.size+1+1+1) (by simp);have h3:=IE (((((w.alloc A).alloc B).alloc A).alloc A).alloc B) B (w.heap.size+1+1+1) (by simp<;>omega);have h4:=IE ((((((w.alloc A).alloc B).alloc A).alloc A).alloc B).alloc B) Pq (w.heap.size+1+1+1) (by simp<;>omega);exact h4.trans (h3.trans (h2.trans h1))
 have Bq:((((((((w.alloc A).alloc B).alloc A).alloc A).alloc B).alloc B).alloc Pq).drew).heap[w.heap.size+1+1+1+1+1]?=AI B:=by
  have h1:=Ih (((((w.alloc A).alloc B).alloc A).alloc A).alloc B) B;rw[show(((((w.alloc A).alloc B).alloc A).alloc A).alloc B).heap.size=w.heap.size+1+1+1+1+1 by simp] at h1;have h4:=IE ((((((w.alloc A).alloc B).alloc A).alloc A).alloc B).alloc B) Pq (w.heap.size+1+1+1+1+1) (by simp);exact h4.trans h1
 have cI:((((((((w.alloc A).alloc B).alloc A).alloc A).alloc B).alloc B).alloc Pq).drew).heap.size=w.heap.size+1+1+1+1+1+1+1:=by simp
 generalize((((((((w.alloc A).alloc B).alloc A).alloc A).alloc B).alloc B).alloc Pq).drew)=W at *;have V0:=VY.trans (congrArg AI hP);refine(dO [a] [b] _ _ _ 2 W (oJ W _ 1 a ha (VZ.trans (congrArg AI hA))) (oJ W _ 1 b hb (Bq.trans (congrArg AI hB))) (by omega) (ae V0 0) (ae V0 1)).mono ?_;rintro e w' ⟨rfl,h⟩;exact⟨rfl,rL.trans (h.mono (by omega))⟩
theorem Br(a b:Mem)(w:World)(ha:a.name.size<=Il)(hb:b.name.size<=Il)(Eg:aP [a] [b]≠0) :
 aI 162 #[Ij #[Y a.name,U O a.state,U O a.aJ,U O a.addr,Ia a.server],Ij #[Y b.name,U O b.state,U O b.aJ,U O b.addr,Ia b.server]] w
  λe w'=>e=.returned (Ik #[Ia (bT a b==0&&eb a b),U O (bT a b)])/\Below w.heap.size w w':=by
 have aQ:(aP [a] [b]!=0)=true:=by simpa using Eg
 have HE:Hid (bT a b=aP [a] [b]):=if_neg Eg;have HN:Hid (aP [a] [b]≠0):=Eg;clear Eg;go_enter Tryz.func162,Tryz.ntmps162;go_wp2_with fail;go_region_with (first|(go_at_call 166;refine(nK _ _ _ _ _ _).mono ?_;rintro e w' ⟨rfl,rfl⟩)|(go_at_call 207;refine(jZ a b w ha hb).mono ?_;rintro e w1 ⟨rfl,aB⟩))
 all_goals
  go_wp2_with fail;go_ret2;refine⟨?_,?_⟩
  .rw[HE.out,show(aP [a] [b]==0)=false by simpa using HN.out];rfl
  .exact(((Ib _ _).alloc (Nat.le_refl _) _).alloc (by simp) _).trans (aB.mono (by omega))
theorem zt(a b:Mem)(w:World)(ha:a.name.size<=Il)(hb:b.name.size<=Il)(h0:aP [a] [b]=0)(cZ:a.name≠b.name) :
 aI 162 #[Ij #[Y a.name,U O a.state,U O a.aJ,U O a.addr,Ia a.server],Ij #[Y b.name,U O b.state,U O b.aJ,U O b.addr,Ia b.server]] w
  λe w'=>e=.returned (Ik #[Ia (bT a b==0&&eb a b),U O (bT a b)])/\Below w.heap.size w w':=by
 have hz:(aP [a] [b]!=0)=false:=by simpa using h0
 have hn:(a.name.toList==b.name.toList)=false:=by have h:=(tp a.name b.name).2 cZ;simpa using h
 have hn3:¬ a.name.toList=b.name.toList:=by simpa using hn
 have HE:Hid (bT a b=1):=(show bT a b=1 by rw[bT,if_pos h0,if_neg cZ]);clear cZ h0;go_enter Tryz.func162,Tryz.ntmps162;go_wp2_with fail;go_region_with (first|(go_at_call 166;refine(nK _ _ _ _ _ _).mono ?_;rintro e w' ⟨rfl,rfl⟩)|(go_at_call 207;refine(jZ a b w ha hb).mono ?_;rintro e w1 ⟨rfl,aB⟩))
 all_goals
  have cI:=aB.size;have eM:∀k o,k<w.heap.size+1+1->w1.cell? ⟨k,o,be⟩=((w.alloc (By #[Y a.name,U O a.state,U O a.aJ,U O a.addr,Ia a.server] 50)).alloc (By #[Y b.name,U O b.state,U O b.aJ,U O b.addr,Ia b.server] 50)).cell? ⟨k,o,be⟩:=λk o h=>aB.cell (p:=⟨k,o,be⟩) h;have GC:w.heap.size<w.heap.size+1+1:=by omega
  have adA:w.heap.size+1<w.heap.size+1+1:=by omega
  go_wp2_with fail;go_ret2;refine⟨?_,?_⟩
  .rw[HE.out];rfl
  .exact(((Ib _ _).alloc (Nat.le_refl _) _).alloc (by simp) _).trans (aB.mono (by omega))
theorem zu(na:ByteArray)(sa la aa:Int)(va:Bool)(sb lb ab:Int)(vb:Bool)(w:World)(ha:na.size<=Il)(h0:aP [⟨na,sa,la,aa,va⟩] [⟨na,sb,lb,ab,vb⟩]=0) :
 aI 162 #[Ij #[Y na,U O sa,U O la,U O aa,Ia va],Ij #[Y na,U O sb,U O lb,U O ab,Ia vb]] w
  λe w'=>e=.returned (Ik #[Ia (oK sa la aa va sb lb ab vb),U O 0])/\Below w.heap.size w w':=by
 have hz:(aP [⟨na,sa,la,aa,va⟩] [⟨na,sb,lb,ab,vb⟩]!=0)=false:=by simpa using h0
 clear h0;go_enter Tryz.func162,Tryz.ntmps162;go_wp2_with fail;go_region_with (first|(go_at_call 166;refine(nK _ _ _ _ _ _).mono ?_;rintro e w' ⟨rfl,rfl⟩)|(go_at_call 207;refine(jZ ⟨na,sa,la,aa,va⟩ ⟨na,sb,lb,ab,vb⟩ w ha ha).mono ?_;rintro e w1 ⟨rfl,aB⟩))
 all_goals
  have cI:=aB.size;have eM:∀k o,k<w.heap.size+1+1->w1.cell? ⟨k,o,be⟩=((w.alloc (By #[Y na,U O sa,U O la,U O aa,Ia va] 50)).alloc (By #[Y na,U O sb,U O lb,U O ab,Ia vb] 50)).cell? ⟨k,o,be⟩:=λk o h=>aB.cell (p:=⟨k,o,be⟩) h;have GC:w.heap.size<w.heap.size+1+1:=by omega
  have adA:w.heap.size+1<w.heap.size+1+1:=by omega
  go_wp2_with (go_at_call 208;refine(vV _ _ _ _ _ _ _ _ _ _ _).mono ?_;rintro e w' ⟨rfl,rfl⟩);go_ret2;refine⟨rfl,?_⟩;have h0:=(((Ib w.heap.size w).alloc (Nat.le_refl _) (By #[Y na,U O sa,U O la,U O aa,Ia va] 50)).alloc (by simp) (By #[Y na,U O sb,U O lb,U O ab,Ia vb] 50)).trans (aB.mono (by omega));exact(h0.alloc h0.size _).alloc (by have:=h0.size;simp;omega) _
theorem oL(a b:Mem)(w:World)(ha:a.name.size<=Il)(hb:b.name.size<=Il) :
 aI 162 #[Ij #[Y a.name,U O a.state,U O a.aJ,U O a.addr,Ia a.server],Ij #[Y b.name,U O b.state,U O b.aJ,U O b.addr,Ia b.server]] w
  λe w'=>e=.returned (Ik #[Ia (bT a b==0&&eb a b),U O (bT a b)])/\Below w.heap.size w w':=by
 by_cases h0:aP [a] [b]=0
 .by_cases cZ:a.name=b.name
  .have hE:bT a b=0:=by rw[bT,if_pos h0,if_pos cZ]
   rw[hE];obtain⟨na,sa,la,aa,va⟩:=a;obtain⟨nb,sb,lb,ab,vb⟩:=b;simp only at cZ;subst cZ;exact zu na sa la aa va sb lb ab vb w ha h0
  .exact zt a b w ha hb h0 cZ
 .exact Br a b w ha hb h0
end Go.Proofs.YtfidhgjmifendaaGreatDoor
