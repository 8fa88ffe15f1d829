import Derived.Test.YtfidjlcdlakceaaGreatDoortf10
set_option maxHeartbeats 1600000
set_option maxRecDepth 100000
open Go renaming maxLen→Ij,heap_alloc_new→Ie
open Go.Value renaming slice→U,string→I,int→O,bool→AI,agg→Im,tuple→Il
open Option renaming some→Z,none→Y
open Go.Obj renaming cells→AT
open Go.IntKind renaming i64→J
open Go.RowKit.Below renaming refl→Ib,heap_alloc→It
namespace Go.Proofs.YtfidjlcdlakceaaGreatDoor
open Go.RowKit
def cP(a b:Mem):Int:=if aJ [a] [b]=0 then(if a.name=b.name then 0 else 1) else aJ [a] [b]
theorem uy(a b:ByteArray):(a.toList !=b.toList)=true↔a≠b:=by
 rw[bne_iff_ne,Lib.toList_data,Lib.toList_data];exact⟨λh e=>h (by rw[e]),λh e=>h (jX e)⟩
theorem jz(a b:Mem)(w:World)(ha:a.name.size<=Ij)(hb:b.name.size<=Ij) :
 aP 238 #[U (Z ⟨w.heap.size+1+1+1+1+1+1,0,Y⟩) 2 2]
  ((((((((w.alloc (AT #[I a.name,O J a.state,O J a.aX,O J a.addr,AI a.server] 70)).alloc (AT #[I b.name,O J b.state,O J b.aX,O J b.addr,AI b.server] 70)).alloc
    (AT #[I a.name,O J a.state,O J a.aX,O J a.addr,AI a.server] 70)).alloc (AT #[I a.name,O J a.state,O J a.aX,O J a.addr,AI a.server] 70)).alloc
    (AT #[I b.name,O J b.state,O J b.aX,O J b.addr,AI b.server] 70)).alloc (AT #[I b.name,O J b.state,O J b.aX,O J b.addr,AI b.server] 70)).alloc
    (AT #[U (Z ⟨w.heap.size+1+1+1,0,Y⟩) 1 1,U (Z ⟨w.heap.size+1+1+1+1+1,0,Y⟩) 1 1] 22)).drew)
  λe w'=>e=.returned (O J (aJ [a] [b]))/\Below (w.heap.size+1+1) ((w.alloc (AT #[I a.name,O J a.state,O J a.aX,O J a.addr,AI a.server] 70)).alloc (AT #[I b.name,O J b.state,O J b.aX,O J b.addr,AI b.server] 70)) w':=by
 obtain⟨A,hA⟩:∃A:Obj,A=AT #[I a.name,O J a.state,O J a.aX,O J a.addr,AI a.server] 70:=⟨_,rfl⟩;obtain⟨B,hB⟩:∃B:Obj,B=AT #[I b.name,O J b.state,O J b.aX,O J b.addr,AI b.server] 70:=⟨_,rfl⟩;obtain⟨Pq,hP⟩:∃P:Obj,P=AT #[U (Z ⟨w.heap.size+1+1+1,0,Y⟩) 1 1,U (Z ⟨w.heap.size+1+1+1+1+1,0,Y⟩) 1 1] 22:=⟨_,rfl⟩;rw[<- hA,<- hB,<- hP];have ez:Below (w.heap.size+1+1) ((w.alloc A).alloc B) ((((((((w.alloc A).alloc B).alloc A).alloc A).alloc B).alloc B).alloc Pq).drew):=
  ((((((Ib _ _).alloc (by simp) A).alloc (by simp<;>omega) A).alloc (by simp<;>omega) B).alloc (by simp<;>omega) B).alloc (by simp<;>omega) Pq).drew
 have hgp:((((((((w.alloc A).alloc B).alloc A).alloc A).alloc B).alloc B).alloc Pq).drew).heap[w.heap.size+1+1+1+1+1+1]?=Z Pq:=by
  have h:=Ie ((((((w.alloc A).alloc B).alloc A).alloc A).alloc B).alloc B) Pq;rw[show((((((w.alloc A).alloc B).alloc A).alloc A).alloc B).alloc B).heap.size=w.heap.size+1+1+1+1+1+1 by simp] at h;exact h
 have pX:((((((((w.alloc A).alloc B).alloc A).alloc A).alloc B).alloc B).alloc Pq).drew).heap[w.heap.size+1+1+1]?=Z A:=by
  have h1:=Ie (((w.alloc A).alloc B).alloc A) A;rw[show(((w.alloc A).alloc B).alloc A).heap.size=w.heap.size+1+1+1 by simp] at h1;have h2:=It ((((w.alloc A).alloc B).alloc A).alloc A) B (w.heap.size+1+1+1) (by simp);have h3:=It (((((w.alloc A).alloc B).alloc A).alloc A).alloc B) B (w.heap.size+1+1+1) (by simp<;>omega);have h4:=It ((((((w.alloc A).alloc B).alloc A).alloc A).alloc B).alloc B) Pq (w.heap.size+1+1+1) (by simp<;>omega);exact h4.trans (h3.trans (h2.trans h1))
 have zI:((((((((w.alloc A).alloc B).alloc A).alloc A).alloc B).alloc B).alloc Pq).drew).heap[w.heap.size+1+1+1+1+1]?=Z B:=by
  have h1:=Ie (((((w.alloc A).alloc B).alloc A).alloc A).alloc B) B;rw[show(((((w.alloc A).alloc B).alloc A).alloc A).alloc B).heap.size=w.heap.size+1+1+1+1+1 by simp] at h1;have h4:=It ((((((w.alloc A).alloc B).alloc A).alloc A).alloc B).alloc B) Pq (w.heap.size+1+1+1+1+1) (by simp);exact h4.trans h1
 have bA:((((((((w.alloc A).alloc B).alloc A).alloc A).alloc B).alloc B).alloc Pq).drew).heap.size=w.heap.size+1+1+1+1+1+1+1:=by simp
 generalize((((((((w.alloc A).alloc B).alloc A).alloc A).alloc B).alloc B).alloc Pq).drew)=W at *;have adt:=hgp.trans (congrArg Z hP);refine(cQ [a] [b] _ _ _ 2 W (qe W _ 1 a ha (pX.trans (congrArg Z hA))) (qe W _ 1 b hb (zI.trans (congrArg Z hB))) (by omega) (af adt 0) (af adt 1)).mono ?_;rintro e w' ⟨rfl,h⟩;exact⟨rfl,ez.trans (h.mono (by omega))⟩
theorem DH(a b:Mem)(w:World)(ha:a.name.size<=Ij)(hb:b.name.size<=Ij)(Kc:aJ [a] [b]≠0) :
 aP 188 #[Im #[I a.name,O J a.state,O J a.aX,O J a.addr,AI a.server],Im #[I b.name,O J b.state,O J b.aX,O J b.addr,AI b.server]] w
  λe w'=>e=.returned (Il #[AI (cP a b==0&&jG a b),O J (cP a b)])/\Below w.heap.size w w':=by
 have bu:(aJ [a] [b]!=0)=true:=by simpa using Kc
 have HE:Hid (cP a b=aJ [a] [b]):=if_neg Kc;have HN:Hid (aJ [a] [b]≠0):=Kc;clear Kc;go_enter Tryz.func188,Tryz.ntmps188;go_wp2_with fail;go_region_with (first|(go_at_call 201;refine(mY _ _ _ _ _ _).mono ?_;rintro e w' ⟨rfl,rfl⟩)|(go_at_call 238;refine(jz a b w ha hb).mono ?_;rintro e w1 ⟨rfl,al⟩))
 all_goals
  go_wp2_with fail;go_ret2;refine⟨?_,?_⟩
  .rw[HE.out,show(aJ [a] [b]==0)=false by simpa using HN.out];rfl
  .exact(((Ib _ _).alloc (Nat.le_refl _) _).alloc (by simp) _).trans (al.mono (by omega))
theorem Be(a b:Mem)(w:World)(ha:a.name.size<=Ij)(hb:b.name.size<=Ij)(h0:aJ [a] [b]=0)(ft:a.name≠b.name) :
 aP 188 #[Im #[I a.name,O J a.state,O J a.aX,O J a.addr,AI a.server],Im #[I b.name,O J b.state,O J b.aX,O J b.addr,AI b.server]] w
  λe w'=>e=.returned (Il #[AI (cP a b==0&&jG a b),O J (cP a b)])/\Below w.heap.size w w':=by
 have hz:(aJ [a] [b]!=0)=false:=by simpa using h0
 have hn:(a.name.toList==b.name.toList)=false:=by have h:=(uy a.name b.name).2 ft;simpa using h
 have hn3:¬ a.name.toList=b.name.toList:=by simpa using hn
 have HE:Hid (cP a b=1):=(show cP a b=1 by rw[cP,if_pos h0,if_neg ft]);clear ft h0;go_enter Tryz.func188,Tryz.ntmps188;go_wp2_with fail;go_region_with (first|(go_at_call 201;refine(mY _ _ _ _ _ _).mono ?_;rintro e w' ⟨rfl,rfl⟩)|(go_at_call 238;refine(jz a b w ha hb).mono ?_;rintro e w1 ⟨rfl,al⟩))
 all_goals
  have bA:=al.size;have eA:∀k o,k<w.heap.size+1+1->w1.cell? ⟨k,o,Y⟩=((w.alloc (AT #[I a.name,O J a.state,O J a.aX,O J a.addr,AI a.server] 70)).alloc (AT #[I b.name,O J b.state,O J b.aX,O J b.addr,AI b.server] 70)).cell? ⟨k,o,Y⟩:=λk o h=>al.cell (p:=⟨k,o,Y⟩) h;have WJ:w.heap.size<w.heap.size+1+1:=by omega
  have ahQ:w.heap.size+1<w.heap.size+1+1:=by omega
  go_wp2_with fail;go_ret2;refine⟨?_,?_⟩
  .rw[HE.out];rfl
  .exact(((Ib _ _).alloc (Nat.le_refl _) _).alloc (by simp) _).trans (al.mono (by omega))
theorem Bf(na:ByteArray)(sa la aa:Int)(va:Bool)(sb lb ab:Int)(vb:Bool)(w:World)(ha:na.size<=Ij)(h0:aJ [⟨na,sa,la,aa,va⟩] [⟨na,sb,lb,ab,vb⟩]=0) :
 aP 188 #[Im #[I na,O J sa,O J la,O J aa,AI va],Im #[I na,O J sb,O J lb,O J ab,AI vb]] w
  λe w'=>e=.returned (Il #[AI (Bg sa la aa va sb lb ab vb),O J 0])/\Below w.heap.size w w':=by
 have hz:(aJ [⟨na,sa,la,aa,va⟩] [⟨na,sb,lb,ab,vb⟩]!=0)=false:=by simpa using h0
 clear h0;go_enter Tryz.func188,Tryz.ntmps188;go_wp2_with fail;go_region_with (first|(go_at_call 201;refine(mY _ _ _ _ _ _).mono ?_;rintro e w' ⟨rfl,rfl⟩)|(go_at_call 238;refine(jz ⟨na,sa,la,aa,va⟩ ⟨na,sb,lb,ab,vb⟩ w ha ha).mono ?_;rintro e w1 ⟨rfl,al⟩))
 all_goals
  have bA:=al.size;have eA:∀k o,k<w.heap.size+1+1->w1.cell? ⟨k,o,Y⟩=((w.alloc (AT #[I na,O J sa,O J la,O J aa,AI va] 70)).alloc (AT #[I na,O J sb,O J lb,O J ab,AI vb] 70)).cell? ⟨k,o,Y⟩:=λk o h=>al.cell (p:=⟨k,o,Y⟩) h;have WJ:w.heap.size<w.heap.size+1+1:=by omega
  have ahQ:w.heap.size+1<w.heap.size+1+1:=by omega
  go_wp2_with (go_at_call 239;refine(xa _ _ _ _ _ _ _ _ _ _ _).mono ?_;rintro e w' ⟨rfl,rfl⟩);go_ret2;refine⟨rfl,?_⟩;have h0:=(((Ib w.heap.size w).alloc (Nat.le_refl _) (AT #[I na,O J sa,O J la,O J aa,AI va] 70)).alloc (by simp) (AT #[I na,O J sb,O J lb,O J ab,AI vb] 70)).trans (al.mono (by omega));exact(h0.alloc h0.size _).alloc (by have:=h0.size;simp;omega) _
theorem oB(a b:Mem)(w:World)(ha:a.name.size<=Ij)(hb:b.name.size<=Ij) :
 aP 188 #[Im #[I a.name,O J a.state,O J a.aX,O J a.addr,AI a.server],Im #[I b.name,O J b.state,O J b.aX,O J b.addr,AI b.server]] w
  λe w'=>e=.returned (Il #[AI (cP a b==0&&jG a b),O J (cP a b)])/\Below w.heap.size w w':=by
 by_cases h0:aJ [a] [b]=0
 .by_cases ft:a.name=b.name
  .have hE:cP a b=0:=by rw[cP,if_pos h0,if_pos ft]
   rw[hE];obtain⟨na,sa,la,aa,va⟩:=a;obtain⟨nb,sb,lb,ab,vb⟩:=b;simp only at ft;subst ft;exact Bf na sa la aa va sb lb ab vb w ha h0
  .exact Be a b w ha hb h0 ft
 .exact DH a b w ha hb h0
end Go.Proofs.YtfidjlcdlakceaaGreatDoor
