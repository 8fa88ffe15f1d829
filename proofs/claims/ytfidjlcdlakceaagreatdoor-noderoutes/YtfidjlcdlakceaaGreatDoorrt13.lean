import Derived.Test.YtfidjlcdlakceaaGreatDoorrt12
set_option maxHeartbeats 1600000
set_option maxRecDepth 100000
open Go renaming maxLen→Ii,heap_alloc_new→Ie
open Go.Value renaming slice→U,string→I,int→O,bool→AT,agg→Ip,tuple→Il
open Option renaming some→Z,none→Y
open Go.Obj renaming cells→AI
open Go.IntKind renaming i64→J
open Go.RowKit.Below renaming refl→Ia,heap_alloc→It
namespace Go.Proofs.YtfidjlcdlakceaaGreatDoor
open Go.RowKit
def fX(a b:Mem):Int:=if aY [a] [b]=0 then(if a.name=b.name then 0 else 1) else aY [a] [b]
theorem sj(a b:ByteArray):(a.toList !=b.toList)=true↔a≠b:=by
 rw[bne_iff_ne,Lib.toList_data,Lib.toList_data];exact⟨λh e=>h (by rw[e]),λh e=>h (jq e)⟩
theorem iD(a b:Mem)(w:World)(ha:a.name.size<=Ii)(hb:b.name.size<=Ii) :
 aT 238 #[U (Z ⟨w.heap.size+1+1+1+1+1+1,0,Y⟩) 2 2]
  ((((((((w.alloc (AI #[I a.name,O J a.state,O J a.aP,O J a.addr,AT a.server] 70)).alloc (AI #[I b.name,O J b.state,O J b.aP,O J b.addr,AT b.server] 70)).alloc
    (AI #[I a.name,O J a.state,O J a.aP,O J a.addr,AT a.server] 70)).alloc (AI #[I a.name,O J a.state,O J a.aP,O J a.addr,AT a.server] 70)).alloc
    (AI #[I b.name,O J b.state,O J b.aP,O J b.addr,AT b.server] 70)).alloc (AI #[I b.name,O J b.state,O J b.aP,O J b.addr,AT b.server] 70)).alloc
    (AI #[U (Z ⟨w.heap.size+1+1+1,0,Y⟩) 1 1,U (Z ⟨w.heap.size+1+1+1+1+1,0,Y⟩) 1 1] 22)).drew)
  λe w'=>e=.returned (O J (aY [a] [b]))/\Below (w.heap.size+1+1) ((w.alloc (AI #[I a.name,O J a.state,O J a.aP,O J a.addr,AT a.server] 70)).alloc (AI #[I b.name,O J b.state,O J b.aP,O J b.addr,AT b.server] 70)) w':=by
 obtain⟨A,hA⟩:∃A:Obj,A=AI #[I a.name,O J a.state,O J a.aP,O J a.addr,AT a.server] 70:=⟨_,rfl⟩;obtain⟨B,hB⟩:∃B:Obj,B=AI #[I b.name,O J b.state,O J b.aP,O J b.addr,AT b.server] 70:=⟨_,rfl⟩;obtain⟨Pq,hP⟩:∃P:Obj,P=AI #[U (Z ⟨w.heap.size+1+1+1,0,Y⟩) 1 1,U (Z ⟨w.heap.size+1+1+1+1+1,0,Y⟩) 1 1] 22:=⟨_,rfl⟩;rw[<- hA,<- hB,<- hP];have eG:Below (w.heap.size+1+1) ((w.alloc A).alloc B) ((((((((w.alloc A).alloc B).alloc A).alloc A).alloc B).alloc B).alloc Pq).drew):=
  ((((((Ia _ _).alloc (by simp) A).alloc (by simp<;>omega) A).alloc (by simp<;>omega) B).alloc (by simp<;>omega) B).alloc (by simp<;>omega) Pq).drew
 have hgp:((((((((w.alloc A).alloc B).alloc A).alloc A).alloc B).alloc B).alloc Pq).drew).heap[w.heap.size+1+1+1+1+1+1]?=Z Pq:=by
  have h:=Ie ((((((w.alloc A).alloc B).alloc A).alloc A).alloc B).alloc B) Pq;rw[show((((((w.alloc A).alloc B).alloc A).alloc A).alloc B).alloc B).heap.size=w.heap.size+1+1+1+1+1+1 by simp] at h;exact h
 have lX:((((((((w.alloc A).alloc B).alloc A).alloc A).alloc B).alloc B).alloc Pq).drew).heap[w.heap.size+1+1+1]?=Z A:=by
  have h1:=Ie (((w.alloc A).alloc B).alloc A) A;rw[show(((w.alloc A).alloc B).alloc A).heap.size=w.heap.size+1+1+1 by simp] at h1;have h2:=It ((((w.alloc A).alloc B).alloc A).alloc A) B (w.heap.size+1+1+1) (by simp);have h3:=It (((((w.alloc A).alloc B).alloc A).alloc A).alloc B) B (w.heap.size+1+1+1) (by simp<;>omega);have h4:=It ((((((w.alloc A).alloc B).alloc A).alloc A).alloc B).alloc B) Pq (w.heap.size+1+1+1) (by simp<;>omega);exact h4.trans (h3.trans (h2.trans h1))
 have Cs:((((((((w.alloc A).alloc B).alloc A).alloc A).alloc B).alloc B).alloc Pq).drew).heap[w.heap.size+1+1+1+1+1]?=Z B:=by
  have h1:=Ie (((((w.alloc A).alloc B).alloc A).alloc A).alloc B) B;rw[show(((((w.alloc A).alloc B).alloc A).alloc A).alloc B).heap.size=w.heap.size+1+1+1+1+1 by simp] at h1;have h4:=It ((((((w.alloc A).alloc B).alloc A).alloc A).alloc B).alloc B) Pq (w.heap.size+1+1+1+1+1) (by simp);exact h4.trans h1
 have bb:((((((((w.alloc A).alloc B).alloc A).alloc A).alloc B).alloc B).alloc Pq).drew).heap.size=w.heap.size+1+1+1+1+1+1+1:=by simp
 generalize((((((((w.alloc A).alloc B).alloc A).alloc A).alloc B).alloc B).alloc Pq).drew)=W at *;have XN:=hgp.trans (congrArg Z hP);refine(ee [a] [b] _ _ _ 2 W (Ax W _ 1 a ha (lX.trans (congrArg Z hA))) (Ax W _ 1 b hb (Cs.trans (congrArg Z hB))) (by omega) (af XN 0) (af XN 1)).mono ?_;rintro e w' ⟨rfl,h⟩;exact⟨rfl,eG.trans (h.mono (by omega))⟩
theorem Ay(a b:Mem)(w:World)(ha:a.name.size<=Ii)(hb:b.name.size<=Ii)(El:aY [a] [b]≠0) :
 aT 188 #[Ip #[I a.name,O J a.state,O J a.aP,O J a.addr,AT a.server],Ip #[I b.name,O J b.state,O J b.aP,O J b.addr,AT b.server]] w
  λe w'=>e=.returned (Il #[AT (fX a b==0&&ik a b),O J (fX a b)])/\Below w.heap.size w w':=by
 have bE:(aY [a] [b]!=0)=true:=by simpa using El
 have HE:Hid (fX a b=aY [a] [b]):=if_neg El;have HN:Hid (aY [a] [b]≠0):=El;clear El;go_enter Tryz.func188,Tryz.ntmps188;go_wp2_with fail;go_region_with (first|(go_at_call 201;refine(lV _ _ _ _ _ _).mono ?_;rintro e w' ⟨rfl,rfl⟩)|(go_at_call 238;refine(iD a b w ha hb).mono ?_;rintro e w1 ⟨rfl,an⟩))
 all_goals
  go_wp2_with fail;go_ret2;refine⟨?_,?_⟩
  .rw[HE.out,show(aY [a] [b]==0)=false by simpa using HN.out];rfl
  .exact(((Ia _ _).alloc (Nat.le_refl _) _).alloc (by simp) _).trans (an.mono (by omega))
theorem xO(a b:Mem)(w:World)(ha:a.name.size<=Ii)(hb:b.name.size<=Ii)(h0:aY [a] [b]=0)(eX:a.name≠b.name) :
 aT 188 #[Ip #[I a.name,O J a.state,O J a.aP,O J a.addr,AT a.server],Ip #[I b.name,O J b.state,O J b.aP,O J b.addr,AT b.server]] w
  λe w'=>e=.returned (Il #[AT (fX a b==0&&ik a b),O J (fX a b)])/\Below w.heap.size w w':=by
 have hz:(aY [a] [b]!=0)=false:=by simpa using h0
 have hn:(a.name.toList==b.name.toList)=false:=by have h:=(sj a.name b.name).2 eX;simpa using h
 have hn3:¬ a.name.toList=b.name.toList:=by simpa using hn
 have HE:Hid (fX a b=1):=(show fX a b=1 by rw[fX,if_pos h0,if_neg eX]);clear eX h0;go_enter Tryz.func188,Tryz.ntmps188;go_wp2_with fail;go_region_with (first|(go_at_call 201;refine(lV _ _ _ _ _ _).mono ?_;rintro e w' ⟨rfl,rfl⟩)|(go_at_call 238;refine(iD a b w ha hb).mono ?_;rintro e w1 ⟨rfl,an⟩))
 all_goals
  have bb:=an.size;have dJ:∀k o,k<w.heap.size+1+1->w1.cell? ⟨k,o,Y⟩=((w.alloc (AI #[I a.name,O J a.state,O J a.aP,O J a.addr,AT a.server] 70)).alloc (AI #[I b.name,O J b.state,O J b.aP,O J b.addr,AT b.server] 70)).cell? ⟨k,o,Y⟩:=λk o h=>an.cell (p:=⟨k,o,Y⟩) h;have XO:w.heap.size<w.heap.size+1+1:=by omega
  have aeC:w.heap.size+1<w.heap.size+1+1:=by omega
  go_wp2_with fail;go_ret2;refine⟨?_,?_⟩
  .rw[HE.out];rfl
  .exact(((Ia _ _).alloc (Nat.le_refl _) _).alloc (by simp) _).trans (an.mono (by omega))
theorem xP(na:ByteArray)(sa la aa:Int)(va:Bool)(sb lb ab:Int)(vb:Bool)(w:World)(ha:na.size<=Ii)(h0:aY [⟨na,sa,la,aa,va⟩] [⟨na,sb,lb,ab,vb⟩]=0) :
 aT 188 #[Ip #[I na,O J sa,O J la,O J aa,AT va],Ip #[I na,O J sb,O J lb,O J ab,AT vb]] w
  λe w'=>e=.returned (Il #[AT (oZ sa la aa va sb lb ab vb),O J 0])/\Below w.heap.size w w':=by
 have hz:(aY [⟨na,sa,la,aa,va⟩] [⟨na,sb,lb,ab,vb⟩]!=0)=false:=by simpa using h0
 clear h0;go_enter Tryz.func188,Tryz.ntmps188;go_wp2_with fail;go_region_with (first|(go_at_call 201;refine(lV _ _ _ _ _ _).mono ?_;rintro e w' ⟨rfl,rfl⟩)|(go_at_call 238;refine(iD ⟨na,sa,la,aa,va⟩ ⟨na,sb,lb,ab,vb⟩ w ha ha).mono ?_;rintro e w1 ⟨rfl,an⟩))
 all_goals
  have bb:=an.size;have dJ:∀k o,k<w.heap.size+1+1->w1.cell? ⟨k,o,Y⟩=((w.alloc (AI #[I na,O J sa,O J la,O J aa,AT va] 70)).alloc (AI #[I na,O J sb,O J lb,O J ab,AT vb] 70)).cell? ⟨k,o,Y⟩:=λk o h=>an.cell (p:=⟨k,o,Y⟩) h;have XO:w.heap.size<w.heap.size+1+1:=by omega
  have aeC:w.heap.size+1<w.heap.size+1+1:=by omega
  go_wp2_with (go_at_call 239;refine(uS _ _ _ _ _ _ _ _ _ _ _).mono ?_;rintro e w' ⟨rfl,rfl⟩);go_ret2;refine⟨rfl,?_⟩;have h0:=(((Ia w.heap.size w).alloc (Nat.le_refl _) (AI #[I na,O J sa,O J la,O J aa,AT va] 70)).alloc (by simp) (AI #[I na,O J sb,O J lb,O J ab,AT vb] 70)).trans (an.mono (by omega));exact(h0.alloc h0.size _).alloc (by have:=h0.size;simp;omega) _
theorem mX(a b:Mem)(w:World)(ha:a.name.size<=Ii)(hb:b.name.size<=Ii) :
 aT 188 #[Ip #[I a.name,O J a.state,O J a.aP,O J a.addr,AT a.server],Ip #[I b.name,O J b.state,O J b.aP,O J b.addr,AT b.server]] w
  λe w'=>e=.returned (Il #[AT (fX a b==0&&ik a b),O J (fX a b)])/\Below w.heap.size w w':=by
 by_cases h0:aY [a] [b]=0
 .by_cases eX:a.name=b.name
  .have hE:fX a b=0:=by rw[fX,if_pos h0,if_pos eX]
   rw[hE];obtain⟨na,sa,la,aa,va⟩:=a;obtain⟨nb,sb,lb,ab,vb⟩:=b;simp only at eX;subst eX;exact xP na sa la aa va sb lb ab vb w ha h0
  .exact xO a b w ha hb h0 eX
 .exact Ay a b w ha hb h0
end Go.Proofs.YtfidjlcdlakceaaGreatDoor
