import Derived.Test.YtbfghimjdlpicaaGreatDoorna4
set_option maxHeartbeats 1600000
set_option maxRecDepth 100000
open Go renaming maxLen→Io,heap_alloc_new→Ij
open Go.Value renaming slice→J,string→Y,int→U,bool→Ia,agg→Ik,tuple→Ip
open Option renaming some→AI,none→be
open Go.Obj renaming cells→By
open Go.IntKind renaming i64→O
open Go.RowKit.Below renaming refl→Ib,heap_alloc→II
namespace Go.Proofs.YtbfghimjdlpicaaGreatDoor
open Go.RowKit
def bF(a b:Mem):Int:=if aY [a] [b]=0 then(if a.name=b.name then 0 else 1) else aY [a] [b]
theorem uK(a b:ByteArray):(a.toList !=b.toList)=true↔a≠b:=by
 rw[bne_iff_ne,Lib.toList_data,Lib.toList_data];exact⟨λh e=>h (by rw[e]),λh e=>h (kK e)⟩
theorem kP(a b:Mem)(w:World)(ha:a.name.size<=Io)(hb:b.name.size<=Io) :
 aK 192 #[J (AI ⟨w.heap.size+1+1+1+1+1+1,0,be⟩) 2 2]
  ((((((((w.alloc (By #[Y a.name,U O a.state,U O a.aI,U O a.addr,Ia a.server] 52)).alloc (By #[Y b.name,U O b.state,U O b.aI,U O b.addr,Ia b.server] 52)).alloc
    (By #[Y a.name,U O a.state,U O a.aI,U O a.addr,Ia a.server] 52)).alloc (By #[Y a.name,U O a.state,U O a.aI,U O a.addr,Ia a.server] 52)).alloc
    (By #[Y b.name,U O b.state,U O b.aI,U O b.addr,Ia b.server] 52)).alloc (By #[Y b.name,U O b.state,U O b.aI,U O b.addr,Ia b.server] 52)).alloc
    (By #[J (AI ⟨w.heap.size+1+1+1,0,be⟩) 1 1,J (AI ⟨w.heap.size+1+1+1+1+1,0,be⟩) 1 1] 45)).drew)
  λe w'=>e=.returned (U O (aY [a] [b]))/\Below (w.heap.size+1+1) ((w.alloc (By #[Y a.name,U O a.state,U O a.aI,U O a.addr,Ia a.server] 52)).alloc (By #[Y b.name,U O b.state,U O b.aI,U O b.addr,Ia b.server] 52)) w':=by
 obtain⟨A,hA⟩:∃A:Obj,A=By #[Y a.name,U O a.state,U O a.aI,U O a.addr,Ia a.server] 52:=⟨_,rfl⟩;obtain⟨B,hB⟩:∃B:Obj,B=By #[Y b.name,U O b.state,U O b.aI,U O b.addr,Ia b.server] 52:=⟨_,rfl⟩;obtain⟨Pq,hP⟩:∃P:Obj,P=By #[J (AI ⟨w.heap.size+1+1+1,0,be⟩) 1 1,J (AI ⟨w.heap.size+1+1+1+1+1,0,be⟩) 1 1] 45:=⟨_,rfl⟩;rw[<- hA,<- hB,<- hP];have tp:Below (w.heap.size+1+1) ((w.alloc A).alloc B) ((((((((w.alloc A).alloc B).alloc A).alloc A).alloc B).alloc B).alloc Pq).drew):=
  ((((((Ib _ _).alloc (by simp) A).alloc (by simp<;>omega) A).alloc (by simp<;>omega) B).alloc (by simp<;>omega) B).alloc (by simp<;>omega) Pq).drew
 have hgp:((((((((w.alloc A).alloc B).alloc A).alloc A).alloc B).alloc B).alloc Pq).drew).heap[w.heap.size+1+1+1+1+1+1]?=AI Pq:=by
  have h:=Ij ((((((w.alloc A).alloc B).alloc A).alloc A).alloc B).alloc B) Pq;rw[show((((((w.alloc A).alloc B).alloc A).alloc A).alloc B).alloc B).heap.size=w.heap.size+1+1+1+1+1+1 by simp] at h;exact h
 have hga:((((((((w.alloc A).alloc B).alloc A).alloc A).alloc B).alloc B).alloc Pq).drew).heap[w.heap.size+1+1+1]?=AI A:=by
  have h1:=Ij (((w.alloc A).alloc B).alloc A) A;rw[show(((w.alloc A).alloc B).alloc A).heap.size=w.heap.size+1+1+1 by simp] at h1;have h2:=II ((((w.alloc A).alloc B).alloc A).alloc A) B (w.heap.size+1+1+1) (by simp);have h3:=II (((((w.alloc A).alloc B).alloc A).alloc A).alloc B) B (w.heap.size+1+1+1) (by simp<;>omega);have h4:=II ((((((w.alloc A).alloc B).alloc A).alloc A).alloc B).alloc B) Pq (w.heap.size+1+1+1) (by simp<;>omega);exact h4.trans (h3.trans (h2.trans h1))
 have CF:((((((((w.alloc A).alloc B).alloc A).alloc A).alloc B).alloc B).alloc Pq).drew).heap[w.heap.size+1+1+1+1+1]?=AI B:=by
  have h1:=Ij (((((w.alloc A).alloc B).alloc A).alloc A).alloc B) B;rw[show(((((w.alloc A).alloc B).alloc A).alloc A).alloc B).heap.size=w.heap.size+1+1+1+1+1 by simp] at h1;have h4:=II ((((((w.alloc A).alloc B).alloc A).alloc A).alloc B).alloc B) Pq (w.heap.size+1+1+1+1+1) (by simp);exact h4.trans h1
 have cB:((((((((w.alloc A).alloc B).alloc A).alloc A).alloc B).alloc B).alloc Pq).drew).heap.size=w.heap.size+1+1+1+1+1+1+1:=by simp
 generalize((((((((w.alloc A).alloc B).alloc A).alloc A).alloc B).alloc B).alloc Pq).drew)=W at *;have abf:=hgp.trans (congrArg AI hP);refine(ec [a] [b] _ _ _ 2 W (pY W _ 1 a ha (hga.trans (congrArg AI hA))) (pY W _ 1 b hb (CF.trans (congrArg AI hB))) (by omega) (ae abf 0) (ae abf 1)).mono ?_;rintro e w' ⟨rfl,h⟩;exact⟨rfl,tp.trans (h.mono (by omega))⟩
theorem CG(a b:Mem)(w:World)(ha:a.name.size<=Io)(hb:b.name.size<=Io)(Gs:aY [a] [b]≠0) :
 aK 149 #[Ik #[Y a.name,U O a.state,U O a.aI,U O a.addr,Ia a.server],Ik #[Y b.name,U O b.state,U O b.aI,U O b.addr,Ia b.server]] w
  λe w'=>e=.returned (Ip #[Ia (bF a b==0&&dn a b),U O (bF a b)])/\Below w.heap.size w w':=by
 have aP:(aY [a] [b]!=0)=true:=by simpa using Gs
 have HE:Hid (bF a b=aY [a] [b]):=if_neg Gs;have HN:Hid (aY [a] [b]≠0):=Gs;clear Gs;go_enter Tryz.func149,Tryz.ntmps149;go_wp2_with fail;go_region_with (first|(go_at_call 153;refine(oW _ _ _ _ _ _).mono ?_;rintro e w' ⟨rfl,rfl⟩)|(go_at_call 192;refine(kP a b w ha hb).mono ?_;rintro e w1 ⟨rfl,aC⟩))
 all_goals
  go_wp2_with fail;go_ret2;refine⟨?_,?_⟩
  .rw[HE.out,show(aY [a] [b]==0)=false by simpa using HN.out];rfl
  .exact(((Ib _ _).alloc (Nat.le_refl _) _).alloc (by simp) _).trans (aC.mono (by omega))
theorem AX(a b:Mem)(w:World)(ha:a.name.size<=Io)(hb:b.name.size<=Io)(h0:aY [a] [b]=0)(cY:a.name≠b.name) :
 aK 149 #[Ik #[Y a.name,U O a.state,U O a.aI,U O a.addr,Ia a.server],Ik #[Y b.name,U O b.state,U O b.aI,U O b.addr,Ia b.server]] w
  λe w'=>e=.returned (Ip #[Ia (bF a b==0&&dn a b),U O (bF a b)])/\Below w.heap.size w w':=by
 have hz:(aY [a] [b]!=0)=false:=by simpa using h0
 have hn:(a.name.toList==b.name.toList)=false:=by have h:=(uK a.name b.name).2 cY;simpa using h
 have hn3:¬ a.name.toList=b.name.toList:=by simpa using hn
 have HE:Hid (bF a b=1):=(show bF a b=1 by rw[bF,if_pos h0,if_neg cY]);clear cY h0;go_enter Tryz.func149,Tryz.ntmps149;go_wp2_with fail;go_region_with (first|(go_at_call 153;refine(oW _ _ _ _ _ _).mono ?_;rintro e w' ⟨rfl,rfl⟩)|(go_at_call 192;refine(kP a b w ha hb).mono ?_;rintro e w1 ⟨rfl,aC⟩))
 all_goals
  have cB:=aC.size;have cK:∀k o,k<w.heap.size+1+1->w1.cell? ⟨k,o,be⟩=((w.alloc (By #[Y a.name,U O a.state,U O a.aI,U O a.addr,Ia a.server] 52)).alloc (By #[Y b.name,U O b.state,U O b.aI,U O b.addr,Ia b.server] 52)).cell? ⟨k,o,be⟩:=λk o h=>aC.cell (p:=⟨k,o,be⟩) h;have Lv:w.heap.size<w.heap.size+1+1:=by omega
  have agj:w.heap.size+1<w.heap.size+1+1:=by omega
  go_wp2_with fail;go_ret2;refine⟨?_,?_⟩
  .rw[HE.out];rfl
  .exact(((Ib _ _).alloc (Nat.le_refl _) _).alloc (by simp) _).trans (aC.mono (by omega))
theorem AY(na:ByteArray)(sa la aa:Int)(va:Bool)(sb lb ab:Int)(vb:Bool)(w:World)(ha:na.size<=Io)(h0:aY [⟨na,sa,la,aa,va⟩] [⟨na,sb,lb,ab,vb⟩]=0) :
 aK 149 #[Ik #[Y na,U O sa,U O la,U O aa,Ia va],Ik #[Y na,U O sb,U O lb,U O ab,Ia vb]] w
  λe w'=>e=.returned (Ip #[Ia (wY sa la aa va sb lb ab vb),U O 0])/\Below w.heap.size w w':=by
 have hz:(aY [⟨na,sa,la,aa,va⟩] [⟨na,sb,lb,ab,vb⟩]!=0)=false:=by simpa using h0
 clear h0;go_enter Tryz.func149,Tryz.ntmps149;go_wp2_with fail;go_region_with (first|(go_at_call 153;refine(oW _ _ _ _ _ _).mono ?_;rintro e w' ⟨rfl,rfl⟩)|(go_at_call 192;refine(kP ⟨na,sa,la,aa,va⟩ ⟨na,sb,lb,ab,vb⟩ w ha ha).mono ?_;rintro e w1 ⟨rfl,aC⟩))
 all_goals
  have cB:=aC.size;have cK:∀k o,k<w.heap.size+1+1->w1.cell? ⟨k,o,be⟩=((w.alloc (By #[Y na,U O sa,U O la,U O aa,Ia va] 52)).alloc (By #[Y na,U O sb,U O lb,U O ab,Ia vb] 52)).cell? ⟨k,o,be⟩:=λk o h=>aC.cell (p:=⟨k,o,be⟩) h;have Lv:w.heap.size<w.heap.size+1+1:=by omega
  have agj:w.heap.size+1<w.heap.size+1+1:=by omega
  go_wp2_with (go_at_call 193;refine(xL _ _ _ _ _ _ _ _ _ _ _).mono ?_;rintro e w' ⟨rfl,rfl⟩);go_ret2;refine⟨rfl,?_⟩;have h0:=(((Ib w.heap.size w).alloc (Nat.le_refl _) (By #[Y na,U O sa,U O la,U O aa,Ia va] 52)).alloc (by simp) (By #[Y na,U O sb,U O lb,U O ab,Ia vb] 52)).trans (aC.mono (by omega));exact(h0.alloc h0.size _).alloc (by have:=h0.size;simp;omega) _
theorem qg(a b:Mem)(w:World)(ha:a.name.size<=Io)(hb:b.name.size<=Io) :
 aK 149 #[Ik #[Y a.name,U O a.state,U O a.aI,U O a.addr,Ia a.server],Ik #[Y b.name,U O b.state,U O b.aI,U O b.addr,Ia b.server]] w
  λe w'=>e=.returned (Ip #[Ia (bF a b==0&&dn a b),U O (bF a b)])/\Below w.heap.size w w':=by
 by_cases h0:aY [a] [b]=0
 .by_cases cY:a.name=b.name
  .have hE:bF a b=0:=by rw[bF,if_pos h0,if_pos cY]
   rw[hE];obtain⟨na,sa,la,aa,va⟩:=a;obtain⟨nb,sb,lb,ab,vb⟩:=b;simp only at cY;subst cY;exact AY na sa la aa va sb lb ab vb w ha h0
  .exact AX a b w ha hb h0 cY
 .exact CG a b w ha hb h0
end Go.Proofs.YtbfghimjdlpicaaGreatDoor
