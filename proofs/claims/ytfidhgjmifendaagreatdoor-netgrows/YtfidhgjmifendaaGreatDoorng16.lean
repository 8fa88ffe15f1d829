import Derived.Test.YtfidhgjmifendaaGreatDoorng15
set_option maxHeartbeats 3200000
set_option maxRecDepth 100000
open Option renaming some→AI,none→be
open Go.Value renaming int→U
open Go.IntKind renaming i64→O
open Go.World renaming frozen?→Is
open Go.RowKit.Below renaming heap_setCell→IX
namespace Go.Proofs.YtfidhgjmifendaaGreatDoor
open Go.RowKit
def LP(l:List UInt8):Option ((Int×Int×Int×Int×Int)×List UInt8):=
 (mB l).bind λa=>(mB a.2).bind λb=>(mB b.2).bind λc=>(mB c.2).bind λd=>(mB d.2).bind λe=>AI ((a.1,b.1,c.1,d.1,e.1),e.2)
theorem GU{B g:Nat}{l r:List UInt8}{x y z u v:Int}{w:World}(hV:Rv B w)(gF:B<=g)(h:kb g l w)(hs:l.length<=140737488355328)(hl:LP l=AI ((x,y,z,u,v),r)) :
 aF 190 #[.pointer (AI ⟨g,0,be⟩)] w λe w'=>e=.returned (.agg #[U O x,U O y,U O z,U O u,U O v])/\kb g r w'/\Rp g w w':=by
 unfold LP at hl;simp only[Option.bind_eq_some_iff,Option.some.injEq,Prod.mk.injEq] at hl;obtain⟨⟨x',r1⟩,n1,⟨y',r2⟩,n2,⟨z',r3⟩,n3,⟨u',r4⟩,n4,⟨v',r5⟩,n5,⟨rfl,rfl,rfl,rfl,rfl⟩,rfl⟩:=hl;simp only at n1 n2 n3 n4 n5 ⊢;have l1:=(cZ n1).2;have l2:=(cZ n2).2;have l3:=(cZ n3).2;have l4:=(cZ n4).2;have HN:Hid (∀W,Rv B W->∀{a b:List UInt8} {n:Int},mB a=AI (n,b)->a.length<=l.length->kb g a W->aF _ _ _ _):=λW hW _ _ _ hn hal hp=>wN hW hp (by omega) hn;obtain⟨W0,bA,bM,-,dF⟩:=bV w #[U O 0,U O 0,U O 0,U O 0,U O 0] 39;have qi:Hid (kb g l W0/\Rp g w W0):=⟨h.below bM,Rp.b9 bM (Nat.le_refl _)⟩;have HV:Hid _:=hV;have Gg:Hid _:=gF;have GV:w.heap.size≠g:=by have:=h.hg;omega
 have AM:Hid _:=dF;have HL:Hid (mB l=AI (x',r1)/\mB r1=AI (y',r2)/\mB r2=AI (z',r3)/\mB r3=AI (u',r4)/\mB r4=AI (v',r5)):=⟨n1,n2,n3,n4,n5⟩;have DU:Hid (r1.length<=l.length/\r2.length<=l.length/\r3.length<=l.length/\r4.length<=l.length):=⟨by omega,by omega,by omega,by omega⟩;clear n1 n2 n3 n4 n5 l1 l2 l3 l4 h hV gF bM dF hs;go_enter Tryz.func190,Tryz.ntmps190;go_wp2_with fail;rw[<- bA];clear bA;refine(HN.out W0 (HV.out.rp Gg.out qi.out.2) HL.out.1 (Nat.le_refl _) qi.out.1).mono ?_;rintro e w1 ⟨rfl,p1,q1⟩;have lZ:Hid (kb g r1 w1/\Rp g W0 w1):=⟨p1,q1⟩;clear p1 q1;go_wp2_with fail;refine(HN.out w1 ((HV.out.rp Gg.out qi.out.2).rp Gg.out lZ.out.2) HL.out.2.1 DU.out.1 lZ.out.1).mono ?_;rintro e w2 ⟨rfl,p1,q1⟩;have nZ:Hid (kb g r2 w2/\Rp g W0 w2):=⟨p1,lZ.out.2.trans q1⟩;clear p1 q1;go_wp2_with fail;refine(HN.out w2 ((HV.out.rp Gg.out qi.out.2).rp Gg.out nZ.out.2) HL.out.2.2.1 DU.out.2.1 nZ.out.1).mono ?_;rintro e w3 ⟨rfl,p1,q1⟩;have sK:Hid (kb g r3 w3/\Rp g W0 w3):=⟨p1,nZ.out.2.trans q1⟩;clear p1 q1;go_wp2_with fail;refine(HN.out w3 ((HV.out.rp Gg.out qi.out.2).rp Gg.out sK.out.2) HL.out.2.2.2.1 DU.out.2.2.1 sK.out.1).mono ?_;rintro e w4 ⟨rfl,p1,q1⟩;have A0:Hid (kb g r4 w4/\Rp g W0 w4):=⟨p1,sK.out.2.trans q1⟩;clear p1 q1;go_wp2_with fail;refine(HN.out w4 ((HV.out.rp Gg.out qi.out.2).rp Gg.out A0.out.2) HL.out.2.2.2.2 DU.out.2.2.2 A0.out.1).mono ?_;rintro e w5 ⟨rfl,p1,q1⟩;have oH:Hid (kb g r5 w5/\Rp g W0 w5):=⟨p1,A0.out.2.trans q1⟩;clear p1 q1;have g5:=(oH.out.2.block _ (Array.getElem?_eq_some_iff.1 AM.out).1 GV).trans AM.out;have c0:=ae g5 0;have c1:=ae g5 1;have c2:=ae g5 2;have c3:=ae g5 3;have c4:=ae g5 4;have z0:w5.frozen? ⟨w.heap.size,0,be⟩=false:=by simp[Is,g5]
 have z1:w5.frozen? ⟨w.heap.size,1,be⟩=false:=by simp[Is,g5]
 have z2:w5.frozen? ⟨w.heap.size,2,be⟩=false:=by simp[Is,g5]
 have z3:w5.frozen? ⟨w.heap.size,3,be⟩=false:=by simp[Is,g5]
 have z4:w5.frozen? ⟨w.heap.size,4,be⟩=false:=by simp[Is,g5]
 clear g5;go_wp2_with fail;have HW:Hid (∀a b c d e:Value,kb g r5 (((((w5.setCell ⟨w.heap.size,0,be⟩ a).setCell ⟨w.heap.size,1,be⟩ b).setCell ⟨w.heap.size,2,be⟩ c).setCell ⟨w.heap.size,3,be⟩ d).setCell ⟨w.heap.size,4,be⟩ e)/\Rp g w (((((w5.setCell ⟨w.heap.size,0,be⟩ a).setCell ⟨w.heap.size,1,be⟩ b).setCell ⟨w.heap.size,2,be⟩ c).setCell ⟨w.heap.size,3,be⟩ d).setCell ⟨w.heap.size,4,be⟩ e)):=λa b c d e=>by
  have hk:∀k,k≠w.heap.size->(((((w5.setCell ⟨w.heap.size,0,be⟩ a).setCell ⟨w.heap.size,1,be⟩ b).setCell ⟨w.heap.size,2,be⟩ c).setCell ⟨w.heap.size,3,be⟩ d).setCell ⟨w.heap.size,4,be⟩ e).heap[k]?=w5.heap[k]?:=λk hk=>by
   rw[IX _ _ _ k hk,IX _ _ _ k hk,IX _ _ _ k hk,IX _ _ _ k hk,IX _ _ _ k hk]
  have VA:=hk g (λe=>GV e.symm);have hr:=qi.out.2.trans oH.out.2;refine⟨⟨?_,?_,by simpa using oH.out.1.hg⟩,⟨hr.os,hr.tape,hr.output,by simpa using hr.size,λk jj jd=>(hk k (by omega)).trans (hr.block k jj jd)⟩⟩
  .have:=oH.out.1.c0
   simp only[World.cell?] at this ⊢;rw[VA];exact this
  .have:=oH.out.1.hz
   simp only[Is] at this ⊢;rw[VA];exact this
 clear z0 z1 z2 z3 z4;have sL:=HW.out (U O x') (U O y') (U O z') (U O u') (U O v');have gO:Hid _:=sL;clear sL;simp[bodyPost,results,Tryz.results190,go_sem,c0,c1,c2,c3,c4];exact gO.out
end Go.Proofs.YtfidhgjmifendaaGreatDoor
