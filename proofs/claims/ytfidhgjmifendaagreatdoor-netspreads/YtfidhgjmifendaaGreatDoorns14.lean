import Derived.Test.YtfidhgjmifendaaGreatDoorns13
set_option maxHeartbeats 3200000
set_option maxRecDepth 100000
open Option renaming some→AI,none→be
open Go.Value renaming int→U
open Go.IntKind renaming i64→O
open Go.World renaming frozen?→Is
open Go.RowKit.Below renaming heap_setCell→IY
namespace Go.Proofs.YtfidhgjmifendaaGreatDoor
open Go.RowKit
def Me(l:List UInt8):Option ((Int×Int×Int×Int×Int)×List UInt8):=
 (mP l).bind λa=>(mP a.2).bind λb=>(mP b.2).bind λc=>(mP c.2).bind λd=>(mP d.2).bind λe=>AI ((a.1,b.1,c.1,d.1,e.1),e.2)
theorem Ho{B g:Nat}{l r:List UInt8}{x y z u v:Int}{w:World}(hV:Rv B w)(gS:B<=g)(h:kF g l w)(hs:l.length<=140737488355328)(hl:Me l=AI ((x,y,z,u,v),r)) :
 aI 190 #[.pointer (AI ⟨g,0,be⟩)] w λe w'=>e=.returned (.agg #[U O x,U O y,U O z,U O u,U O v])/\kF g r w'/\Rp g w w':=by
 unfold Me at hl;simp only[Option.bind_eq_some_iff,Option.some.injEq,Prod.mk.injEq] at hl;obtain⟨⟨x',r1⟩,n1,⟨y',r2⟩,n2,⟨z',r3⟩,n3,⟨u',r4⟩,n4,⟨v',r5⟩,n5,⟨rfl,rfl,rfl,rfl,rfl⟩,rfl⟩:=hl;simp only at n1 n2 n3 n4 n5 ⊢;have l1:=(dd n1).2;have l2:=(dd n2).2;have l3:=(dd n3).2;have l4:=(dd n4).2;have HN:Hid (∀W,Rv B W->∀{a b:List UInt8} {n:Int},mP a=AI (n,b)->a.length<=l.length->kF g a W->aI _ _ _ _):=λW hW _ _ _ hn hal hp=>xo hW hp (by omega) hn;obtain⟨W0,bN,bO,-,dI⟩:=bY w #[U O 0,U O 0,U O 0,U O 0,U O 0] 39;have qU:Hid (kF g l W0/\Rp g w W0):=⟨h.below bO,Rp.cj bO (Nat.le_refl _)⟩;have HV:Hid _:=hV;have GB:Hid _:=gS;have Hp:w.heap.size≠g:=by have:=h.hg;omega
 have Bf:Hid _:=dI;have HL:Hid (mP l=AI (x',r1)/\mP r1=AI (y',r2)/\mP r2=AI (z',r3)/\mP r3=AI (u',r4)/\mP r4=AI (v',r5)):=⟨n1,n2,n3,n4,n5⟩;have Ef:Hid (r1.length<=l.length/\r2.length<=l.length/\r3.length<=l.length/\r4.length<=l.length):=⟨by omega,by omega,by omega,by omega⟩;clear n1 n2 n3 n4 n5 l1 l2 l3 l4 h hV gS bO dI hs;go_enter Tryz.func190,Tryz.ntmps190;go_wp2_with fail;rw[<- bN];clear bN;refine(HN.out W0 (HV.out.rp GB.out qU.out.2) HL.out.1 (Nat.le_refl _) qU.out.1).mono ?_;rintro e w1 ⟨rfl,p1,q1⟩;have mB:Hid (kF g r1 w1/\Rp g W0 w1):=⟨p1,q1⟩;clear p1 q1;go_wp2_with fail;refine(HN.out w1 ((HV.out.rp GB.out qU.out.2).rp GB.out mB.out.2) HL.out.2.1 Ef.out.1 mB.out.1).mono ?_;rintro e w2 ⟨rfl,p1,q1⟩;have oI:Hid (kF g r2 w2/\Rp g W0 w2):=⟨p1,mB.out.2.trans q1⟩;clear p1 q1;go_wp2_with fail;refine(HN.out w2 ((HV.out.rp GB.out qU.out.2).rp GB.out oI.out.2) HL.out.2.2.1 Ef.out.2.1 oI.out.1).mono ?_;rintro e w3 ⟨rfl,p1,q1⟩;have tm:Hid (kF g r3 w3/\Rp g W0 w3):=⟨p1,oI.out.2.trans q1⟩;clear p1 q1;go_wp2_with fail;refine(HN.out w3 ((HV.out.rp GB.out qU.out.2).rp GB.out tm.out.2) HL.out.2.2.2.1 Ef.out.2.2.1 tm.out.1).mono ?_;rintro e w4 ⟨rfl,p1,q1⟩;have Bp:Hid (kF g r4 w4/\Rp g W0 w4):=⟨p1,tm.out.2.trans q1⟩;clear p1 q1;go_wp2_with fail;refine(HN.out w4 ((HV.out.rp GB.out qU.out.2).rp GB.out Bp.out.2) HL.out.2.2.2.2 Ef.out.2.2.2 Bp.out.1).mono ?_;rintro e w5 ⟨rfl,p1,q1⟩;have pF:Hid (kF g r5 w5/\Rp g W0 w5):=⟨p1,Bp.out.2.trans q1⟩;clear p1 q1;have g5:=(pF.out.2.block _ (Array.getElem?_eq_some_iff.1 Bf.out).1 Hp).trans Bf.out;have c0:=ae g5 0;have c1:=ae g5 1;have c2:=ae g5 2;have c3:=ae g5 3;have c4:=ae g5 4;have z0:w5.frozen? ⟨w.heap.size,0,be⟩=false:=by simp[Is,g5]
 have z1:w5.frozen? ⟨w.heap.size,1,be⟩=false:=by simp[Is,g5]
 have z2:w5.frozen? ⟨w.heap.size,2,be⟩=false:=by simp[Is,g5]
 have z3:w5.frozen? ⟨w.heap.size,3,be⟩=false:=by simp[Is,g5]
 have z4:w5.frozen? ⟨w.heap.size,4,be⟩=false:=by simp[Is,g5]
 clear g5;go_wp2_with fail;have HW:Hid (∀a b c d e:Value,kF g r5 (((((w5.setCell ⟨w.heap.size,0,be⟩ a).setCell ⟨w.heap.size,1,be⟩ b).setCell ⟨w.heap.size,2,be⟩ c).setCell ⟨w.heap.size,3,be⟩ d).setCell ⟨w.heap.size,4,be⟩ e)/\Rp g w (((((w5.setCell ⟨w.heap.size,0,be⟩ a).setCell ⟨w.heap.size,1,be⟩ b).setCell ⟨w.heap.size,2,be⟩ c).setCell ⟨w.heap.size,3,be⟩ d).setCell ⟨w.heap.size,4,be⟩ e)):=λa b c d e=>by
  have hk:∀k,k≠w.heap.size->(((((w5.setCell ⟨w.heap.size,0,be⟩ a).setCell ⟨w.heap.size,1,be⟩ b).setCell ⟨w.heap.size,2,be⟩ c).setCell ⟨w.heap.size,3,be⟩ d).setCell ⟨w.heap.size,4,be⟩ e).heap[k]?=w5.heap[k]?:=λk hk=>by
   rw[IY _ _ _ k hk,IY _ _ _ k hk,IY _ _ _ k hk,IY _ _ _ k hk,IY _ _ _ k hk]
  have VX:=hk g (λe=>Hp e.symm);have hr:=qU.out.2.trans pF.out.2;refine⟨⟨?_,?_,by simpa using pF.out.1.hg⟩,⟨hr.os,hr.tape,hr.output,by simpa using hr.size,λk jn jJ=>(hk k (by omega)).trans (hr.block k jn jJ)⟩⟩
  .have:=pF.out.1.c0
   simp only[World.cell?] at this ⊢;rw[VX];exact this
  .have:=pF.out.1.hz
   simp only[Is] at this ⊢;rw[VX];exact this
 clear z0 z1 z2 z3 z4;have tn:=HW.out (U O x') (U O y') (U O z') (U O u') (U O v');have gZ:Hid _:=tn;clear tn;simp[bodyPost,results,Tryz.results190,go_sem,c0,c1,c2,c3,c4];exact gZ.out
end Go.Proofs.YtfidhgjmifendaaGreatDoor
