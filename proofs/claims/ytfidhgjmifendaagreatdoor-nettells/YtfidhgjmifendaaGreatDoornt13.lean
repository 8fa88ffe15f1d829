import Derived.Test.YtfidhgjmifendaaGreatDoornt12
set_option maxHeartbeats 3200000
set_option maxRecDepth 100000
open Option renaming some→AI,none→be
open Go.Value renaming int→U
open Go.IntKind renaming i64→O
open Go.World renaming frozen?→Ir
open Go.RowKit.Below renaming heap_setCell→IX
namespace Go.Proofs.YtfidhgjmifendaaGreatDoor
open Go.RowKit
def LA(l:List UInt8):Option ((Int×Int×Int×Int×Int)×List UInt8):=
 (mH l).bind λa=>(mH a.2).bind λb=>(mH b.2).bind λc=>(mH c.2).bind λd=>(mH d.2).bind λe=>AI ((a.1,b.1,c.1,d.1,e.1),e.2)
theorem GK{B g:Nat}{l r:List UInt8}{x y z u v:Int}{w:World}(hV:Rv B w)(gF:B<=g)(h:kd g l w)(hs:l.length<=140737488355328)(hl:LA l=AI ((x,y,z,u,v),r)) :
 aF 190 #[.pointer (AI ⟨g,0,be⟩)] w λe w'=>e=.returned (.agg #[U O x,U O y,U O z,U O u,U O v])/\kd g r w'/\Rp g w w':=by
 unfold LA at hl;simp only[Option.bind_eq_some_iff,Option.some.injEq,Prod.mk.injEq] at hl;obtain⟨⟨x',r1⟩,n1,⟨y',r2⟩,n2,⟨z',r3⟩,n3,⟨u',r4⟩,n4,⟨v',r5⟩,n5,⟨rfl,rfl,rfl,rfl,rfl⟩,rfl⟩:=hl;simp only at n1 n2 n3 n4 n5 ⊢;have l1:=(db n1).2;have l2:=(db n2).2;have l3:=(db n3).2;have l4:=(db n4).2;have HN:Hid (∀W,Rv B W->∀{a b:List UInt8} {n:Int},mH a=AI (n,b)->a.length<=l.length->kd g a W->aF _ _ _ _):=λW hW _ _ _ hn hal hp=>wR hW hp (by omega) hn;obtain⟨W0,bJ,bM,-,dG⟩:=bW w #[U O 0,U O 0,U O 0,U O 0,U O 0] 39;have qo:Hid (kd g l W0/\Rp g w W0):=⟨h.below bM,Rp.cd bM (Nat.le_refl _)⟩;have HV:Hid _:=hV;have F7:Hid _:=gF;have GL:w.heap.size≠g:=by have:=h.hg;omega
 have AM:Hid _:=dG;have HL:Hid (mH l=AI (x',r1)/\mH r1=AI (y',r2)/\mH r2=AI (z',r3)/\mH r3=AI (u',r4)/\mH r4=AI (v',r5)):=⟨n1,n2,n3,n4,n5⟩;have DS:Hid (r1.length<=l.length/\r2.length<=l.length/\r3.length<=l.length/\r4.length<=l.length):=⟨by omega,by omega,by omega,by omega⟩;clear n1 n2 n3 n4 n5 l1 l2 l3 l4 h hV gF bM dG hs;go_enter Tryz.func190,Tryz.ntmps190;go_wp2_with fail;rw[<- bJ];clear bJ;refine(HN.out W0 (HV.out.rp F7.out qo.out.2) HL.out.1 (Nat.le_refl _) qo.out.1).mono ?_;rintro e w1 ⟨rfl,p1,q1⟩;have mf:Hid (kd g r1 w1/\Rp g W0 w1):=⟨p1,q1⟩;clear p1 q1;go_wp2_with fail;refine(HN.out w1 ((HV.out.rp F7.out qo.out.2).rp F7.out mf.out.2) HL.out.2.1 DS.out.1 mf.out.1).mono ?_;rintro e w2 ⟨rfl,p1,q1⟩;have od:Hid (kd g r2 w2/\Rp g W0 w2):=⟨p1,mf.out.2.trans q1⟩;clear p1 q1;go_wp2_with fail;refine(HN.out w2 ((HV.out.rp F7.out qo.out.2).rp F7.out od.out.2) HL.out.2.2.1 DS.out.2.1 od.out.1).mono ?_;rintro e w3 ⟨rfl,p1,q1⟩;have sK:Hid (kd g r3 w3/\Rp g W0 w3):=⟨p1,od.out.2.trans q1⟩;clear p1 q1;go_wp2_with fail;refine(HN.out w3 ((HV.out.rp F7.out qo.out.2).rp F7.out sK.out.2) HL.out.2.2.2.1 DS.out.2.2.1 sK.out.1).mono ?_;rintro e w4 ⟨rfl,p1,q1⟩;have AV:Hid (kd g r4 w4/\Rp g W0 w4):=⟨p1,sK.out.2.trans q1⟩;clear p1 q1;go_wp2_with fail;refine(HN.out w4 ((HV.out.rp F7.out qo.out.2).rp F7.out AV.out.2) HL.out.2.2.2.2 DS.out.2.2.2 AV.out.1).mono ?_;rintro e w5 ⟨rfl,p1,q1⟩;have oO:Hid (kd g r5 w5/\Rp g W0 w5):=⟨p1,AV.out.2.trans q1⟩;clear p1 q1;have g5:=(oO.out.2.block _ (Array.getElem?_eq_some_iff.1 AM.out).1 GL).trans AM.out;have c0:=ae g5 0;have c1:=ae g5 1;have c2:=ae g5 2;have c3:=ae g5 3;have c4:=ae g5 4;have z0:w5.frozen? ⟨w.heap.size,0,be⟩=false:=by simp[Ir,g5]
 have z1:w5.frozen? ⟨w.heap.size,1,be⟩=false:=by simp[Ir,g5]
 have z2:w5.frozen? ⟨w.heap.size,2,be⟩=false:=by simp[Ir,g5]
 have z3:w5.frozen? ⟨w.heap.size,3,be⟩=false:=by simp[Ir,g5]
 have z4:w5.frozen? ⟨w.heap.size,4,be⟩=false:=by simp[Ir,g5]
 clear g5;go_wp2_with fail;have HW:Hid (∀a b c d e:Value,kd g r5 (((((w5.setCell ⟨w.heap.size,0,be⟩ a).setCell ⟨w.heap.size,1,be⟩ b).setCell ⟨w.heap.size,2,be⟩ c).setCell ⟨w.heap.size,3,be⟩ d).setCell ⟨w.heap.size,4,be⟩ e)/\Rp g w (((((w5.setCell ⟨w.heap.size,0,be⟩ a).setCell ⟨w.heap.size,1,be⟩ b).setCell ⟨w.heap.size,2,be⟩ c).setCell ⟨w.heap.size,3,be⟩ d).setCell ⟨w.heap.size,4,be⟩ e)):=λa b c d e=>by
  have hk:∀k,k≠w.heap.size->(((((w5.setCell ⟨w.heap.size,0,be⟩ a).setCell ⟨w.heap.size,1,be⟩ b).setCell ⟨w.heap.size,2,be⟩ c).setCell ⟨w.heap.size,3,be⟩ d).setCell ⟨w.heap.size,4,be⟩ e).heap[k]?=w5.heap[k]?:=λk hk=>by
   rw[IX _ _ _ k hk,IX _ _ _ k hk,IX _ _ _ k hk,IX _ _ _ k hk,IX _ _ _ k hk]
  have Vw:=hk g (λe=>GL e.symm);have hr:=qo.out.2.trans oO.out.2;refine⟨⟨?_,?_,by simpa using oO.out.1.hg⟩,⟨hr.os,hr.tape,hr.output,by simpa using hr.size,λk jq jz=>(hk k (by omega)).trans (hr.block k jq jz)⟩⟩
  .have:=oO.out.1.c0
   simp only[World.cell?] at this ⊢;rw[Vw];exact this
  .have:=oO.out.1.hz
   simp only[Ir] at this ⊢;rw[Vw];exact this
 clear z0 z1 z2 z3 z4;have sL:=HW.out (U O x') (U O y') (U O z') (U O u') (U O v');have gN:Hid _:=sL;clear sL;simp[bodyPost,results,Tryz.results190,go_sem,c0,c1,c2,c3,c4];exact gN.out
end Go.Proofs.YtfidhgjmifendaaGreatDoor
