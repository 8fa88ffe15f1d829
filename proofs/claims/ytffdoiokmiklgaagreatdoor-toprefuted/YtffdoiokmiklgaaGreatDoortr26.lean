import Derived.Test.YtffdoiokmiklgaaGreatDoortr25
namespace Go.Proofs.YtffdoiokmiklgaaGreatDoor
open Go.RowKit
def rdP (l:List UInt8):Option ((Int × Int × Int × Int × Int) × List UInt8):=
 (rdN l).bind fun a=>(rdN a.2).bind fun b=>(rdN b.2).bind fun c=>(rdN c.2).bind fun d=>(rdN d.2).bind fun e=>some ((a.1,b.1,c.1,d.1,e.1),e.2)
set_option maxHeartbeats 3200000 in
set_option maxRecDepth 100000 in
theorem place_ok {B g:Nat} {l r:List UInt8} {x y z u v:Int} {w:World} (hV:Rv B w) (hBg:B≤g) (h:IsP g l w) (hs:l.length≤140737488355328) (hl:rdP l=some ((x,y,z,u,v),r)) :
 Calls Tryz.prog 175 #[.pointer (some ⟨g,0,none⟩)] w fun e w'=>e=.returned (.agg #[.int .i64 x,.int .i64 y,.int .i64 z,.int .i64 u,.int .i64 v])∧IsP g r w'∧Rp g w w':=by
 unfold rdP at hl
 simp only [Option.bind_eq_some_iff,Option.some.injEq,Prod.mk.injEq] at hl
 obtain ⟨⟨x',r1⟩,n1,⟨y',r2⟩,n2,⟨z',r3⟩,n3,⟨u',r4⟩,n4,⟨v',r5⟩,n5,⟨rfl,rfl,rfl,rfl,rfl⟩,rfl⟩:=hl
 simp only at n1 n2 n3 n4 n5 ⊢
 have l1:=(rdN_in n1).2
 have l2:=(rdN_in n2).2
 have l3:=(rdN_in n3).2
 have l4:=(rdN_in n4).2
 have HN:Hid (∀ W,Rv B W→∀ {a b:List UInt8} {n:Int},rdN a=some (n,b)→a.length≤l.length→IsP g a W→Calls Tryz.prog 168 #[.pointer (some ⟨g,0,none⟩)] W fun e w'=>e=.returned (.int .i64 n)∧IsP g b w'∧Rp g W w'):=fun W hW _ _ _ hn hal hp=>num_ok hW hp (by omega) hn
 obtain ⟨W0,hW0⟩:∃ W0,W0=w.alloc (.cells #[.int .i64 0,.int .i64 0,.int .i64 0,.int .i64 0,.int .i64 0] 40):=⟨_,rfl⟩
 have hb0:Below w.heap.size w W0:=by rw [hW0];exact (Below.refl _ _).alloc (Nat.le_refl _) _
 have hg0:W0.heap[w.heap.size]?=some (.cells #[.int .i64 0,.int .i64 0,.int .i64 0,.int .i64 0,.int .i64 0] 40 (0,0)):=by rw [hW0];exact heap_alloc_new w _
 have HP0:Hid (IsP g l W0∧Rp g w W0):=⟨h.below hb0,Rp.of_below hb0 (Nat.le_refl _)⟩
 have HV:Hid (Rv B w):=hV
 have HBG:Hid (B≤g):=hBg
 have hgn:w.heap.size≠g:=by have:=h.hg;omega
 have HG0:Hid (W0.heap[w.heap.size]?=some (.cells #[.int .i64 0,.int .i64 0,.int .i64 0,.int .i64 0,.int .i64 0] 40 (0,0))):=hg0
 have HL:Hid (rdN l=some (x',r1)∧rdN r1=some (y',r2)∧rdN r2=some (z',r3)∧rdN r3=some (u',r4)∧rdN r4=some (v',r5)):=⟨n1,n2,n3,n4,n5⟩
 have HLL:Hid (r1.length≤l.length∧r2.length≤l.length∧r3.length≤l.length∧r4.length≤l.length):=⟨by omega,by omega,by omega,by omega⟩
 clear n1 n2 n3 n4 n5 l1 l2 l3 l4 h hV hBg hb0 hg0 hs
 go_enter Tryz.func175,Tryz.ntmps175
 go_wp2_with fail
 rw [← hW0]
 clear hW0
 refine (HN.out W0 (HV.out.rp HBG.out HP0.out.2) HL.out.1 (Nat.le_refl _) HP0.out.1).mono ?_
 rintro e w1 ⟨rfl,p1,q1⟩
 have HP1:Hid (IsP g r1 w1∧Rp g W0 w1):=⟨p1,q1⟩
 clear p1 q1
 go_wp2_with fail
 refine (HN.out w1 ((HV.out.rp HBG.out HP0.out.2).rp HBG.out HP1.out.2) HL.out.2.1 HLL.out.1 HP1.out.1).mono ?_
 rintro e w2 ⟨rfl,p1,q1⟩
 have HP2:Hid (IsP g r2 w2∧Rp g W0 w2):=⟨p1,HP1.out.2.trans q1⟩
 clear p1 q1
 go_wp2_with fail
 refine (HN.out w2 ((HV.out.rp HBG.out HP0.out.2).rp HBG.out HP2.out.2) HL.out.2.2.1 HLL.out.2.1 HP2.out.1).mono ?_
 rintro e w3 ⟨rfl,p1,q1⟩
 have HP3:Hid (IsP g r3 w3∧Rp g W0 w3):=⟨p1,HP2.out.2.trans q1⟩
 clear p1 q1
 go_wp2_with fail
 refine (HN.out w3 ((HV.out.rp HBG.out HP0.out.2).rp HBG.out HP3.out.2) HL.out.2.2.2.1 HLL.out.2.2.1 HP3.out.1).mono ?_
 rintro e w4 ⟨rfl,p1,q1⟩
 have HP4:Hid (IsP g r4 w4∧Rp g W0 w4):=⟨p1,HP3.out.2.trans q1⟩
 clear p1 q1
 go_wp2_with fail
 refine (HN.out w4 ((HV.out.rp HBG.out HP0.out.2).rp HBG.out HP4.out.2) HL.out.2.2.2.2 HLL.out.2.2.2 HP4.out.1).mono ?_
 rintro e w5 ⟨rfl,p1,q1⟩
 have HP5:Hid (IsP g r5 w5∧Rp g W0 w5):=⟨p1,HP4.out.2.trans q1⟩
 clear p1 q1
 have g5:w5.heap[w.heap.size]?=some (.cells #[.int .i64 0,.int .i64 0,.int .i64 0,.int .i64 0,.int .i64 0] 40 (0,0)):=(HP5.out.2.block _ (Array.getElem?_eq_some_iff.1 HG0.out).1 hgn).trans HG0.out
 have c0:w5.cell? ⟨w.heap.size,0,none⟩=some (.int .i64 0):=cellsAt g5 0
 have c1:w5.cell? ⟨w.heap.size,1,none⟩=some (.int .i64 0):=cellsAt g5 1
 have c2:w5.cell? ⟨w.heap.size,2,none⟩=some (.int .i64 0):=cellsAt g5 2
 have c3:w5.cell? ⟨w.heap.size,3,none⟩=some (.int .i64 0):=cellsAt g5 3
 have c4:w5.cell? ⟨w.heap.size,4,none⟩=some (.int .i64 0):=cellsAt g5 4
 have z0:w5.frozen? ⟨w.heap.size,0,none⟩=false:=by simp [World.frozen?,g5]
 have z1:w5.frozen? ⟨w.heap.size,1,none⟩=false:=by simp [World.frozen?,g5]
 have z2:w5.frozen? ⟨w.heap.size,2,none⟩=false:=by simp [World.frozen?,g5]
 have z3:w5.frozen? ⟨w.heap.size,3,none⟩=false:=by simp [World.frozen?,g5]
 have z4:w5.frozen? ⟨w.heap.size,4,none⟩=false:=by simp [World.frozen?,g5]
 clear g5
 go_wp2_with fail
 have HW:Hid (∀ a b c d e:Value,IsP g r5 (((((w5.setCell ⟨w.heap.size,0,none⟩ a).setCell ⟨w.heap.size,1,none⟩ b).setCell ⟨w.heap.size,2,none⟩ c).setCell ⟨w.heap.size,3,none⟩ d).setCell ⟨w.heap.size,4,none⟩ e)∧Rp g w (((((w5.setCell ⟨w.heap.size,0,none⟩ a).setCell ⟨w.heap.size,1,none⟩ b).setCell ⟨w.heap.size,2,none⟩ c).setCell ⟨w.heap.size,3,none⟩ d).setCell ⟨w.heap.size,4,none⟩ e)):=fun a b c d e=>by
  have hk:∀ k,k≠w.heap.size→(((((w5.setCell ⟨w.heap.size,0,none⟩ a).setCell ⟨w.heap.size,1,none⟩ b).setCell ⟨w.heap.size,2,none⟩ c).setCell ⟨w.heap.size,3,none⟩ d).setCell ⟨w.heap.size,4,none⟩ e).heap[k]?=w5.heap[k]?:=fun k hk=>by
   rw [Below.heap_setCell _ _ _ k hk,Below.heap_setCell _ _ _ k hk,Below.heap_setCell _ _ _ k hk,Below.heap_setCell _ _ _ k hk,Below.heap_setCell _ _ _ k hk]
  have hgk:=hk g (fun e=>hgn e.symm)
  have hr:=HP0.out.2.trans HP5.out.2
  refine ⟨⟨?_,?_,by simpa using HP5.out.1.hg⟩,⟨hr.os,hr.tape,hr.output,by simpa using hr.size,fun k hk1 hk2=>(hk k (by omega)).trans (hr.block k hk1 hk2)⟩⟩
  ·have:=HP5.out.1.c0
   simp only [World.cell?] at this ⊢
   rw [hgk];exact this
  ·have:=HP5.out.1.hz
   simp only [World.frozen?] at this ⊢
   rw [hgk];exact this
 clear z0 z1 z2 z3 z4
 have hres:=HW.out (.int .i64 x') (.int .i64 y') (.int .i64 z') (.int .i64 u') (.int .i64 v')
 have HRES:Hid (_∧_):=hres
 clear hres
 simp [bodyPost,results,Tryz.results175,go_sem,c0,c1,c2,c3,c4]
 exact HRES.out
set_option maxHeartbeats 3200000 in
set_option maxRecDepth 100000 in
theorem place_no0 {B g:Nat} {l:List UInt8} {w:World} (hV:Rv B w) (hBg:B≤g) (h:IsP g l w) (hs:l.length≤140737488355328) (hn:rdN l=none) :
 Calls Tryz.prog 175 #[.pointer (some ⟨g,0,none⟩)] w fun e w'=>e=outP 1∧Rp g w w':=by
 have HN:Hid (∀ W,Rv B W→∀ {a b:List UInt8} {n:Int},rdN a=some (n,b)→a.length≤l.length→IsP g a W→Calls Tryz.prog 168 #[.pointer (some ⟨g,0,none⟩)] W fun e w'=>e=.returned (.int .i64 n)∧IsP g b w'∧Rp g W w'):=fun W hW _ _ _ hn hal hp=>num_ok hW hp (by omega) hn
 have HF:Hid (∀ W,Rv B W→IsP g l W→Calls Tryz.prog 168 #[.pointer (some ⟨g,0,none⟩)] W fun e w'=>e=outP 1∧Rp g W w'):=fun W hW hp=>num_no hW hp (by omega) hn
 obtain ⟨W0,hW0⟩:∃ W0,W0=w.alloc (.cells #[.int .i64 0,.int .i64 0,.int .i64 0,.int .i64 0,.int .i64 0] 40):=⟨_,rfl⟩
 have hb0:Below w.heap.size w W0:=by rw [hW0];exact (Below.refl _ _).alloc (Nat.le_refl _) _
 have HP0:Hid (IsP g l W0∧Rp g w W0):=⟨h.below hb0,Rp.of_below hb0 (Nat.le_refl _)⟩
 have HV:Hid (Rv B W0):=hV.rp hBg HP0.out.2
 have HBG:Hid (B≤g):=hBg
 clear  hn h hV hBg hb0 hs
 go_enter Tryz.func175,Tryz.ntmps175
 go_wp2_with fail
 rw [← hW0]
 clear hW0
 refine (HF.out W0 HV.out HP0.out.1).mono ?_
 rintro e w9 ⟨rfl,hr⟩
 exact ⟨rfl,rfl,HP0.out.2.trans hr⟩
set_option maxHeartbeats 3200000 in
set_option maxRecDepth 100000 in
theorem place_no1 {B g:Nat} {l:List UInt8} {x1:Int} {r1:List UInt8} {w:World} (hV:Rv B w) (hBg:B≤g) (h:IsP g l w) (hs:l.length≤140737488355328) (n1:rdN l=some (x1,r1)) (hn:rdN r1=none) :
 Calls Tryz.prog 175 #[.pointer (some ⟨g,0,none⟩)] w fun e w'=>e=outP 1∧Rp g w w':=by
 have l1:=(rdN_in n1).2
 have HN:Hid (∀ W,Rv B W→∀ {a b:List UInt8} {n:Int},rdN a=some (n,b)→a.length≤l.length→IsP g a W→Calls Tryz.prog 168 #[.pointer (some ⟨g,0,none⟩)] W fun e w'=>e=.returned (.int .i64 n)∧IsP g b w'∧Rp g W w'):=fun W hW _ _ _ hn hal hp=>num_ok hW hp (by omega) hn
 have HF:Hid (∀ W,Rv B W→IsP g r1 W→Calls Tryz.prog 168 #[.pointer (some ⟨g,0,none⟩)] W fun e w'=>e=outP 1∧Rp g W w'):=fun W hW hp=>num_no hW hp (by omega) hn
 obtain ⟨W0,hW0⟩:∃ W0,W0=w.alloc (.cells #[.int .i64 0,.int .i64 0,.int .i64 0,.int .i64 0,.int .i64 0] 40):=⟨_,rfl⟩
 have hb0:Below w.heap.size w W0:=by rw [hW0];exact (Below.refl _ _).alloc (Nat.le_refl _) _
 have HP0:Hid (IsP g l W0∧Rp g w W0):=⟨h.below hb0,Rp.of_below hb0 (Nat.le_refl _)⟩
 have HV:Hid (Rv B W0):=hV.rp hBg HP0.out.2
 have HBG:Hid (B≤g):=hBg
 have HL1:Hid (rdN l=some (x1,r1)∧l.length≤l.length):=⟨n1,by omega⟩
 clear n1 l1 hn h hV hBg hb0 hs
 go_enter Tryz.func175,Tryz.ntmps175
 go_wp2_with fail
 rw [← hW0]
 clear hW0
 refine (HN.out W0 HV.out HL1.out.1 HL1.out.2 HP0.out.1).mono ?_
 rintro e w1 ⟨rfl,p1,q1⟩
 have HP1:Hid (IsP g r1 w1∧Rp g W0 w1):=⟨p1,q1⟩
 clear p1 q1
 go_wp2_with fail
 refine (HF.out w1 (HV.out.rp HBG.out HP1.out.2) HP1.out.1).mono ?_
 rintro e w9 ⟨rfl,hr⟩
 exact ⟨rfl,rfl,HP0.out.2.trans (HP1.out.2.trans hr)⟩
set_option maxHeartbeats 3200000 in
set_option maxRecDepth 100000 in
theorem place_no2 {B g:Nat} {l:List UInt8} {x1 x2:Int} {r1 r2:List UInt8} {w:World} (hV:Rv B w) (hBg:B≤g) (h:IsP g l w) (hs:l.length≤140737488355328) (n1:rdN l=some (x1,r1)) (n2:rdN r1=some (x2,r2)) (hn:rdN r2=none) :
 Calls Tryz.prog 175 #[.pointer (some ⟨g,0,none⟩)] w fun e w'=>e=outP 1∧Rp g w w':=by
 have l1:=(rdN_in n1).2
 have l2:=(rdN_in n2).2
 have HN:Hid (∀ W,Rv B W→∀ {a b:List UInt8} {n:Int},rdN a=some (n,b)→a.length≤l.length→IsP g a W→Calls Tryz.prog 168 #[.pointer (some ⟨g,0,none⟩)] W fun e w'=>e=.returned (.int .i64 n)∧IsP g b w'∧Rp g W w'):=fun W hW _ _ _ hn hal hp=>num_ok hW hp (by omega) hn
 have HF:Hid (∀ W,Rv B W→IsP g r2 W→Calls Tryz.prog 168 #[.pointer (some ⟨g,0,none⟩)] W fun e w'=>e=outP 1∧Rp g W w'):=fun W hW hp=>num_no hW hp (by omega) hn
 obtain ⟨W0,hW0⟩:∃ W0,W0=w.alloc (.cells #[.int .i64 0,.int .i64 0,.int .i64 0,.int .i64 0,.int .i64 0] 40):=⟨_,rfl⟩
 have hb0:Below w.heap.size w W0:=by rw [hW0];exact (Below.refl _ _).alloc (Nat.le_refl _) _
 have HP0:Hid (IsP g l W0∧Rp g w W0):=⟨h.below hb0,Rp.of_below hb0 (Nat.le_refl _)⟩
 have HV:Hid (Rv B W0):=hV.rp hBg HP0.out.2
 have HBG:Hid (B≤g):=hBg
 have HL1:Hid (rdN l=some (x1,r1)∧l.length≤l.length):=⟨n1,by omega⟩
 have HL2:Hid (rdN r1=some (x2,r2)∧r1.length≤l.length):=⟨n2,by omega⟩
 clear n1 l1 n2 l2 hn h hV hBg hb0 hs
 go_enter Tryz.func175,Tryz.ntmps175
 go_wp2_with fail
 rw [← hW0]
 clear hW0
 refine (HN.out W0 HV.out HL1.out.1 HL1.out.2 HP0.out.1).mono ?_
 rintro e w1 ⟨rfl,p1,q1⟩
 have HP1:Hid (IsP g r1 w1∧Rp g W0 w1):=⟨p1,q1⟩
 clear p1 q1
 go_wp2_with fail
 refine (HN.out w1 (HV.out.rp HBG.out HP1.out.2) HL2.out.1 HL2.out.2 HP1.out.1).mono ?_
 rintro e w2 ⟨rfl,p1,q1⟩
 have HP2:Hid (IsP g r2 w2∧Rp g W0 w2):=⟨p1,(HP1.out.2.trans q1)⟩
 clear p1 q1
 go_wp2_with fail
 refine (HF.out w2 (HV.out.rp HBG.out HP2.out.2) HP2.out.1).mono ?_
 rintro e w9 ⟨rfl,hr⟩
 exact ⟨rfl,rfl,HP0.out.2.trans (HP2.out.2.trans hr)⟩
set_option maxHeartbeats 3200000 in
set_option maxRecDepth 100000 in
theorem place_no3 {B g:Nat} {l:List UInt8} {x1 x2 x3:Int} {r1 r2 r3:List UInt8} {w:World} (hV:Rv B w) (hBg:B≤g) (h:IsP g l w) (hs:l.length≤140737488355328) (n1:rdN l=some (x1,r1)) (n2:rdN r1=some (x2,r2)) (n3:rdN r2=some (x3,r3)) (hn:rdN r3=none) :
 Calls Tryz.prog 175 #[.pointer (some ⟨g,0,none⟩)] w fun e w'=>e=outP 1∧Rp g w w':=by
 have l1:=(rdN_in n1).2
 have l2:=(rdN_in n2).2
 have l3:=(rdN_in n3).2
 have HN:Hid (∀ W,Rv B W→∀ {a b:List UInt8} {n:Int},rdN a=some (n,b)→a.length≤l.length→IsP g a W→Calls Tryz.prog 168 #[.pointer (some ⟨g,0,none⟩)] W fun e w'=>e=.returned (.int .i64 n)∧IsP g b w'∧Rp g W w'):=fun W hW _ _ _ hn hal hp=>num_ok hW hp (by omega) hn
 have HF:Hid (∀ W,Rv B W→IsP g r3 W→Calls Tryz.prog 168 #[.pointer (some ⟨g,0,none⟩)] W fun e w'=>e=outP 1∧Rp g W w'):=fun W hW hp=>num_no hW hp (by omega) hn
 obtain ⟨W0,hW0⟩:∃ W0,W0=w.alloc (.cells #[.int .i64 0,.int .i64 0,.int .i64 0,.int .i64 0,.int .i64 0] 40):=⟨_,rfl⟩
 have hb0:Below w.heap.size w W0:=by rw [hW0];exact (Below.refl _ _).alloc (Nat.le_refl _) _
 have HP0:Hid (IsP g l W0∧Rp g w W0):=⟨h.below hb0,Rp.of_below hb0 (Nat.le_refl _)⟩
 have HV:Hid (Rv B W0):=hV.rp hBg HP0.out.2
 have HBG:Hid (B≤g):=hBg
 have HL1:Hid (rdN l=some (x1,r1)∧l.length≤l.length):=⟨n1,by omega⟩
 have HL2:Hid (rdN r1=some (x2,r2)∧r1.length≤l.length):=⟨n2,by omega⟩
 have HL3:Hid (rdN r2=some (x3,r3)∧r2.length≤l.length):=⟨n3,by omega⟩
 clear n1 l1 n2 l2 n3 l3 hn h hV hBg hb0 hs
 go_enter Tryz.func175,Tryz.ntmps175
 go_wp2_with fail
 rw [← hW0]
 clear hW0
 refine (HN.out W0 HV.out HL1.out.1 HL1.out.2 HP0.out.1).mono ?_
 rintro e w1 ⟨rfl,p1,q1⟩
 have HP1:Hid (IsP g r1 w1∧Rp g W0 w1):=⟨p1,q1⟩
 clear p1 q1
 go_wp2_with fail
 refine (HN.out w1 (HV.out.rp HBG.out HP1.out.2) HL2.out.1 HL2.out.2 HP1.out.1).mono ?_
 rintro e w2 ⟨rfl,p1,q1⟩
 have HP2:Hid (IsP g r2 w2∧Rp g W0 w2):=⟨p1,(HP1.out.2.trans q1)⟩
 clear p1 q1
 go_wp2_with fail
 refine (HN.out w2 (HV.out.rp HBG.out HP2.out.2) HL3.out.1 HL3.out.2 HP2.out.1).mono ?_
 rintro e w3 ⟨rfl,p1,q1⟩
 have HP3:Hid (IsP g r3 w3∧Rp g W0 w3):=⟨p1,(HP2.out.2.trans q1)⟩
 clear p1 q1
 go_wp2_with fail
 refine (HF.out w3 (HV.out.rp HBG.out HP3.out.2) HP3.out.1).mono ?_
 rintro e w9 ⟨rfl,hr⟩
 exact ⟨rfl,rfl,HP0.out.2.trans (HP3.out.2.trans hr)⟩
set_option maxHeartbeats 3200000 in
set_option maxRecDepth 100000 in
theorem place_no4 {B g:Nat} {l:List UInt8} {x1 x2 x3 x4:Int} {r1 r2 r3 r4:List UInt8} {w:World} (hV:Rv B w) (hBg:B≤g) (h:IsP g l w) (hs:l.length≤140737488355328) (n1:rdN l=some (x1,r1)) (n2:rdN r1=some (x2,r2)) (n3:rdN r2=some (x3,r3)) (n4:rdN r3=some (x4,r4)) (hn:rdN r4=none) :
 Calls Tryz.prog 175 #[.pointer (some ⟨g,0,none⟩)] w fun e w'=>e=outP 1∧Rp g w w':=by
 have l1:=(rdN_in n1).2
 have l2:=(rdN_in n2).2
 have l3:=(rdN_in n3).2
 have l4:=(rdN_in n4).2
 have HN:Hid (∀ W,Rv B W→∀ {a b:List UInt8} {n:Int},rdN a=some (n,b)→a.length≤l.length→IsP g a W→Calls Tryz.prog 168 #[.pointer (some ⟨g,0,none⟩)] W fun e w'=>e=.returned (.int .i64 n)∧IsP g b w'∧Rp g W w'):=fun W hW _ _ _ hn hal hp=>num_ok hW hp (by omega) hn
 have HF:Hid (∀ W,Rv B W→IsP g r4 W→Calls Tryz.prog 168 #[.pointer (some ⟨g,0,none⟩)] W fun e w'=>e=outP 1∧Rp g W w'):=fun W hW hp=>num_no hW hp (by omega) hn
 obtain ⟨W0,hW0⟩:∃ W0,W0=w.alloc (.cells #[.int .i64 0,.int .i64 0,.int .i64 0,.int .i64 0,.int .i64 0] 40):=⟨_,rfl⟩
 have hb0:Below w.heap.size w W0:=by rw [hW0];exact (Below.refl _ _).alloc (Nat.le_refl _) _
 have HP0:Hid (IsP g l W0∧Rp g w W0):=⟨h.below hb0,Rp.of_below hb0 (Nat.le_refl _)⟩
 have HV:Hid (Rv B W0):=hV.rp hBg HP0.out.2
 have HBG:Hid (B≤g):=hBg
 have HL1:Hid (rdN l=some (x1,r1)∧l.length≤l.length):=⟨n1,by omega⟩
 have HL2:Hid (rdN r1=some (x2,r2)∧r1.length≤l.length):=⟨n2,by omega⟩
 have HL3:Hid (rdN r2=some (x3,r3)∧r2.length≤l.length):=⟨n3,by omega⟩
 have HL4:Hid (rdN r3=some (x4,r4)∧r3.length≤l.length):=⟨n4,by omega⟩
 clear n1 l1 n2 l2 n3 l3 n4 l4 hn h hV hBg hb0 hs
 go_enter Tryz.func175,Tryz.ntmps175
 go_wp2_with fail
 rw [← hW0]
 clear hW0
 refine (HN.out W0 HV.out HL1.out.1 HL1.out.2 HP0.out.1).mono ?_
 rintro e w1 ⟨rfl,p1,q1⟩
 have HP1:Hid (IsP g r1 w1∧Rp g W0 w1):=⟨p1,q1⟩
 clear p1 q1
 go_wp2_with fail
 refine (HN.out w1 (HV.out.rp HBG.out HP1.out.2) HL2.out.1 HL2.out.2 HP1.out.1).mono ?_
 rintro e w2 ⟨rfl,p1,q1⟩
 have HP2:Hid (IsP g r2 w2∧Rp g W0 w2):=⟨p1,(HP1.out.2.trans q1)⟩
 clear p1 q1
 go_wp2_with fail
 refine (HN.out w2 (HV.out.rp HBG.out HP2.out.2) HL3.out.1 HL3.out.2 HP2.out.1).mono ?_
 rintro e w3 ⟨rfl,p1,q1⟩
 have HP3:Hid (IsP g r3 w3∧Rp g W0 w3):=⟨p1,(HP2.out.2.trans q1)⟩
 clear p1 q1
 go_wp2_with fail
 refine (HN.out w3 (HV.out.rp HBG.out HP3.out.2) HL4.out.1 HL4.out.2 HP3.out.1).mono ?_
 rintro e w4 ⟨rfl,p1,q1⟩
 have HP4:Hid (IsP g r4 w4∧Rp g W0 w4):=⟨p1,(HP3.out.2.trans q1)⟩
 clear p1 q1
 go_wp2_with fail
 refine (HF.out w4 (HV.out.rp HBG.out HP4.out.2) HP4.out.1).mono ?_
 rintro e w9 ⟨rfl,hr⟩
 exact ⟨rfl,rfl,HP0.out.2.trans (HP4.out.2.trans hr)⟩
theorem place_no {B g:Nat} {l:List UInt8} {w:World} (hV:Rv B w) (hBg:B≤g) (h:IsP g l w) (hs:l.length≤140737488355328) (hl:rdP l=none) :
 Calls Tryz.prog 175 #[.pointer (some ⟨g,0,none⟩)] w fun e w'=>e=outP 1∧Rp g w w':=by
 unfold rdP at hl
 cases n1:rdN l with
 | none=>exact place_no0 hV hBg h hs n1
 | some a=>
 obtain ⟨x1,r1⟩:=a
 cases n2:rdN r1 with
 | none=>exact place_no1 hV hBg h hs n1 n2
 | some a=>
 obtain ⟨x2,r2⟩:=a
 cases n3:rdN r2 with
 | none=>exact place_no2 hV hBg h hs n1 n2 n3
 | some a=>
 obtain ⟨x3,r3⟩:=a
 cases n4:rdN r3 with
 | none=>exact place_no3 hV hBg h hs n1 n2 n3 n4
 | some a=>
 obtain ⟨x4,r4⟩:=a
 cases n5:rdN r4 with
 | none=>exact place_no4 hV hBg h hs n1 n2 n3 n4 n5
 | some a=>simp [n1,n2,n3,n4,n5] at hl
end Go.Proofs.YtffdoiokmiklgaaGreatDoor
