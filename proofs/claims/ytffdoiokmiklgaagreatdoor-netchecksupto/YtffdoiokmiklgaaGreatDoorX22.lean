import Derived.Test.YtffdoiokmiklgaaGreatDoorX21
namespace Go.Proofs.YtffdoiokmiklgaaGreatDoor
open Go.RowKit
set_option maxHeartbeats 3200000 in
set_option maxRecDepth 100000 in
theorem place_no0 {B g:Nat} {l:List UInt8} {w:World} (hV:Rv B w) (hBg:B≤g) (h:IsP g l w) (hs:l.length≤140737488355328) (hn:rdN l=none) :
 Calls Tryz.prog 175 #[.pointer (some ⟨g,0,none⟩)] w fun e w'=>e=outP 1∧Rp g w w':=by
 have HN:Hid (∀ W,Rv B W→∀ {a b:List UInt8} {n:Int},rdN a=some (n,b)→a.length≤l.length→IsP g a W→Calls Tryz.prog 168 #[.pointer (some ⟨g,0,none⟩)] W fun e w'=>e=.returned (.int .i64 n)∧IsP g b w'∧Rp g W w'):=fun W hW _ _ _ hn hal hp=>num_ok hW hp (by omega) hn
 have HF:Hid (∀ W,Rv B W→IsP g l W→Calls Tryz.prog 168 #[.pointer (some ⟨g,0,none⟩)] W fun e w'=>e=outP 1∧Rp g W w'):=fun W hW hp=>num_no hW hp (by omega) hn
 obtain ⟨W0,hW0⟩:∃ W0,W0=w.alloc (.cells #[.int .i64 0,.int .i64 0,.int .i64 0,.int .i64 0,.int .i64 0] 40):=⟨_,rfl⟩
 have hb0:Below w.heap.size w W0:=by rw [hW0];exact (Below.refl _ _).alloc (Nat.le_refl _) _
 have HP0:Hid (IsP g l W0∧Rp g w W0):=⟨h.below hb0,Rp.of_below hb0 (Nat.le_refl _)⟩
 have HV:Hid (Rv B W0):=hV.rp hBg HP0.out.2
 have HBG:Hid (B≤g):=hBg
 clear  hn h hV hBg hb0 hs
 go_enter Tryz.func175,Tryz.ntmps175
 go_wp2_with fail
 rw [← hW0]
 clear hW0
 refine (HF.out W0 HV.out HP0.out.1).mono ?_
 rintro e w9 ⟨rfl,hr⟩
 exact ⟨rfl,rfl,HP0.out.2.trans hr⟩
set_option maxHeartbeats 3200000 in
set_option maxRecDepth 100000 in
theorem place_no1 {B g:Nat} {l:List UInt8} {x1:Int} {r1:List UInt8} {w:World} (hV:Rv B w) (hBg:B≤g) (h:IsP g l w) (hs:l.length≤140737488355328) (n1:rdN l=some (x1,r1)) (hn:rdN r1=none) :
 Calls Tryz.prog 175 #[.pointer (some ⟨g,0,none⟩)] w fun e w'=>e=outP 1∧Rp g w w':=by
 have l1:=(rdN_in n1).2
 have HN:Hid (∀ W,Rv B W→∀ {a b:List UInt8} {n:Int},rdN a=some (n,b)→a.length≤l.length→IsP g a W→Calls Tryz.prog 168 #[.pointer (some ⟨g,0,none⟩)] W fun e w'=>e=.returned (.int .i64 n)∧IsP g b w'∧Rp g W w'):=fun W hW _ _ _ hn hal hp=>num_ok hW hp (by omega) hn
 have HF:Hid (∀ W,Rv B W→IsP g r1 W→Calls Tryz.prog 168 #[.pointer (some ⟨g,0,none⟩)] W fun e w'=>e=outP 1∧Rp g W w'):=fun W hW hp=>num_no hW hp (by omega) hn
 obtain ⟨W0,hW0⟩:∃ W0,W0=w.alloc (.cells #[.int .i64 0,.int .i64 0,.int .i64 0,.int .i64 0,.int .i64 0] 40):=⟨_,rfl⟩
 have hb0:Below w.heap.size w W0:=by rw [hW0];exact (Below.refl _ _).alloc (Nat.le_refl _) _
 have HP0:Hid (IsP g l W0∧Rp g w W0):=⟨h.below hb0,Rp.of_below hb0 (Nat.le_refl _)⟩
 have HV:Hid (Rv B W0):=hV.rp hBg HP0.out.2
 have HBG:Hid (B≤g):=hBg
 have HL1:Hid (rdN l=some (x1,r1)∧l.length≤l.length):=⟨n1,by omega⟩
 clear n1 l1 hn h hV hBg hb0 hs
 go_enter Tryz.func175,Tryz.ntmps175
 go_wp2_with fail
 rw [← hW0]
 clear hW0
 refine (HN.out W0 HV.out HL1.out.1 HL1.out.2 HP0.out.1).mono ?_
 rintro e w1 ⟨rfl,p1,q1⟩
 have HP1:Hid (IsP g r1 w1∧Rp g W0 w1):=⟨p1,q1⟩
 clear p1 q1
 go_wp2_with fail
 refine (HF.out w1 (HV.out.rp HBG.out HP1.out.2) HP1.out.1).mono ?_
 rintro e w9 ⟨rfl,hr⟩
 exact ⟨rfl,rfl,HP0.out.2.trans (HP1.out.2.trans hr)⟩
set_option maxHeartbeats 3200000 in
set_option maxRecDepth 100000 in
theorem place_no2 {B g:Nat} {l:List UInt8} {x1 x2:Int} {r1 r2:List UInt8} {w:World} (hV:Rv B w) (hBg:B≤g) (h:IsP g l w) (hs:l.length≤140737488355328) (n1:rdN l=some (x1,r1)) (n2:rdN r1=some (x2,r2)) (hn:rdN r2=none) :
 Calls Tryz.prog 175 #[.pointer (some ⟨g,0,none⟩)] w fun e w'=>e=outP 1∧Rp g w w':=by
 have l1:=(rdN_in n1).2
 have l2:=(rdN_in n2).2
 have HN:Hid (∀ W,Rv B W→∀ {a b:List UInt8} {n:Int},rdN a=some (n,b)→a.length≤l.length→IsP g a W→Calls Tryz.prog 168 #[.pointer (some ⟨g,0,none⟩)] W fun e w'=>e=.returned (.int .i64 n)∧IsP g b w'∧Rp g W w'):=fun W hW _ _ _ hn hal hp=>num_ok hW hp (by omega) hn
 have HF:Hid (∀ W,Rv B W→IsP g r2 W→Calls Tryz.prog 168 #[.pointer (some ⟨g,0,none⟩)] W fun e w'=>e=outP 1∧Rp g W w'):=fun W hW hp=>num_no hW hp (by omega) hn
 obtain ⟨W0,hW0⟩:∃ W0,W0=w.alloc (.cells #[.int .i64 0,.int .i64 0,.int .i64 0,.int .i64 0,.int .i64 0] 40):=⟨_,rfl⟩
 have hb0:Below w.heap.size w W0:=by rw [hW0];exact (Below.refl _ _).alloc (Nat.le_refl _) _
 have HP0:Hid (IsP g l W0∧Rp g w W0):=⟨h.below hb0,Rp.of_below hb0 (Nat.le_refl _)⟩
 have HV:Hid (Rv B W0):=hV.rp hBg HP0.out.2
 have HBG:Hid (B≤g):=hBg
 have HL1:Hid (rdN l=some (x1,r1)∧l.length≤l.length):=⟨n1,by omega⟩
 have HL2:Hid (rdN r1=some (x2,r2)∧r1.length≤l.length):=⟨n2,by omega⟩
 clear n1 l1 n2 l2 hn h hV hBg hb0 hs
 go_enter Tryz.func175,Tryz.ntmps175
 go_wp2_with fail
 rw [← hW0]
 clear hW0
 refine (HN.out W0 HV.out HL1.out.1 HL1.out.2 HP0.out.1).mono ?_
 rintro e w1 ⟨rfl,p1,q1⟩
 have HP1:Hid (IsP g r1 w1∧Rp g W0 w1):=⟨p1,q1⟩
 clear p1 q1
 go_wp2_with fail
 refine (HN.out w1 (HV.out.rp HBG.out HP1.out.2) HL2.out.1 HL2.out.2 HP1.out.1).mono ?_
 rintro e w2 ⟨rfl,p1,q1⟩
 have HP2:Hid (IsP g r2 w2∧Rp g W0 w2):=⟨p1,(HP1.out.2.trans q1)⟩
 clear p1 q1
 go_wp2_with fail
 refine (HF.out w2 (HV.out.rp HBG.out HP2.out.2) HP2.out.1).mono ?_
 rintro e w9 ⟨rfl,hr⟩
 exact ⟨rfl,rfl,HP0.out.2.trans (HP2.out.2.trans hr)⟩
set_option maxHeartbeats 3200000 in
set_option maxRecDepth 100000 in
theorem place_no3 {B g:Nat} {l:List UInt8} {x1 x2 x3:Int} {r1 r2 r3:List UInt8} {w:World} (hV:Rv B w) (hBg:B≤g) (h:IsP g l w) (hs:l.length≤140737488355328) (n1:rdN l=some (x1,r1)) (n2:rdN r1=some (x2,r2)) (n3:rdN r2=some (x3,r3)) (hn:rdN r3=none) :
 Calls Tryz.prog 175 #[.pointer (some ⟨g,0,none⟩)] w fun e w'=>e=outP 1∧Rp g w w':=by
 have l1:=(rdN_in n1).2
 have l2:=(rdN_in n2).2
 have l3:=(rdN_in n3).2
 have HN:Hid (∀ W,Rv B W→∀ {a b:List UInt8} {n:Int},rdN a=some (n,b)→a.length≤l.length→IsP g a W→Calls Tryz.prog 168 #[.pointer (some ⟨g,0,none⟩)] W fun e w'=>e=.returned (.int .i64 n)∧IsP g b w'∧Rp g W w'):=fun W hW _ _ _ hn hal hp=>num_ok hW hp (by omega) hn
 have HF:Hid (∀ W,Rv B W→IsP g r3 W→Calls Tryz.prog 168 #[.pointer (some ⟨g,0,none⟩)] W fun e w'=>e=outP 1∧Rp g W w'):=fun W hW hp=>num_no hW hp (by omega) hn
 obtain ⟨W0,hW0⟩:∃ W0,W0=w.alloc (.cells #[.int .i64 0,.int .i64 0,.int .i64 0,.int .i64 0,.int .i64 0] 40):=⟨_,rfl⟩
 have hb0:Below w.heap.size w W0:=by rw [hW0];exact (Below.refl _ _).alloc (Nat.le_refl _) _
 have HP0:Hid (IsP g l W0∧Rp g w W0):=⟨h.below hb0,Rp.of_below hb0 (Nat.le_refl _)⟩
 have HV:Hid (Rv B W0):=hV.rp hBg HP0.out.2
 have HBG:Hid (B≤g):=hBg
 have HL1:Hid (rdN l=some (x1,r1)∧l.length≤l.length):=⟨n1,by omega⟩
 have HL2:Hid (rdN r1=some (x2,r2)∧r1.length≤l.length):=⟨n2,by omega⟩
 have HL3:Hid (rdN r2=some (x3,r3)∧r2.length≤l.length):=⟨n3,by omega⟩
 clear n1 l1 n2 l2 n3 l3 hn h hV hBg hb0 hs
 go_enter Tryz.func175,Tryz.ntmps175
 go_wp2_with fail
 rw [← hW0]
 clear hW0
 refine (HN.out W0 HV.out HL1.out.1 HL1.out.2 HP0.out.1).mono ?_
 rintro e w1 ⟨rfl,p1,q1⟩
 have HP1:Hid (IsP g r1 w1∧Rp g W0 w1):=⟨p1,q1⟩
 clear p1 q1
 go_wp2_with fail
 refine (HN.out w1 (HV.out.rp HBG.out HP1.out.2) HL2.out.1 HL2.out.2 HP1.out.1).mono ?_
 rintro e w2 ⟨rfl,p1,q1⟩
 have HP2:Hid (IsP g r2 w2∧Rp g W0 w2):=⟨p1,(HP1.out.2.trans q1)⟩
 clear p1 q1
 go_wp2_with fail
 refine (HN.out w2 (HV.out.rp HBG.out HP2.out.2) HL3.out.1 HL3.out.2 HP2.out.1).mono ?_
 rintro e w3 ⟨rfl,p1,q1⟩
 have HP3:Hid (IsP g r3 w3∧Rp g W0 w3):=⟨p1,(HP2.out.2.trans q1)⟩
 clear p1 q1
 go_wp2_with fail
 refine (HF.out w3 (HV.out.rp HBG.out HP3.out.2) HP3.out.1).mono ?_
 rintro e w9 ⟨rfl,hr⟩
 exact ⟨rfl,rfl,HP0.out.2.trans (HP3.out.2.trans hr)⟩
set_option maxHeartbeats 3200000 in
set_option maxRecDepth 100000 in
theorem place_no4 {B g:Nat} {l:List UInt8} {x1 x2 x3 x4:Int} {r1 r2 r3 r4:List UInt8} {w:World} (hV:Rv B w) (hBg:B≤g) (h:IsP g l w) (hs:l.length≤140737488355328) (n1:rdN l=some (x1,r1)) (n2:rdN r1=some (x2,r2)) (n3:rdN r2=some (x3,r3)) (n4:rdN r3=some (x4,r4)) (hn:rdN r4=none) :
 Calls Tryz.prog 175 #[.pointer (some ⟨g,0,none⟩)] w fun e w'=>e=outP 1∧Rp g w w':=by
 have l1:=(rdN_in n1).2
 have l2:=(rdN_in n2).2
 have l3:=(rdN_in n3).2
 have l4:=(rdN_in n4).2
 have HN:Hid (∀ W,Rv B W→∀ {a b:List UInt8} {n:Int},rdN a=some (n,b)→a.length≤l.length→IsP g a W→Calls Tryz.prog 168 #[.pointer (some ⟨g,0,none⟩)] W fun e w'=>e=.returned (.int .i64 n)∧IsP g b w'∧Rp g W w'):=fun W hW _ _ _ hn hal hp=>num_ok hW hp (by omega) hn
 have HF:Hid (∀ W,Rv B W→IsP g r4 W→Calls Tryz.prog 168 #[.pointer (some ⟨g,0,none⟩)] W fun e w'=>e=outP 1∧Rp g W w'):=fun W hW hp=>num_no hW hp (by omega) hn
 obtain ⟨W0,hW0⟩:∃ W0,W0=w.alloc (.cells #[.int .i64 0,.int .i64 0,.int .i64 0,.int .i64 0,.int .i64 0] 40):=⟨_,rfl⟩
 have hb0:Below w.heap.size w W0:=by rw [hW0];exact (Below.refl _ _).alloc (Nat.le_refl _) _
 have HP0:Hid (IsP g l W0∧Rp g w W0):=⟨h.below hb0,Rp.of_below hb0 (Nat.le_refl _)⟩
 have HV:Hid (Rv B W0):=hV.rp hBg HP0.out.2
 have HBG:Hid (B≤g):=hBg
 have HL1:Hid (rdN l=some (x1,r1)∧l.length≤l.length):=⟨n1,by omega⟩
 have HL2:Hid (rdN r1=some (x2,r2)∧r1.length≤l.length):=⟨n2,by omega⟩
 have HL3:Hid (rdN r2=some (x3,r3)∧r2.length≤l.length):=⟨n3,by omega⟩
 have HL4:Hid (rdN r3=some (x4,r4)∧r3.length≤l.length):=⟨n4,by omega⟩
 clear n1 l1 n2 l2 n3 l3 n4 l4 hn h hV hBg hb0 hs
 go_enter Tryz.func175,Tryz.ntmps175
 go_wp2_with fail
 rw [← hW0]
 clear hW0
 refine (HN.out W0 HV.out HL1.out.1 HL1.out.2 HP0.out.1).mono ?_
 rintro e w1 ⟨rfl,p1,q1⟩
 have HP1:Hid (IsP g r1 w1∧Rp g W0 w1):=⟨p1,q1⟩
 clear p1 q1
 go_wp2_with fail
 refine (HN.out w1 (HV.out.rp HBG.out HP1.out.2) HL2.out.1 HL2.out.2 HP1.out.1).mono ?_
 rintro e w2 ⟨rfl,p1,q1⟩
 have HP2:Hid (IsP g r2 w2∧Rp g W0 w2):=⟨p1,(HP1.out.2.trans q1)⟩
 clear p1 q1
 go_wp2_with fail
 refine (HN.out w2 (HV.out.rp HBG.out HP2.out.2) HL3.out.1 HL3.out.2 HP2.out.1).mono ?_
 rintro e w3 ⟨rfl,p1,q1⟩
 have HP3:Hid (IsP g r3 w3∧Rp g W0 w3):=⟨p1,(HP2.out.2.trans q1)⟩
 clear p1 q1
 go_wp2_with fail
 refine (HN.out w3 (HV.out.rp HBG.out HP3.out.2) HL4.out.1 HL4.out.2 HP3.out.1).mono ?_
 rintro e w4 ⟨rfl,p1,q1⟩
 have HP4:Hid (IsP g r4 w4∧Rp g W0 w4):=⟨p1,(HP3.out.2.trans q1)⟩
 clear p1 q1
 go_wp2_with fail
 refine (HF.out w4 (HV.out.rp HBG.out HP4.out.2) HP4.out.1).mono ?_
 rintro e w9 ⟨rfl,hr⟩
 exact ⟨rfl,rfl,HP0.out.2.trans (HP4.out.2.trans hr)⟩
theorem place_no {B g:Nat} {l:List UInt8} {w:World} (hV:Rv B w) (hBg:B≤g) (h:IsP g l w) (hs:l.length≤140737488355328) (hl:rdP l=none) :
 Calls Tryz.prog 175 #[.pointer (some ⟨g,0,none⟩)] w fun e w'=>e=outP 1∧Rp g w w':=by
 unfold rdP at hl
 cases n1:rdN l with
 | none=>exact place_no0 hV hBg h hs n1
 | some a=>
 obtain ⟨x1,r1⟩:=a
 cases n2:rdN r1 with
 | none=>exact place_no1 hV hBg h hs n1 n2
 | some a=>
 obtain ⟨x2,r2⟩:=a
 cases n3:rdN r2 with
 | none=>exact place_no2 hV hBg h hs n1 n2 n3
 | some a=>
 obtain ⟨x3,r3⟩:=a
 cases n4:rdN r3 with
 | none=>exact place_no3 hV hBg h hs n1 n2 n3 n4
 | some a=>
 obtain ⟨x4,r4⟩:=a
 cases n5:rdN r4 with
 | none=>exact place_no4 hV hBg h hs n1 n2 n3 n4 n5
 | some a=>simp [n1,n2,n3,n4,n5] at hl
end Go.Proofs.YtffdoiokmiklgaaGreatDoor
