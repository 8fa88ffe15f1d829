import Derived.Test.YtffdoiokmiklgaaGreatDoorW17
import Derived.Test.YtffdoiokmiklgaaGreatDoorW19
import Derived.Test.YtffdoiokmiklgaaGreatDoorW48
import Derived.Test.YtffdoiokmiklgaaGreatDoorW29
import Derived.Test.YtffdoiokmiklgaaGreatDoorW30
import Derived.Test.YtffdoiokmiklgaaGreatDoorW15
import Derived.Test.YtffdoiokmiklgaaGreatDoorW38
namespace Go.Proofs.YtffdoiokmiklgaaGreatDoor
namespace Gw
open Go.RowKit
set_option maxHeartbeats 1600000 in
theorem refCheck_row (ms:List Gwy) (b off cap:Nat) (w:World) (hr:Row w b off ms) (hb:b < w.heap.size) (hn:ms.length≤6) (hs:∀ j,(ms.getD j dm).ok) :
 Calls Tryz.prog 45 #[.slice (some ⟨b,off,none⟩) ms.length cap] w fun e w'=>e=.returned (.int .i64 (chk ms))∧Below w.heap.size w w':=by
 have HR:Hid (Row w b off ms):=hr
 clear hr
 have HE:Hid (∀ k,k < ms.length→(∀ j,j < k→(ms.getD j dm).e=0)→(ms.getD k dm).e≠0→chk ms=(ms.getD k dm).e):=fun k h1 h2 h3=>chk_e ms k hn h1 h2 h3
 have H4:Hid ((∀ j,j < ms.length→(ms.getD j dm).e=0)→∀ k,k+1 < ms.length→less (ms.getD k dm).centre (ms.getD (k+1) dm).centre=false→chk ms=4):=fun h1 k h2 h3=>chk_4 ms k hn h1 h2 (fun h=>by rw [show ord (ms.getD k dm) (ms.getD (k+1) dm)=cmpI (ms.getD k dm).centre (ms.getD (k+1) dm).centre from rfl,cmpI_lt,h3] at h;cases h)
 have H0:Hid ((∀ j,j < ms.length→(ms.getD j dm).e=0)→(∀ j,j+1 < ms.length→less (ms.getD j dm).centre (ms.getD (j+1) dm).centre=true)→chk ms=0):=fun h1 h2=>chk_0 ms hn h1 (fun j hj=>(cmpI_lt _ _).2 (h2 j hj))
 generalize hN:ms.length=n at *
 have HN:Hid (ms.length=n):=hN
 clear hN
 have HS:Hid (∀ j,(ms.getD j dm).ok):=hs
 clear hs
 generalize hC:chk ms=res at *
 have HC:Hid (chk ms=res):=hC
 clear hC
 go_enter Tryz.func45,Tryz.ntmps45
 go_wp2_with fail
 go_loopw [3] (fun i w'=>∃ k:Nat,k≤n∧i=.int .i64 k∧Below w.heap.size w w'∧Hid (∀ j,j < k→(ms.getD j dm).e=0)) (fun i _=>n - (intOf i).toNat)
 case atStart=>exact ⟨0,Nat.zero_le _,rfl,Below.refl _ _,fun j h=>absurd h (Nat.not_lt_zero _)⟩
 case round=>
  obtain ⟨k,hk,rfl,hbl,hz⟩:=hrel
  obtain ⟨hbc,hbf⟩:=bcell hbl
  have hsz:=hbl.size
  by_cases hlt:k < n
  ·obtain ⟨c0,c1,c2⟩:=HR.out k (by rw [HN.out];exact hlt)
   have hsk:(ms.getD k dm).centre.size≤maxLen:=HS.out k
   have HK:Hid ((ms.getD k dm).e≠0→res=(ms.getD k dm).e):=fun h=>HE.out k hlt hz.out h
   have HZ:Hid ((ms.getD k dm).e=0→∀ j,j < k+1→(ms.getD j dm).e=0):=fun h j hj=>by
    rcases Nat.lt_succ_iff_lt_or_eq.1 hj with h2 | rfl
    ·exact hz.out j h2
    ·exact h
   generalize ms.getD k dm=m at *
   have HD:Hid (m.e=if labB m.centre=true then (if within m.addr 0 4294967295=true then (if within m.version 1 1000000=true then 0 else 3) else 3) else 1):=rfl
   generalize m.e=me at *
   rcases h1:labB m.centre with _ | _
   ·have HRes:Hid (res=1):=(HK.out (by rw [HD.out];simp [h1])).trans (by rw [HD.out];simp [h1])
    go_wp2_with (go_at_call 41;refine (isLabel_any _ _ hsk).mono ?_;rintro e w' ⟨rfl,rfl⟩;rw [h1])
    go_ret
    exact ⟨ret_int HRes.out.symm,hbl⟩
   ·rcases h2:within m.addr 0 4294967295 with _ | _
    ·have HRes:Hid (res=3):=(HK.out (by rw [HD.out];simp [h1,h2])).trans (by rw [HD.out];simp [h1,h2])
     go_wp2_with (first | (go_at_call 41;refine (isLabel_any _ _ hsk).mono ?_;rintro e w' ⟨rfl,rfl⟩;rw [h1]) | (go_at_call 82;refine (isAddress_any _ _).mono ?_;rintro e w' ⟨rfl,rfl⟩;rw [h2]))
     go_ret
     exact ⟨ret_int HRes.out.symm,hbl⟩
    ·rcases h3:within m.version 1 1000000 with _ | _
     ·have HRes:Hid (res=3):=(HK.out (by rw [HD.out];simp [h1,h2,h3])).trans (by rw [HD.out];simp [h1,h2,h3])
      go_wp2_with (first | (go_at_call 41;refine (isLabel_any _ _ hsk).mono ?_;rintro e w' ⟨rfl,rfl⟩;rw [h1]) | (go_at_call 82;refine (isAddress_any _ _).mono ?_;rintro e w' ⟨rfl,rfl⟩;rw [h2]) | (go_at_call 22;refine (between_any _ _ _ _).mono ?_;rintro e w' ⟨rfl,rfl⟩;rw [h3]))
      go_ret
      exact ⟨ret_int HRes.out.symm,hbl⟩
     ·have HM0:Hid (me=0):=(show me=0 by rw [HD.out];simp [h1,h2,h3])
      go_wp2_with (first | (go_at_call 41;refine (isLabel_any _ _ hsk).mono ?_;rintro e w' ⟨rfl,rfl⟩;rw [h1]) | (go_at_call 82;refine (isAddress_any _ _).mono ?_;rintro e w' ⟨rfl,rfl⟩;rw [h2]) | (go_at_call 22;refine (between_any _ _ _ _).mono ?_;rintro e w' ⟨rfl,rfl⟩;rw [h3]))
      go_roundw
      case rel=>exact ⟨k+1,by omega,by go_num,hbl,HZ.out HM0.out⟩
      case measure=>simp [intOf];omega
  ·have hall:Hid (∀ j,j < n→(ms.getD j dm).e=0):=fun j hj=>hz.out j (by omega)
   clear hz
   go_wp2_with fail
   go_loopw [4] (fun i w'=>∃ k:Nat,(k+1≤n∨k=0)∧i=.int .i64 (k+1)∧Below w.heap.size w w'∧Hid (∀ j,j < k→less (ms.getD j dm).centre (ms.getD (j+1) dm).centre=true)) (fun i _=>n - (intOf i).toNat)
   case atStart=>exact ⟨0,.inr rfl,rfl,hbl,fun j h=>absurd h (Nat.not_lt_zero _)⟩
   case round=>
    clear hbc hbf hsz hbl
    obtain ⟨q,hq,rfl,hbl,hz⟩:=hrel
    obtain ⟨hbc,hbf⟩:=bcell hbl
    have hsz:=hbl.size
    by_cases hlt:q+1 < n
    ·obtain ⟨c0,_,_⟩:=HR.out q (by rw [HN.out];omega)
     obtain ⟨d0,_,_⟩:=HR.out (q+1) (by rw [HN.out];exact hlt)
     have HK:Hid (less (ms.getD q dm).centre (ms.getD (q+1) dm).centre=false→res=4):=fun h=>H4.out hall.out q hlt h
     have HZ:Hid (less (ms.getD q dm).centre (ms.getD (q+1) dm).centre=true→∀ j,j < q+1→less (ms.getD j dm).centre (ms.getD (j+1) dm).centre=true):=fun h j hj=>by
      rcases Nat.lt_succ_iff_lt_or_eq.1 hj with h2 | rfl
      ·exact hz.out j h2
      ·exact h
     generalize ms.getD q dm=m1 at *
     generalize ms.getD (q+1) dm=m2 at *
     rcases hl:Op.bytesLess m1.centre.toList m2.centre.toList with _ | _
     ·have h4:Hid (res=4):=HK.out hl
      have hl2:=bl_total m1.centre.toList m2.centre.toList
      rw [hl] at hl2
      have hl3:=hl2.symm
      clear hl2 hl
      go_wp2_with fail
      go_quiet (fail)
      go_wp2_with fail
      go_ret
      exact ⟨ret_int h4.out.symm,below_drewN hbl _⟩
     ·have hl2:=bl_total m1.centre.toList m2.centre.toList
      rw [hl] at hl2
      have hl3:=hl2.symm
      clear hl2
      have HL:Hid (Op.bytesLess m1.centre.toList m2.centre.toList=true):=hl
      clear hl
      go_wp2_with fail
      go_quiet (fail)
      go_wp2_with fail
      go_roundw
      case rel=>exact ⟨q+1,.inl (by omega),by go_num,below_drewN hbl _,HZ.out HL.out⟩
      case measure=>simp [intOf];omega
    ·have h0:Hid (res=0):=H0.out hall.out fun j hj=>hz.out j (by omega)
     go_wp2_with fail
     go_ret
     exact ⟨ret_int h0.out.symm,hbl⟩
set_option maxHeartbeats 400000 in
theorem refCheck_many (a:Option Addr) (n cap:Nat) (w:World) (hn:6 < n) :
 Calls Tryz.prog 45 #[.slice a n cap] w fun e w'=>e=.returned (.int .i64 2)∧w'=w:=by
 go_enter Tryz.func45,Tryz.ntmps45
 go_wp2_with fail
 go_ret
 exact ⟨rfl,rfl⟩
set_option maxHeartbeats 400000 in
theorem refCheck_none (a:Option Addr) (cap:Nat) (w:World) :
 Calls Tryz.prog 45 #[.slice a 0 cap] w fun e w'=>e=.returned (.int .i64 0)∧w'=w:=by
 go_enter Tryz.func45,Tryz.ntmps45
 go_wp2_with fail
 go_loop [3] (fun i=>i=.int .i64 0) (fun _=>0)
 case atStart=>rfl
 case round=>
  subst hrel
  go_wp2_with fail
  go_loop [4] (fun i=>i=.int .i64 1) (fun _=>0)
  case atStart=>rfl
  case round=>
   subst hrel
   go_wp2_with fail
   go_ret
   exact ⟨rfl,rfl⟩
theorem refCheck_any (ms:List Gwy) (v:Value) (w:World) (h:Sl w v ms) :
 Calls Tryz.prog 45 #[v] w fun e w'=>e=.returned (.int .i64 (chk ms))∧Below w.heap.size w w':=by
 obtain ⟨a,cap,rfl,hs,h⟩:=h
 by_cases hn:6 < ms.length
 ·refine (refCheck_many a ms.length cap w hn).mono ?_
  rintro e w' ⟨rfl,rfl⟩
  exact ⟨ret_int (by rw [chk,if_pos hn]),Below.refl _ _⟩
 ·rcases h with rfl | ⟨b,off,rfl,hb,hr⟩
  ·refine (refCheck_none a cap w).mono ?_
   rintro e w' ⟨rfl,rfl⟩
   exact ⟨rfl,Below.refl _ _⟩
  ·exact refCheck_row ms b off cap w hr hb (by omega) hs
end Gw
end Go.Proofs.YtffdoiokmiklgaaGreatDoor
namespace Go.Proofs.YtffdoiokmiklgaaGreatDoor
open Go.RowKit
set_option maxHeartbeats 12800000 in
set_option maxRecDepth 100000 in
theorem refNode_any (n:Nd) (vm vr vs vg vw:Value) (w:World) (h:NdIs w n vm vr vs vg vw) :
 Calls Tryz.prog 21 #[.agg (ndA n vm vr vs vg vw)] w fun e w'=>e=.returned (.int .i64 n.e)∧Below w.heap.size w w':=by
 obtain ⟨nm,ct,ms,rs,sv,gw,⟨px,py,pz,ph,pq⟩,wh⟩:=n
 obtain ⟨hms,hrs,hsv,hgw,hwh,hnm,hct⟩:=h
 simp only at hms hrs hsv hgw hwh hnm hct
 have HMS:Hid (Sl w vm ms):=hms
 have HRS:Hid (RSl w vr rs):=hrs
 have HE:Nd.e ⟨nm,ct,ms,rs,sv,gw,⟨px,py,pz,ph,pq⟩,wh⟩=if (labB nm && labB ct)=true then
  (if chk ms=0 then (if chkR rs=0 then (if Sv.chk sv=0 then (if Gw.chk gw=0 then (if chkP ⟨px,py,pz,ph,pq⟩=0 then (if Wh.chk wh=0 then (match fstM ms nm with
  | none=>5
  | some m=>if m.state=2∨m.state=3 then 4 else if rs.any (aheadB ms)=true then 4 else 0) else Wh.chk wh) else chkP ⟨px,py,pz,ph,pq⟩) else Gw.chk gw) else Sv.chk sv) else chkR rs) else chk ms) else 1:=by
  unfold Nd.e Nd.pE Nd.wE
  simp only
  by_cases h0:(labB nm && labB ct)=true
  ·simp only [if_pos h0]
   by_cases h1:chk ms=0
   ·simp only [if_pos h1]
    by_cases h2:chkR rs=0
    ·simp only [if_pos h2]
     by_cases h3:Sv.chk sv=0
     ·simp only [if_pos h3]
      by_cases h4:Gw.chk gw=0
      ·simp only [if_pos h4]
       by_cases h5:chkP ⟨px,py,pz,ph,pq⟩=0
       ·simp only [if_pos h5];rfl
       ·simp only [if_neg h5]
      ·simp only [if_neg h4]
     ·simp only [if_neg h3]
    ·simp only [if_neg h2]
   ·simp only [if_neg h1]
  ·simp only [if_neg h0];rfl
 obtain ⟨am,cm,rfl,_,_⟩:=hms
 obtain ⟨ar,cr,rfl,_,_⟩:=hrs
 have HML:Hid (chk ms=0→ms.length≤20):=fun h=>(chk_zero h).1
 have HRL:Hid (chkR rs=0→rs.length≤20):=fun h=>(chkR_e0 h).1
 simp only [ndA]
 generalize hNM:ms.length=nms at *
 have HNM:Hid (ms.length=nms):=hNM
 clear hNM
 generalize hNR:rs.length=nrs at *
 have HNR:Hid (rs.length=nrs):=hNR
 clear hNR
 obtain ⟨W0,hW0⟩:∃ W0,W0=w.alloc (.cells #[.string nm,.string ct,.slice am nms cm,.slice ar nrs cr,vs,vg,.int .i64 px,.int .i64 py,.int .i64 pz,.int .i64 ph,.int .i64 pq,vw] 51):=⟨_,rfl⟩
 have hb0:Below w.heap.size w W0:=by rw [hW0];exact (Below.refl _ _).alloc (Nat.le_refl _) _
 have hg0:W0.heap[w.heap.size]?=some (.cells #[.string nm,.string ct,.slice am nms cm,.slice ar nrs cr,vs,vg,.int .i64 px,.int .i64 py,.int .i64 pz,.int .i64 ph,.int .i64 pq,vw] 51 (0,0)):=by rw [hW0];exact heap_alloc_new w _
 have hs0:w.heap.size < W0.heap.size:=by rw [hW0];simp
 have HBX:Hid (∀ W,Below W0.heap.size W0 W→Below w.heap.size w W):=fun W hW=>hb0.trans (hW.mono (by omega))
 have HX:Hid (∀ W,Below W0.heap.size W0 W→W.cell? ⟨w.heap.size,0,none⟩=some (.string nm)∧W.cell? ⟨w.heap.size,1,none⟩=some (.string ct)∧W.cell? ⟨w.heap.size,2,none⟩=some (.slice am nms cm)∧W.cell? ⟨w.heap.size,3,none⟩=some (.slice ar nrs cr)∧W.cell? ⟨w.heap.size,4,none⟩=some vs∧W.cell? ⟨w.heap.size,5,none⟩=some vg∧W.cell? ⟨w.heap.size,6,none⟩=some (.int .i64 px)∧W.cell? ⟨w.heap.size,7,none⟩=some (.int .i64 py)∧W.cell? ⟨w.heap.size,8,none⟩=some (.int .i64 pz)∧W.cell? ⟨w.heap.size,9,none⟩=some (.int .i64 ph)∧W.cell? ⟨w.heap.size,10,none⟩=some (.int .i64 pq)∧W.cell? ⟨w.heap.size,11,none⟩=some vw):=fun W hW=>
  have hg':=(hW.block _ hs0).trans hg0
  ⟨cellsAt hg' 0,cellsAt hg' 1,cellsAt hg' 2,cellsAt hg' 3,cellsAt hg' 4,cellsAt hg' 5,cellsAt hg' 6,cellsAt hg' 7,cellsAt hg' 8,cellsAt hg' 9,cellsAt hg' 10,cellsAt hg' 11⟩
 have HM:Hid (∀ W,Below W0.heap.size W0 W→Calls Tryz.prog 42 #[.slice am nms cm] W fun e w'=>e=.returned (.int .i64 (chk ms))∧Below W.heap.size W w'):=fun W hW=>checkMembers_any ms _ W (HMS.out.below (HBX.out W hW))
 have HRC:Hid (∀ W,Below W0.heap.size W0 W→Calls Tryz.prog 43 #[.slice ar nrs cr] W fun e w'=>e=.returned (.int .i64 (chkR rs))∧Below W.heap.size W w'):=fun W hW=>checkRumors_any rs _ W (HRS.out.below (HBX.out W hW))
 have HS:Hid (∀ W,Below W0.heap.size W0 W→Calls Tryz.prog 44 #[vs] W fun e w'=>e=.returned (.int .i64 (Sv.chk sv))∧Below W.heap.size W w'):=fun W hW=>Sv.refCheck_any sv vs W (hsv.below (HBX.out W hW))
 have HG:Hid (∀ W,Below W0.heap.size W0 W→Calls Tryz.prog 45 #[vg] W fun e w'=>e=.returned (.int .i64 (Gw.chk gw))∧Below W.heap.size W w'):=fun W hW=>Gw.refCheck_any gw vg W (hgw.below (HBX.out W hW))
 have HP:Hid (∀ W,Below W0.heap.size W0 W→Calls Tryz.prog 46 #[.agg #[.int .i64 px,.int .i64 py,.int .i64 pz,.int .i64 ph,.int .i64 pq]] W fun e w'=>e=.returned (.int .i64 (chkP ⟨px,py,pz,ph,pq⟩))∧Below W.heap.size W w'):=fun W _=>(checkPlace_any ⟨px,py,pz,ph,pq⟩ W).mono (by rintro e w' ⟨rfl,rfl⟩;exact ⟨rfl,(Below.refl _ _).alloc (Nat.le_refl _) _⟩)
 have HW:Hid (∀ W,Below W0.heap.size W0 W→Calls Tryz.prog 47 #[vw] W fun e w'=>e=.returned (.int .i64 (Wh.chk wh))∧Below W.heap.size W w'):=fun W hW=>Wh.refCheck_any wh vw W (hwh.below (HBX.out W hW))
 have HMA:Hid (nms≤1000→∀ (W:World) (t:ByteArray),Below W0.heap.size W0 W→Calls Tryz.prog 17 #[.slice am nms cm,.string t] W fun e w'=>∃ r:Int,e=.returned (.int .i64 r)∧Hid (AtF ms t r)∧w'=W):=fun hn W t hW=>memAt_any ms _ t W (HMS.out.below (HBX.out W hW)) (by rw [HNM.out];exact hn)
 have HRow:Hid (∀ W,Below W0.heap.size W0 W→0 < ms.length→∃ b off,am=some ⟨b,off,none⟩∧b < W.heap.size∧Row W b off ms):=fun W hW hp=>by
  obtain ⟨a,c,he,_,ha⟩:=HMS.out.below (HBX.out W hW)
  injection he with e1 e2 e3
  subst e1
  rcases ha with h | h
  ·rw [h] at hp;simp at hp
  ·exact h
 have HRR:Hid (∀ W,Below W0.heap.size W0 W→0 < rs.length→∃ b off,ar=some ⟨b,off,none⟩∧b < W.heap.size∧RRow W b off rs):=fun W hW hp=>by
  obtain ⟨a,c,he,_,ha⟩:=HRS.out.below (HBX.out W hW)
  injection he with e1 e2 e3
  subst e1
  rcases ha with h | h
  ·rw [h] at hp;simp at hp
  ·exact h
 have HB0:Hid (Below W0.heap.size W0 W0):=Below.refl _ _
 generalize Nd.e ⟨nm,ct,ms,rs,sv,gw,⟨px,py,pz,ph,pq⟩,wh⟩=res at *
 generalize chk ms=m1 at *
 generalize chkR rs=r1 at *
 generalize Sv.chk sv=s1 at *
 generalize Gw.chk gw=g1 at *
 generalize chkP ⟨px,py,pz,ph,pq⟩=p1 at *
 generalize Wh.chk wh=wz at *
 clear hsv hgw hwh hb0 hg0
 obtain ⟨y0,y1,y2,y3,y4,y5,y6,y7,y8,y9,y10,y11⟩:=HX.out W0 HB0.out
 go_enter Tryz.func21,Tryz.ntmps21
 rcases hl1:labB nm with _ | _
 ·rw [hl1,if_neg (by simp)] at HE
  have HR:Hid (res=1):=HE
  clear HE
  go_wp2_with (go_at_call 41;refine (isLabel_any _ _ hnm).mono ?_;rintro e w' ⟨rfl,rfl⟩;rw [hl1])
  go_ret
  exact ⟨ret_int HR.out.symm,(Below.refl _ _).alloc (Nat.le_refl _) _⟩
 rcases hl2:labB ct with _ | _
 ·rw [hl2,if_neg (by simp)] at HE
  have HR:Hid (res=1):=HE
  clear HE
  go_wp2_with (go_at_call 41;refine (isLabel_any _ _ (by first | exact hnm | exact hct)).mono ?_;rintro e w' ⟨rfl,rfl⟩;first | rw [hl1] | rw [hl2])
  go_ret
  exact ⟨ret_int HR.out.symm,(Below.refl _ _).alloc (Nat.le_refl _) _⟩
 rw [hl1,hl2,if_pos (by rfl)] at HE
 go_wp2_with (first | (go_at_call 41;refine (isLabel_any _ _ (by first | exact hnm | exact hct)).mono ?_;rintro e w' ⟨rfl,rfl⟩;first | rw [hl1] | rw [hl2]) | fail)
 rw [← hW0]
 refine (HM.out _ HB0.out).mono ?_
 rintro e w1 ⟨rfl,hb1⟩
 have HB1:Hid (Below W0.heap.size W0 w1):=HB0.out.trans (hb1.mono HB0.out.size)
 clear hb1 y0 y1 y2 y3 y4 y5 y6 y7 y8 y9 y10 y11
 obtain ⟨y0,y1,y2,y3,y4,y5,y6,y7,y8,y9,y10,y11⟩:=HX.out w1 HB1.out
 by_cases hm1:m1=0
 ·rw [if_pos hm1] at HE
  have hml:nms≤20:=HML.out hm1
  subst hm1
  go_wp2_with fail
  refine (HRC.out _ HB1.out).mono ?_
  rintro e w2 ⟨rfl,hb2⟩
  have HB2:Hid (Below W0.heap.size W0 w2):=HB1.out.trans (hb2.mono HB1.out.size)
  clear hb2 y0 y1 y2 y3 y4 y5 y6 y7 y8 y9 y10 y11
  obtain ⟨y0,y1,y2,y3,y4,y5,y6,y7,y8,y9,y10,y11⟩:=HX.out w2 HB2.out
  by_cases hr1:r1=0
  ·rw [if_pos hr1] at HE
   have hrl:nrs≤20:=HRL.out hr1
   subst hr1
   go_wp2_with fail
   refine (HS.out _ HB2.out).mono ?_
   rintro e w3 ⟨rfl,hb3⟩
   have HB3:Hid (Below W0.heap.size W0 w3):=HB2.out.trans (hb3.mono HB2.out.size)
   clear hb3 y0 y1 y2 y3 y4 y5 y6 y7 y8 y9 y10 y11
   obtain ⟨y0,y1,y2,y3,y4,y5,y6,y7,y8,y9,y10,y11⟩:=HX.out w3 HB3.out
   by_cases hs1:s1=0
   ·rw [if_pos hs1] at HE
    subst hs1
    go_wp2_with fail
    refine (HG.out _ HB3.out).mono ?_
    rintro e w4 ⟨rfl,hb4⟩
    have HB4:Hid (Below W0.heap.size W0 w4):=HB3.out.trans (hb4.mono HB3.out.size)
    clear hb4 y0 y1 y2 y3 y4 y5 y6 y7 y8 y9 y10 y11
    obtain ⟨y0,y1,y2,y3,y4,y5,y6,y7,y8,y9,y10,y11⟩:=HX.out w4 HB4.out
    by_cases hg1:g1=0
    ·rw [if_pos hg1] at HE
     subst hg1
     go_wp2_with fail
     refine (HP.out _ HB4.out).mono ?_
     rintro e w5 ⟨rfl,hb5⟩
     have HB5:Hid (Below W0.heap.size W0 w5):=HB4.out.trans (hb5.mono HB4.out.size)
     clear hb5 y0 y1 y2 y3 y4 y5 y6 y7 y8 y9 y10 y11
     obtain ⟨y0,y1,y2,y3,y4,y5,y6,y7,y8,y9,y10,y11⟩:=HX.out w5 HB5.out
     by_cases hp1:p1=0
     ·rw [if_pos hp1] at HE
      subst hp1
      go_wp2_with fail
      refine (HW.out _ HB5.out).mono ?_
      rintro e w6 ⟨rfl,hb6⟩
      have HB6:Hid (Below W0.heap.size W0 w6):=HB5.out.trans (hb6.mono HB5.out.size)
      clear hb6 y0 y1 y2 y3 y4 y5 y6 y7 y8 y9 y10 y11
      obtain ⟨y0,y1,y2,y3,y4,y5,y6,y7,y8,y9,y10,y11⟩:=HX.out w6 HB6.out
      by_cases hwz:wz=0
      ·rw [if_pos hwz] at HE
       subst hwz
       go_wp2_with fail
       refine (HMA.out (by omega) w6 nm HB6.out).mono ?_
       rintro e w7 ⟨r,rfl,HAT,rfl⟩
       rcases HAT.out with ⟨k,hk,rfl,hf⟩ | ⟨rfl,hf⟩
       ·have HR:Hid (res=if (ms.getD k dm).state=2∨(ms.getD k dm).state=3 then 4 else if rs.any (aheadB ms)=true then 4 else 0):=HE.trans (by rw [hf])
        clear hf HAT HE
        obtain ⟨b1,o1,hp1,hl1,hr1⟩:=HRow.out w7 HB6.out (by omega)
        subst hp1
        obtain ⟨c0,c1,c2,c3,c4⟩:=hr1 k hk
        have hkn:(k:Int) < (nms:Int):=by rw [HNM.out] at hk;omega
        clear hr1
        generalize ms.getD k dm=mk at *
        obtain ⟨mn,st,lf,ad,sv2⟩:=mk
        simp only at c0 c1 c2 c3 c4 HR
        by_cases h2:st=2
        ·subst h2
         have HR2:Hid (res=4):=HR.out.trans (by simp)
         go_wp2_with fail
         go_ret
         exact ⟨ret_int HR2.out.symm,HBX.out _ HB6.out⟩
        ·by_cases h3:st=3
         ·subst h3
          have HR2:Hid (res=4):=HR.out.trans (by simp)
          go_wp2_with fail
          go_ret
          exact ⟨ret_int HR2.out.symm,HBX.out _ HB6.out⟩
         ·have HR2:Hid (res=if rs.any (aheadB ms)=true then 4 else 0):=HR.out.trans (if_neg (by omega))
          have h2':(st == 2)=false:=by simpa using h2
          have h3':(st == 3)=false:=by simpa using h3
          clear h2 h3 HR
          go_wp2_with fail
          clear c0 c1 c2 c3 c4 y0 y1 y2 y3 y4 y5 y6 y7 y8 y9 y10 y11
          go_loopw [5] (fun i wr=>∃ q:Nat,q≤nrs∧i=.int .i64 q∧Hid (∀ j,j < q→aheadB ms (rs.getD j dr)=false)∧Hid (Below W0.heap.size W0 wr)) (fun i _=>nrs - (intOf i).toNat)
          case atStart=>exact ⟨0,Nat.zero_le _,rfl,fun j hj=>by omega,HB6⟩
          case round=>
           obtain ⟨q,hq,rfl,HZ,HB⟩:=hrel
           have hszr:w.heap.size < wr.heap.size:=by have:=HB.out.size;omega
           obtain ⟨y0,y1,y2,y3,y4,y5,y6,y7,y8,y9,y10,y11⟩:=HX.out wr HB.out
           by_cases hlt:q < nrs
           ·obtain ⟨b2,o2,hp2,hl2',hr2⟩:=HRR.out wr HB.out (by rw [HNR.out];omega)
            subst hp2
            obtain ⟨d0,d1,d2,d3,d4,d5⟩:=hr2 q (by rw [HNR.out];exact hlt)
            clear hr2
            have HAH:Hid (aheadB ms (rs.getD q dr)=match fstM ms (rs.getD q dr).m.name with
             | none=>true
             | some k=>newM (rs.getD q dr).m k):=rfl
            have HY:Hid (aheadB ms (rs.getD q dr)=true→res=4):=fun h=>by
             rw [show rs.getD q dr=rs[q]'(by rw [HNR.out];exact hlt) by simp [List.getD,List.getElem?_eq_getElem (show q < rs.length by rw [HNR.out];exact hlt)]] at h
             exact HR2.out.trans (if_pos (List.any_eq_true.2 ⟨_,List.getElem_mem _,h⟩))
            have HZ2:Hid (aheadB ms (rs.getD q dr)=false→∀ j,j < q+1→aheadB ms (rs.getD j dr)=false):=fun h j hj=>by
             by_cases e:j=q
             ·subst e;exact h
             ·exact HZ.out j (by omega)
            generalize aheadB ms (rs.getD q dr)=ab at *
            generalize rs.getD q dr=rk at *
            obtain ⟨⟨rn,rst,rlf,rad,rsv⟩,rtd⟩:=rk
            simp only at d0 d1 d2 d3 d4 d5 HAH
            obtain ⟨W1,hW1⟩:∃ W1,W1=wr.alloc (.cells #[.string rn,.int .i64 rst,.int .i64 rlf,.int .i64 rad,.bool rsv] 56):=⟨_,rfl⟩
            have hb1:Below wr.heap.size wr W1:=by rw [hW1];exact (Below.refl _ _).alloc (Nat.le_refl _) _
            have hg1:W1.heap[wr.heap.size]?=some (.cells #[.string rn,.int .i64 rst,.int .i64 rlf,.int .i64 rad,.bool rsv] 56 (0,0)):=by rw [hW1];exact heap_alloc_new wr _
            have HB1:Hid (Below W0.heap.size W0 W1):=HB.out.trans (hb1.mono HB.out.size)
            have HMQ:=HMA.out (by omega) W1 rn HB1.out
            go_wp2_with fail
            rw [← hW1]
            refine HMQ.mono ?_
            rintro e w8 ⟨r,rfl,HAT,hw8⟩
            have hw9:=hw8.symm
            subst hw9
            clear HMQ d0 d1 d2 d3 d4 d5 y0 y1 y2 y3 y4 y5 y6 y7 y8 y9 y10 y11
            obtain ⟨y0,y1,y2,y3,y4,y5,y6,y7,y8,y9,y10,y11⟩:=HX.out W1 HB1.out
            clear hW1 hb1 HZ
            rcases HAT.out with ⟨k2,hk2,rfl,hf⟩ | ⟨rfl,hf⟩
            ·have HA2:Hid (ab=newM ⟨rn,rst,rlf,rad,rsv⟩ (ms.getD k2 dm)):=HAH.out.trans (by rw [hf])
             clear hf HAT HAH
             obtain ⟨b3,o3,hp3,hl3,hr3⟩:=HRow.out W1 HB1.out (by omega)
             simp only [Option.some.injEq,Addr.mk.injEq] at hp3
             obtain ⟨rfl,rfl,_⟩:=hp3
             obtain ⟨c0,c1,c2,c3,c4⟩:=hr3 k2 hk2
             have hkn2:(k2:Int) < (nms:Int):=by rw [HNM.out] at hk2;omega
             clear hr3
             generalize ms.getD k2 dm=mk at *
             obtain ⟨mn2,st2,lf2,ad2,sv3⟩:=mk
             simp only at c0 c1 c2 c3 c4
             have hN:∀ d os,Calls Tryz.prog 48 #[.agg #[.string rn,.int .i64 rst,.int .i64 rlf,.int .i64 rad,.bool rsv],.agg #[.string mn2,.int .i64 st2,.int .i64 lf2,.int .i64 ad2,.bool sv3]] (Go.Sort.grow (redrawn W1 d) os) fun e w''=>e=.returned (.bool ab)∧∃ p:Regrown,w''=Go.Sort.grow (redrawn W1 p.d) p.os:=fun d os=>Calls.regrown_of ((newerMember_any rn mn2 rst rlf rad rsv st2 lf2 ad2 sv3 _).mono (by rintro e w' ⟨rfl,rfl⟩;exact ⟨by rw [HA2.out];rfl,((Below.refl _ _).alloc (Nat.le_refl _) _).alloc (by simp) _⟩))
             have F0:∀ d os,(Go.Sort.grow (redrawn W1 d) os).cell? ⟨wr.heap.size,0,none⟩=some (.string rn):=cell_regrown (cellsAt hg1 0)
             have F1:∀ d os,(Go.Sort.grow (redrawn W1 d) os).cell? ⟨wr.heap.size,1,none⟩=some (.int .i64 rst):=cell_regrown (cellsAt hg1 1)
             have F2:∀ d os,(Go.Sort.grow (redrawn W1 d) os).cell? ⟨wr.heap.size,2,none⟩=some (.int .i64 rlf):=cell_regrown (cellsAt hg1 2)
             have F3:∀ d os,(Go.Sort.grow (redrawn W1 d) os).cell? ⟨wr.heap.size,3,none⟩=some (.int .i64 rad):=cell_regrown (cellsAt hg1 3)
             have F4:∀ d os,(Go.Sort.grow (redrawn W1 d) os).cell? ⟨wr.heap.size,4,none⟩=some (.bool rsv):=cell_regrown (cellsAt hg1 4)
             have G0:∀ d os,(Go.Sort.grow (redrawn W1 d) os).cell? ⟨b1,o1+k2 * 5,none⟩=some (.string mn2):=cell_regrown c0
             have G1:∀ d os,(Go.Sort.grow (redrawn W1 d) os).cell? ⟨b1,o1+k2 * 5+1,none⟩=some (.int .i64 st2):=cell_regrown c1
             have G2:∀ d os,(Go.Sort.grow (redrawn W1 d) os).cell? ⟨b1,o1+k2 * 5+2,none⟩=some (.int .i64 lf2):=cell_regrown c2
             have G3:∀ d os,(Go.Sort.grow (redrawn W1 d) os).cell? ⟨b1,o1+k2 * 5+3,none⟩=some (.int .i64 ad2):=cell_regrown c3
             have G4:∀ d os,(Go.Sort.grow (redrawn W1 d) os).cell? ⟨b1,o1+k2 * 5+4,none⟩=some (.bool sv3):=cell_regrown c4
             have Y2:∀ d os,(Go.Sort.grow (redrawn W1 d) os).cell? ⟨w.heap.size,2,none⟩=some (.slice (some ⟨b1,o1,none⟩) nms cm):=cell_regrown y2
             have hk0:decide ((k2:Int) < 0)=false:=by simp
             have hkk:(0:Int)≤(k2:Int):=by omega
             clear c0 c1 c2 c3 c4 y0 y1 y2 y3 y4 y5 y6 y7 y8 y9 y10 y11 hg1
             go_wp2_with fail
             refine wp_region_quiet_below (by kernel_rfl) (by kernel_rfl) ?_
             repeat (quiet_step (exact hN _ _))
             refine wpQuiet_nil ?_
             intro _ hw'
             obtain ⟨⟨dq,osq⟩,hw''⟩:=hw'
             subst hw''
             have HBQ:Hid (Below W0.heap.size W0 (Go.Sort.grow (redrawn W1 dq) osq)):=HB1.out.trans ((below_regrown W1 dq osq).mono HB1.out.size)
             clear hN F0 F1 F2 F3 F4 G0 G1 G2 G3 G4 Y2
             generalize Go.Sort.grow (redrawn W1 dq) osq=w9 at *
             cases ab
             ·have HZ3:Hid (∀ j,j < q+1→aheadB ms (rs.getD j dr)=false):=HZ2.out rfl
              clear HY HZ2 HA2
              go_wp2_with fail
              go_roundw
              case rel=>exact ⟨q+1,by omega,by go_num,HZ3,HBQ⟩
              case measure=>simp [intOf];omega
             ·have HR3:Hid (res=4):=HY.out rfl
              clear HY HZ2 HA2
              go_wp2_with fail
              go_ret
              exact ⟨ret_int HR3.out.symm,HBX.out _ HBQ.out⟩
            ·have HR3:Hid (res=4):=HY.out (HAH.out.trans (by rw [hf]))
             clear hf HAT HAH HY HZ2 hg1
             go_wp2_with fail
             go_quiet (fail)
             go_wp2_with fail
             go_ret
             exact ⟨ret_int HR3.out.symm,HBX.out _ (below_drewN HB1.out _)⟩
           ·have HR3:Hid (res=0):=HR2.out.trans (if_neg (by
             rw [List.any_eq_true]
             rintro ⟨r,hr,h⟩
             obtain ⟨j,hj,rfl⟩:=List.getElem_of_mem hr
             have h3:=HZ.out j (by have:=HNR.out;omega)
             rw [show rs.getD j dr=rs[j] by simp [List.getD,List.getElem?_eq_getElem hj],h] at h3
             cases h3))
            clear HZ
            go_wp2_with fail
            go_ret
            exact ⟨ret_int HR3.out.symm,HBX.out _ HB.out⟩
       ·have HR:Hid (res=5):=HE.trans (by rw [hf])
        clear hf HAT HE
        go_wp2_with fail
        go_ret
        exact ⟨ret_int HR.out.symm,HBX.out _ HB6.out⟩
      ·have hwz':(wz != 0)=true:=by simpa using hwz
       rw [if_neg hwz] at HE
       have HR:Hid (res=wz):=HE
       clear hwz HE
       go_wp2_with fail
       go_ret
       exact ⟨ret_int HR.out.symm,HBX.out _ HB6.out⟩
     ·have hp1':(p1 != 0)=true:=by simpa using hp1
      have hp1'':(p1 == 0)=false:=by simpa using hp1
      rw [if_neg hp1] at HE
      have HR:Hid (res=p1):=HE.trans (by first | rfl | exact if_neg hp1)
      clear hp1 HE
      go_wp2_with fail
      go_ret
      exact ⟨ret_int HR.out.symm,HBX.out _ HB5.out⟩
    ·have hg1':(g1 != 0)=true:=by simpa using hg1
     have hg1'':(g1 == 0)=false:=by simpa using hg1
     rw [if_neg hg1] at HE
     have HR:Hid (res=g1):=HE.trans (by first | rfl | exact if_neg hg1)
     clear hg1 HE
     go_wp2_with fail
     go_ret
     exact ⟨ret_int HR.out.symm,HBX.out _ HB4.out⟩
   ·have hs1':(s1 != 0)=true:=by simpa using hs1
    have hs1'':(s1 == 0)=false:=by simpa using hs1
    rw [if_neg hs1] at HE
    have HR:Hid (res=s1):=HE.trans (by first | rfl | exact if_neg hs1)
    clear hs1 HE
    go_wp2_with fail
    go_ret
    exact ⟨ret_int HR.out.symm,HBX.out _ HB3.out⟩
  ·have hr1':(r1 != 0)=true:=by simpa using hr1
   have hr1'':(r1 == 0)=false:=by simpa using hr1
   rw [if_neg hr1] at HE
   have HR:Hid (res=r1):=HE.trans (by first | rfl | exact if_neg hr1)
   clear hr1 HE
   go_wp2_with fail
   go_ret
   exact ⟨ret_int HR.out.symm,HBX.out _ HB2.out⟩
 ·have hm1':(m1 != 0)=true:=by simpa using hm1
  have hm1'':(m1 == 0)=false:=by simpa using hm1
  rw [if_neg hm1] at HE
  have HR:Hid (res=m1):=HE.trans (by first | rfl | exact if_neg hm1)
  clear hm1 HE
  go_wp2_with fail
  go_ret
  exact ⟨ret_int HR.out.symm,HBX.out _ HB1.out⟩
set_option maxHeartbeats 12800000 in
set_option maxRecDepth 100000 in
theorem refNet0_any (ns:List Nd) (vn:Value) (w:World) (h:NSl w vn ns) :
 Calls Tryz.prog 9 #[.agg #[vn,.slice none 0 0]] w fun e w'=>e=.returned (.int .i64 (Nt.mk ns []).e)∧Below w.heap.size w w':=by
 have HE1:Hid (6 < ns.length→(Nt.mk ns []).e=2):=fun h=>Nt.e_many (.inl h)
 have HE2:Hid (ns.length≤6→∀ k,k < ns.length→(∀ j,j < k→(ns.getD j ndZ).e=0)→(ns.getD k ndZ).e≠0→(Nt.mk ns []).e=(ns.getD k ndZ).e):=fun h6 k hk hz hne=>by
  have hc:=chkN_e hk hz hne
  rw [Nt.e_nodes (by simp;omega) (by rw [hc];exact hne)]
  exact hc
 have HE3:Hid (ns.length≤6→(∀ j,j < ns.length→(ns.getD j ndZ).e=0)→¬ ApartN ns→(Nt.mk ns []).e=6):=fun h6 hz hd=>by
  have hc:=chkN_twice hz hd
  rw [Nt.e_nodes (by simp;omega) (by simp only;rw [hc];decide)]
  exact hc
 have HE4:Hid (ns.length≤6→(∀ j,j < ns.length→(ns.getD j ndZ).e=0)→ApartN ns→(Nt.mk ns []).e=0):=fun h6 hz hd=>by
  rw [Nt.e_letters (by simp;omega) (chkN_ok hz hd)];rfl
 generalize (Nt.mk ns []).e=te at *
 obtain ⟨pn,cn,hvn,ha⟩:=h
 subst hvn
 have HA:Hid (ns=[]∨∃ b off,pn=some ⟨b,off,none⟩∧b < w.heap.size∧NRow w b off ns):=ha
 clear ha
 generalize hN:ns.length=n at *
 have HN:Hid (ns.length=n):=hN
 clear hN
 obtain ⟨W0,hW0⟩:∃ W0,W0=w.alloc (.cells #[.slice pn n cn,.slice none 0 0] 25):=⟨_,rfl⟩
 have hb0:Below w.heap.size w W0:=by rw [hW0];exact (Below.refl _ _).alloc (Nat.le_refl _) _
 have k0:W0.heap[w.heap.size]?=some (.cells #[.slice pn n cn,.slice none 0 0] 25 (0,0)):=by rw [hW0];exact heap_alloc_new w _
 have HB0:Hid (Below w.heap.size w W0):=hb0
 have HK:Hid (∀ W,Below W0.heap.size W0 W→W.cell? ⟨w.heap.size,0,none⟩=some (.slice pn n cn)∧W.cell? ⟨w.heap.size,1,none⟩=some (.slice none 0 0)):=fun W hW=>by
  have e:=(hW.block _ (Array.getElem?_eq_some_iff.1 k0).1).trans k0
  exact ⟨cellsAt e 0,cellsAt e 1⟩
 have x0:W0.cell? ⟨w.heap.size,0,none⟩=some (.slice pn n cn):=cellsAt k0 0
 have x1:W0.cell? ⟨w.heap.size,1,none⟩=some (.slice none 0 0):=cellsAt k0 1
 clear k0 hb0
 by_cases h6:6 < n
 ·have d1:decide ((6:Int) < (n:Int))=true:=by simp;omega
  have HE:Hid (te=2):=HE1.out h6
  clear HE1 HE2 HE3 HE4 h6
  go_enter Tryz.func9,Tryz.ntmps9
  go_upto_region 1 with fail
  rw [← hW0]
  clear hW0
  go_wp2_with fail
  go_ret
  exact ⟨ret_int HE.out.symm,HB0.out⟩
 have d1:decide ((6:Int) < (n:Int))=false:=by simp;omega
 have HE2':Hid (∀ k,k < n→(∀ j,j < k→(ns.getD j ndZ).e=0)→(ns.getD k ndZ).e≠0→te=(ns.getD k ndZ).e):=HE2.out (by omega)
 have HE3':Hid ((∀ j,j < n→(ns.getD j ndZ).e=0)→¬ ApartN ns→te=6):=HE3.out (by omega)
 have HE4':Hid ((∀ j,j < n→(ns.getD j ndZ).e=0)→ApartN ns→te=0):=HE4.out (by omega)
 clear HE1 HE2 HE3 HE4
 go_enter Tryz.func9,Tryz.ntmps9
 go_upto_region 1 with fail
 rw [← hW0]
 clear hW0
 go_wp2_with fail
 clear x0 x1
 go_loopw [3] (fun i wr=>∃ k:Nat,k≤n∧i=.int .i64 k∧Hid (∀ j,j < k→(ns.getD j ndZ).e=0)∧Hid (Below W0.heap.size W0 wr)) (fun i _=>n - (intOf i).toNat)
 case atStart=>exact ⟨0,Nat.zero_le _,rfl,fun j hj=>by omega,Below.refl _ _⟩
 case round=>
  obtain ⟨k,hk,rfl,HZ,HB⟩:=hrel
  obtain ⟨x0,x1⟩:=HK.out wr HB.out
  by_cases hlt:k < n
  ·obtain ⟨b,off,hp,hl,hr⟩:∃ b off,pn=some ⟨b,off,none⟩∧b < w.heap.size∧NRow w b off ns:=by
    rcases HA.out with h | h
    ·have:=HN.out;rw [h] at this;simp at this;omega
    ·exact h
   subst hp
   have hbw:Below w.heap.size w wr:=HB0.out.trans (HB.out.mono HB0.out.size)
   obtain ⟨vm,vr,vs,vg,vw,hnd,c0,c1,c2,c3,c4,c5,c6,c7,c8,c9,c10,c11⟩:=(hr.below hbw hl).at (by rw [HN.out];exact hlt)
   have HX:Hid ((ns.getD k ndZ).e≠0→te=(ns.getD k ndZ).e):=HE2'.out k hlt HZ.out
   have HZ2:Hid ((ns.getD k ndZ).e=0→∀ j,j < k+1→(ns.getD j ndZ).e=0):=fun h j hj=>by
    by_cases e:j=k
    ·subst e;exact h
    ·exact HZ.out j (by omega)
   generalize (ns.getD k ndZ)=nk at *
   have HCK:Hid (Calls Tryz.prog 21 #[.agg (ndA nk vm vr vs vg vw)] wr fun e w'=>e=.returned (.int .i64 nk.e)∧Below wr.heap.size wr w'):=refNode_any nk vm vr vs vg vw wr hnd
   obtain ⟨⟨am,cm,hvm,_,_⟩,⟨ar,cr,hvr,_,_⟩,⟨ax,cx,hvs,_,_⟩,⟨ag,cg,hvg,_,_⟩,⟨aw,cw,hvw,_,_⟩,_,_⟩:=hnd
   subst hvm hvr hvs hvg hvw
   generalize hne:nk.e=ne at *
   clear hne
   obtain ⟨nm,ct,ms,rs,sv,gw,⟨px,py,pz,ph,pq⟩,wh⟩:=nk
   simp only [ndA] at c0 c1 c2 c3 c4 c5 c6 c7 c8 c9 c10 c11 HCK
   generalize ms.length=nms at *
   generalize rs.length=nrs at *
   generalize sv.length=nsv at *
   generalize gw.length=ngw at *
   generalize wh.length=nwh at *
   clear hr HZ hbw
   have hkn:(k:Int) < n:=by omega
   go_wp2_with fail
   refine HCK.out.mono ?_
   rintro e w1 ⟨rfl,hb1⟩
   have HB1:Hid (Below W0.heap.size W0 w1):=HB.out.trans (hb1.mono HB.out.size)
   clear hb1 c0 c1 c2 c3 c4 c5 c6 c7 c8 c9 c10 c11 HB HCK x0 x1
   by_cases he:ne=0
   ·have he':(ne != 0)=false:=by simpa using he
    have HZ3:Hid (∀ j,j < k+1→(ns.getD j ndZ).e=0):=HZ2.out he
    clear HX HZ2 he
    go_wp2_with fail
    go_roundw
    case rel=>exact ⟨k+1,by omega,by go_num,HZ3,HB1⟩
    case measure=>simp [intOf];omega
   ·have he':(ne != 0)=true:=by simpa using he
    have HR:Hid (te=ne):=HX.out he
    clear he HX HZ2
    go_wp2_with fail
    go_ret
    exact ⟨ret_int HR.out.symm,HB0.out.trans (HB1.out.mono HB0.out.size)⟩
  ·have hkn:k=n:=by omega
   subst hkn
   have HZA:Hid (∀ j,j < k→(ns.getD j ndZ).e=0):=HZ
   have HE3:Hid (¬ ApartN ns→te=6):=HE3'.out HZ.out
   have HE4:Hid (ApartN ns→te=0):=HE4'.out HZ.out
   clear HE2' HE3' HE4' HZ
   go_wp2_with fail
   clear x0 x1
   go_loopw [5] (fun i wr=>∃ i0:Nat,i0≤k∧i=.int .i64 i0∧Hid (∀ a b,a < b→b < i0→(ns.getD a ndZ).name≠(ns.getD b ndZ).name)∧Hid (Below W0.heap.size W0 wr)) (fun i _=>k - (intOf i).toNat)
   case atStart=>exact ⟨0,Nat.zero_le _,rfl,fun a b _ hb=>by omega,HB⟩
   case round=>
    obtain ⟨i0,hi,rfl,HP,HB2⟩:=hrel
    obtain ⟨x0,x1⟩:=HK.out wr HB2.out
    by_cases hlt2:i0 < k
    ·obtain ⟨b,off,hp,hl,hr⟩:∃ b off,pn=some ⟨b,off,none⟩∧b < w.heap.size∧NRow w b off ns:=by
      rcases HA.out with h | h
      ·have:=HN.out;rw [h] at this;simp at this;omega
      ·exact h
     subst hp
     have HRW:Hid (∀ W,Below W0.heap.size W0 W→∀ j,j < k→W.cell? ⟨b,off+j * 12,none⟩=some (.string (ns.getD j ndZ).name)):=fun W hW j hj=>by
      have hbw:Below w.heap.size w W:=HB0.out.trans (hW.mono HB0.out.size)
      obtain ⟨vm,vr,vs,vg,vw,hnd,c0,_⟩:=(hr.below hbw hl).at (k:=j) (by rw [HN.out];exact hj)
      exact c0
     have hd2:decide ((i0:Int) < (k:Int))=true:=by simp;omega
     clear hr hl
     go_wp2_with fail
     clear x0 x1
     go_loopw [6] (fun i wr=>∃ j0:Nat,j0≤i0∧i=.int .i64 j0∧Hid (∀ a,a < j0→(ns.getD a ndZ).name≠(ns.getD i0 ndZ).name)∧Hid (Below W0.heap.size W0 wr)) (fun i _=>i0 - (intOf i).toNat)
     case atStart=>exact ⟨0,Nat.zero_le _,rfl,fun a ha=>by omega,HB2⟩
     case round=>
      obtain ⟨j0,hj,rfl,HJ,HB3⟩:=hrel
      obtain ⟨x0,x1⟩:=HK.out _ HB3.out
      by_cases hlt3:j0 < i0
      ·have hd3:decide ((j0:Int) < (i0:Int))=true:=by simp;omega
       have c0:=HRW.out _ HB3.out j0 (by omega)
       have c1:=HRW.out _ HB3.out i0 hlt2
       have HAP:Hid ((ns.getD j0 ndZ).name=(ns.getD i0 ndZ).name→te=6):=fun e=>HE3.out (fun h=>h j0 i0 hlt3 (by rw [HN.out];exact hlt2) e)
       have HJ2:Hid ((ns.getD j0 ndZ).name≠(ns.getD i0 ndZ).name→∀ a,a < j0+1→(ns.getD a ndZ).name≠(ns.getD i0 ndZ).name):=fun h a ha=>by
        by_cases e:a=j0
        ·subst e;exact h
        ·exact HJ.out a (by omega)
       generalize (ns.getD j0 ndZ).name=na at *
       generalize hnb:(ns.getD i0 ndZ).name=nb at c1 HAP
       have hq1:(j0:Int) < (k:Int):=by omega
       have hq2:(i0:Int) < (k:Int):=by omega
       have hq3:(0:Int)≤(j0:Int):=by omega
       have hq4:(0:Int)≤(i0:Int):=by omega
       have hq5:((j0:Int)).toNat=j0:=by omega
       have hq6:((i0:Int)).toNat=i0:=by omega
       by_cases heq:na=nb
       ·subst heq
        have HR:Hid (te=6):=HAP.out rfl
        clear HAP HJ2 HJ hnb
        go_wp2_with fail
        go_quiet (fail)
        go_wp2_with fail
        go_ret
        exact ⟨ret_int HR.out.symm,below_drewN (HB0.out.trans (HB3.out.mono HB0.out.size)) _⟩
       ·obtain ⟨hne1,hne2⟩:=beq_name (a:=na) (b:=nb) heq
        have HJ3:Hid (∀ a,a < j0+1→(ns.getD a ndZ).name≠nb):=fun a ha=>by rw [← hnb];exact HJ2.out (by rw [hnb];exact heq) a ha
        clear HAP HJ2 HJ hnb heq
        go_wp2_with fail
        go_quiet (fail)
        go_wp2_with fail
        exact ⟨⟨j0+1,by omega,by go_num,HJ3,below_drewN HB3.out _⟩,by simp [intOf];omega⟩
      ·have hd3:decide ((j0:Int) < (i0:Int))=false:=by simp;omega
       have HP2:Hid (∀ a b,a < b→b < i0+1→(ns.getD a ndZ).name≠(ns.getD b ndZ).name):=fun a b hab hb=>by
        by_cases e:b=i0
        ·subst e;exact HJ.out a (by omega)
        ·exact HP.out a b hab (by omega)
       clear HJ HP
       go_wp2_with fail
       exact ⟨⟨i0+1,by omega,by go_num,HP2,HB3⟩,by simp [intOf];omega⟩
    ·have hd2:decide ((i0:Int) < (k:Int))=false:=by simp;omega
     have HR:Hid (te=0):=HE4.out (fun a b hab hb=>HP.out a b hab (by have:=HN.out;omega))
     clear HP HE3 HE4
     go_wp2_with fail
     clear x0 x1
     go_loopw [7] (fun i wr=>i=.int .i64 0∧Hid (Below W0.heap.size W0 wr)) (fun _ _=>0)
     case atStart=>exact ⟨rfl,HB2⟩
     case round=>
      obtain ⟨rfl,HB4⟩:=hrel
      obtain ⟨x0,x1⟩:=HK.out _ HB4.out
      go_wp2_with fail
      go_ret
      exact ⟨ret_int HR.out.symm,HB0.out.trans (HB4.out.mono HB0.out.size)⟩
end Go.Proofs.YtffdoiokmiklgaaGreatDoor
