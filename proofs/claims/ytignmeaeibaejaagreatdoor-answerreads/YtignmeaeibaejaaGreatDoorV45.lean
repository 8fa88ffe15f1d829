import Derived.Test.YtignmeaeibaejaaGreatDoorV27
import Derived.Deep.RegionHeld3
import Derived.StillTactics
import Derived.Test.YtignmeaeibaejaaGreatDoorV30
import Derived.Lib.SmallJoins
import Derived.Test.YtignmeaeibaejaaGreatDoorV41
import Derived.Test.YtignmeaeibaejaaGreatDoorV42
import Derived.Test.YtignmeaeibaejaaGreatDoorV43
import Derived.Test.YtignmeaeibaejaaGreatDoorV44
import Derived.Test.YtignmeaeibaejaaGreatDoorV28
namespace Go.Proofs.YtignmeaeibaejaaGreatDoor
open Go.RowKit
set_option maxHeartbeats 800000 in
set_option maxRecDepth 100000 in
theorem fit1_any (g n:Nat) (E id code typ:Int) (ans cut:Bool) (name:ByteArray) (pa:Option Addr) (cap:Nat) (w:World) (hg:w.heap[g]?=some (.cells #[.int .i64 id,.bool ans,.bool cut,.int .i64 code,.string name,.int .i64 typ,.slice pa n cap] 38 (0,0)))
 (hc:Calls Tryz.prog 22 #[.agg #[.int .i64 id,.bool ans,.bool cut,.int .i64 code,.string name,.int .i64 typ,.slice pa n cap]] w fun r w'=>r=outE E∧Below w.heap.size w w') :
 Calls Tryz.prog 73 #[.pointer (some ⟨g,0,none⟩)] w fun r w'=>r=outE E∧Below w.heap.size w w':=by
 have HC:Hid (Calls Tryz.prog 22 #[.agg #[.int .i64 id,.bool ans,.bool cut,.int .i64 code,.string name,.int .i64 typ,.slice pa n cap]] w fun r w'=>r=outE E∧Below w.heap.size w w'):=hc
 have c0:w.cell? ⟨g,0,none⟩=some (.int .i64 id):=cellsAt hg 0
 have c1:w.cell? ⟨g,1,none⟩=some (.bool ans):=cellsAt hg 1
 have c2:w.cell? ⟨g,2,none⟩=some (.bool cut):=cellsAt hg 2
 have c3:w.cell? ⟨g,3,none⟩=some (.int .i64 code):=cellsAt hg 3
 have c4:w.cell? ⟨g,4,none⟩=some (.string name):=cellsAt hg 4
 have c5:w.cell? ⟨g,5,none⟩=some (.int .i64 typ):=cellsAt hg 5
 have c6:w.cell? ⟨g,6,none⟩=some (.slice pa n cap):=cellsAt hg 6
 clear hc hg
 go_enter Tryz.func73,Tryz.ntmps73
 go_wp2_with fail
 refine HC.out.mono ?_
 rintro e w1 ⟨rfl,hb1⟩
 have HB1:Hid (Below w.heap.size w w1):=hb1
 clear hb1
 by_cases h0:E=0
 ·subst h0
  rw [outE_0]
  go_wp2_with fail
  simp [bodyPost,results,Tryz.results73]
  exact ⟨rfl,HB1.out⟩
 ·rw [outE_ne h0]
  exact ⟨rfl,(outE_ne h0).symm,HB1.out⟩
set_option maxHeartbeats 1600000 in
set_option maxRecDepth 100000 in
theorem fit_any (id code typ size:Int) (ans cut:Bool) (name:ByteArray) (rs:List Rc.Rec) (pa:Option Addr) (cap:Nat) (w:World) (hm:ML w) (hs:name.size≤maxLen) (hv:Rc.Sl w (.slice pa rs.length cap) rs) (hcap:rs.length≤cap) :
 Calls Tryz.prog 31 #[.agg #[.int .i64 id,.bool ans,.bool cut,.int .i64 code,.string name,.int .i64 typ,.slice pa rs.length cap],.int .i64 size] w fun e w'=>e=.returned (.tuple #[.string (fitT id code typ ans cut name rs size),.int .i64 (fitE id code typ ans cut name rs size)])∧Below w.heap.size w w':=by
 have HSL:Hid (Rc.Sl w (.slice pa rs.length cap) rs):=hv
 obtain ⟨pa',cap',heq,hok,hrow⟩:=hv
 injection heq with q1 q2 q3
 subst q1
 clear q2 q3
 have HROW:Hid (∀ W,Below w.heap.size w W→rs=[]∨∃ b off,pa=some ⟨b,off,none⟩∧b < W.heap.size∧Rc.Row W b off rs):=fun W hW=>by
  rcases hrow with h | ⟨b,off,h1,h2,h3⟩
  ·exact .inl h
  ·exact .inr ⟨b,off,h1,Nat.lt_of_lt_of_le h2 hW.size,row_below h3 hW h2⟩
 have HWR:Hid (chkMsg id code typ name rs=0→∀ W,Below w.heap.size w W→∀ j,j≤rs.length→Calls Tryz.prog 23 #[.agg #[.int .i64 id,.bool ans,.bool (cut || decide (j < rs.length)),.int .i64 code,.string name,.int .i64 typ,.slice pa j cap]] W fun e w'=>e=.returned (.string ⟨(fitB id code typ ans cut name rs j).toArray⟩)∧Below W.heap.size W w'):=fun hc W hW j hj=>by
  obtain ⟨f1,f2,f3⟩:=chkMsg_facts hc
  have hl:(rs.take j).length=j:=by rw [List.length_take];omega
  have h:=written_any id code typ ans (cut || decide (j < rs.length)) name (rs.take j) pa cap W (hm.below hW) f2 (by omega) (fun r hr=>f3 r (List.mem_of_mem_take hr)) (fun W2 hW2=>by
   rcases HROW.out W2 (hW.trans (hW2.mono hW.size)) with h | ⟨b,off,h1,h2,h3⟩
   ·exact .inl (by rw [h];simp)
   ·exact .inr ⟨b,off,h1,h2,row_take h3 j⟩)
  rw [hl] at h
  exact h
 have HC:Hid (∀ W,Below w.heap.size w W→Calls Tryz.prog 22 #[.agg #[.int .i64 id,.bool ans,.bool cut,.int .i64 code,.string name,.int .i64 typ,.slice pa rs.length cap]] W fun r w'=>r=outE (chkMsg id code typ name rs)∧Below W.heap.size W w'):=fun W hW=>dcheck_any id code typ ans cut name rs _ W hs (HSL.out.below hW)
 have ef:∀ args W,(callFunc 73 args).run Tryz.prog W=.ok (.enter 73 args) W:=enters_of Tryz.func73 (by kernel_rfl) rfl
 have K0:Hid (within size 12 512=false→fitT id code typ ans cut name rs size=⟨#[]⟩∧fitE id code typ ans cut name rs size=3):=fun h=>by
  unfold fitT fitE
  rw [if_pos h,if_pos h]
  exact ⟨rfl,rfl⟩
 have K1:Hid (within size 12 512=true→chkMsg id code typ name rs≠0→fitT id code typ ans cut name rs size=⟨#[]⟩∧fitE id code typ ans cut name rs size=chkMsg id code typ name rs):=fun h h1=>by
  unfold fitT fitE
  rw [if_neg (by simp [h]),if_neg h1,if_neg (by simp [h]),if_neg h1]
  exact ⟨rfl,rfl⟩
 have K2:Hid (within size 12 512=true→chkMsg id code typ name rs=0→∀ j,j≤rs.length→(∀ i,j < i→i≤rs.length→size < ((fitB id code typ ans cut name rs i).length:Int))→((fitB id code typ ans cut name rs j).length:Int)≤size→fitT id code typ ans cut name rs size=⟨(fitB id code typ ans cut name rs j).toArray⟩∧fitE id code typ ans cut name rs size=0):=fun h h1 j hj hi hl=>by
  unfold fitT fitE
  rw [if_neg (by simp [h]),if_pos h1,if_neg (by simp [h]),if_pos h1,fitN_yes hj hi hl]
  exact ⟨rfl,rfl⟩
 have K3:Hid (within size 12 512=true→chkMsg id code typ name rs=0→(∀ i,i≤rs.length→size < ((fitB id code typ ans cut name rs i).length:Int))→fitT id code typ ans cut name rs size=⟨#[]⟩∧fitE id code typ ans cut name rs size=2):=fun h h1 hi=>by
  unfold fitT fitE
  rw [if_neg (by simp [h]),if_pos h1,if_neg (by simp [h]),if_pos h1,fitN_no hi]
  exact ⟨rfl,rfl⟩
 have HN20:Hid (chkMsg id code typ name rs=0→rs.length≤20):=fun h=>(chkMsg_facts h).1
 have HNIL:Hid (0 < rs.length→∃ b off,pa=some ⟨b,off,none⟩):=fun h=>by
  rcases hrow with h1 | ⟨b,off,h1,_⟩
  ·rw [h1] at h;simp at h
  ·exact ⟨b,off,h1⟩
 clear hm hs hok hrow HROW HSL
 generalize chkMsg id code typ name rs=E at *
 generalize fitT id code typ ans cut name rs size=RT at *
 generalize fitE id code typ ans cut name rs size=RE at *
 generalize fitB id code typ ans cut name rs=f at *
 generalize rs.length=n at *
 go_enter Tryz.func31,Tryz.ntmps31
 go_wp2_with fail
 obtain ⟨w0,hw0⟩:∃ w0,w0=w.alloc (.cells #[.int .i64 id,.bool ans,.bool cut,.int .i64 code,.string name,.int .i64 typ,.slice pa n cap] 38):=⟨_,rfl⟩
 have hg0:w0.heap[w.heap.size]?=some (.cells #[.int .i64 id,.bool ans,.bool cut,.int .i64 code,.string name,.int .i64 typ,.slice pa n cap] 38 (0,0)):=by rw [hw0];exact heap_alloc_new w _
 have HB0:Hid (Below w.heap.size w w0):=(show Below _ _ _ by rw [hw0];exact (Below.refl _ _).alloc (Nat.le_refl _) _)
 have hl0:w.heap.size < w0.heap.size:=(Array.getElem?_eq_some_iff.1 hg0).1
 rw [← hw0]
 clear hw0
 refine (within_any _ _ _ _).mono ?_
 rintro e w00 ⟨rfl,hw00⟩
 subst hw00
 by_cases hwi:within size 12 512=false
 ·obtain ⟨e1,e2⟩:=K0.out hwi
  rw [hwi]
  go_wp2_with fail
  go_ret2
  exact ⟨by rw [e1,e2];rfl,HB0.out⟩
 have hwt:within size 12 512=true:=by simpa using hwi
 have HK1:Hid (E≠0→RT=⟨#[]⟩∧RE=E):=K1.out hwt
 have HK2:Hid (E=0→∀ j,j≤n→(∀ i,j < i→i≤n→size < ((f i).length:Int))→((f j).length:Int)≤size→RT=⟨(f j).toArray⟩∧RE=0):=K2.out hwt
 have HK3:Hid (E=0→(∀ i,i≤n→size < ((f i).length:Int))→RT=⟨#[]⟩∧RE=2):=K3.out hwt
 rw [hwt]
 clear K0 K1 K2 K3 hwi hwt
 have HAT:Hid (Calls Tryz.prog 20 #[.func (.func 73) #[] #[.pointer (some ⟨w.heap.size,0,none⟩)]] w00 fun r w'=>r=.returned (.int .i64 E)∧Below w00.heap.size w00 w'):=(show Calls _ _ _ _ _ by
  refine attempt_any 73 #[.pointer (some ⟨w.heap.size,0,none⟩)] E w00 ef ?_
  have h:=fit1_any w.heap.size n E id code typ ans cut name pa cap (w00.alloc (.cells #[.int .i64 0] 29)) ((Lib.alloc_old w00 _ _ hl0).trans hg0) (HC.out _ (HB0.out.alloc (Nat.le_of_lt hl0) _))
  simpa using h)
 clear ef HC
 go_wp2_with fail
 refine HAT.out.mono ?_
 rintro e w1 ⟨rfl,hb1⟩
 have HB1:Hid (Below w.heap.size w w1):=HB0.out.trans (hb1.mono (Nat.le_of_lt hl0))
 have hg1:w1.heap[w.heap.size]?=some (.cells #[.int .i64 id,.bool ans,.bool cut,.int .i64 code,.string name,.int .i64 typ,.slice pa n cap] 38 (0,0)):=(hb1.block _ hl0).trans hg0
 clear hb1 hg0 HAT
 by_cases h0:E=0
 ·have HWR2:Hid (∀ W,Below w.heap.size w W→∀ j,j≤n→Calls Tryz.prog 23 #[.agg #[.int .i64 id,.bool ans,.bool (cut || decide (j < n)),.int .i64 code,.string name,.int .i64 typ,.slice pa j cap]] W fun e w'=>e=.returned (.string ⟨(f j).toArray⟩)∧Below W.heap.size W w'):=HWR.out h0
  have HJ2:Hid (∀ j,j≤n→(∀ i,j < i→i≤n→size < ((f i).length:Int))→((f j).length:Int)≤size→RT=⟨(f j).toArray⟩∧RE=0):=HK2.out h0
  have HJ3:Hid ((∀ i,i≤n→size < ((f i).length:Int))→RT=⟨#[]⟩∧RE=2):=HK3.out h0
  have hn20:=HN20.out h0
  clear HWR HK1 HK2 HK3 HN20
  subst h0
  have hcn:(cut || decide (n < n))=cut:=by simp
  have HW1:=HWR2.out w1 HB1.out n (Nat.le_refl _)
  rw [hcn] at HW1
  have HW2:Hid (Calls Tryz.prog 23 #[.agg #[.int .i64 id,.bool ans,.bool cut,.int .i64 code,.string name,.int .i64 typ,.slice pa n cap]] w1 fun e w'=>e=.returned (.string ⟨(f n).toArray⟩)∧Below w1.heap.size w1 w'):=HW1
  clear HW1
  have c0:w1.cell? ⟨w.heap.size,0,none⟩=some (.int .i64 id):=cellsAt hg1 0
  have c1:w1.cell? ⟨w.heap.size,1,none⟩=some (.bool ans):=cellsAt hg1 1
  have c2:w1.cell? ⟨w.heap.size,2,none⟩=some (.bool cut):=cellsAt hg1 2
  have c3:w1.cell? ⟨w.heap.size,3,none⟩=some (.int .i64 code):=cellsAt hg1 3
  have c4:w1.cell? ⟨w.heap.size,4,none⟩=some (.string name):=cellsAt hg1 4
  have c5:w1.cell? ⟨w.heap.size,5,none⟩=some (.int .i64 typ):=cellsAt hg1 5
  have c6:w1.cell? ⟨w.heap.size,6,none⟩=some (.slice pa n cap):=cellsAt hg1 6
  have hl1:w.heap.size < w1.heap.size:=(Array.getElem?_eq_some_iff.1 hg1).1
  go_wp2_with fail
  refine HW2.out.mono ?_
  rintro e w2 ⟨rfl,hb2⟩
  have HB2:Hid (Below w.heap.size w w2):=HB1.out.trans (hb2.mono HB1.out.size)
  have HG2:Hid (w2.heap[w.heap.size]?=some (.cells #[.int .i64 id,.bool ans,.bool (cut || decide (n < n)),.int .i64 code,.string name,.int .i64 typ,.slice pa n cap] 38 (0,0))):=(show _=_ by rw [hcn];exact (hb2.block _ hl1).trans hg1)
  have d6:w2.cell? ⟨w.heap.size,6,none⟩=some (.slice pa n cap):=cellsAt HG2.out 6
  clear hb2 hg1 HW2 c0 c1 c2 c3 c4 c5 c6 hcn
  go_wp2_with fail
  clear d6
  go_loopw [7,8] (fun sv nv wr=>∃ j:Nat,j≤n∧sv=.string ⟨(f j).toArray⟩∧nv=.int .i64 j∧Hid (Below w.heap.size w wr)∧Hid (wr.heap[w.heap.size]?=some (.cells #[.int .i64 id,.bool ans,.bool (cut || decide (j < n)),.int .i64 code,.string name,.int .i64 typ,.slice pa j cap] 38 (0,0)))∧Hid (∀ i,j < i→i≤n→size < ((f i).length:Int))) (fun _ nv _=>(intOf nv).toNat)
  case atStart=>exact ⟨n,Nat.le_refl _,rfl,rfl,HB2,HG2,fun i h1 h2=>by omega⟩
  case round=>
   obtain ⟨j,hj,rfl,rfl,HBR,HGR,HI⟩:=hrel
   have hsz:=HBR.out.size
   have hlw:w.heap.size < wr.heap.size:=(Array.getElem?_eq_some_iff.1 HGR.out).1
   have hts:(⟨(f j).toArray⟩:ByteArray).size=(f j).length:=by simp [ByteArray.size]
   by_cases hbig:size < ((f j).length:Int)
   ·by_cases hj0:j=0
    ·have HALL:Hid (∀ i,i≤n→size < ((f i).length:Int)):=fun i hi=>by
      rcases Nat.eq_zero_or_pos i with h | h
      ·rw [h,← hj0];exact hbig
      ·exact HI.out i (by omega) hi
     obtain ⟨e1,e2⟩:=HJ3.out HALL.out
     have hd1:decide (size < ((⟨(f j).toArray⟩:ByteArray).size:Int))=true:=by rw [hts];simpa using hbig
     have hd2:decide (0 < j)=false:=by simp;omega
     generalize (⟨(f j).toArray⟩:ByteArray)=T at *
     clear hts hbig hj0
     go_wp2_with fail
     go_ret2
     exact ⟨by rw [e1,e2];rfl,HBR.out⟩
    ·have hd1:decide (size < ((⟨(f j).toArray⟩:ByteArray).size:Int))=true:=by rw [hts];simpa using hbig
     have hd2:decide ((0:Int) < (j:Int))=true:=by simp;omega
     have HI2:Hid (∀ i,j - 1 < i→i≤n→size < ((f i).length:Int)):=fun i h1 h2=>by
      rcases Nat.lt_or_ge j i with h | h
      ·exact HI.out i h h2
      ·obtain rfl:i=j:=by omega
       exact hbig
     obtain ⟨b,off,hpa⟩:=HNIL.out (by omega)
     subst hpa
     generalize (⟨(f j).toArray⟩:ByteArray)=T at *
     clear hts hbig HI
     have c0:wr.cell? ⟨w.heap.size,0,none⟩=some (.int .i64 id):=cellsAt HGR.out 0
     have c1:wr.cell? ⟨w.heap.size,1,none⟩=some (.bool ans):=cellsAt HGR.out 1
     have c2:wr.cell? ⟨w.heap.size,2,none⟩=some (.bool (cut || decide (j < n))):=cellsAt HGR.out 2
     have c3:wr.cell? ⟨w.heap.size,3,none⟩=some (.int .i64 code):=cellsAt HGR.out 3
     have c4:wr.cell? ⟨w.heap.size,4,none⟩=some (.string name):=cellsAt HGR.out 4
     have c5:wr.cell? ⟨w.heap.size,5,none⟩=some (.int .i64 typ):=cellsAt HGR.out 5
     have c6:wr.cell? ⟨w.heap.size,6,none⟩=some (.slice (some ⟨b,off,none⟩) j cap):=cellsAt HGR.out 6
     have z2:wr.frozen? ⟨w.heap.size,2,none⟩=false:=by simp [World.frozen?,HGR.out]
     have z6:wr.frozen? ⟨w.heap.size,6,none⟩=false:=by simp [World.frozen?,HGR.out]
     obtain ⟨k,hk⟩:∃ k,k=j - 1:=⟨_,rfl⟩
     have hjk:(j:Int)=(k:Int)+1:=by omega
     have hwr:IntKind.i64.wrap ((j:Int) - 1)=(k:Int):=by rw [IntKind.wrap_i64];omega
     have hsub:((j:Int) - 1)=(k:Int):=by omega
     have hk0:(0:Int)≤(k:Int):=by omega
     have hk1:(k:Int)≤(cap:Int):=by omega
     have hk2:((k:Int)).toNat=k:=by omega
     have hcut:(cut || decide (k < n))=true:=by simp;right;omega
     have HBW:Hid (Below w.heap.size w ((wr.setCell ⟨w.heap.size,6,none⟩ (.slice (some ⟨b,off,none⟩) (j - 1) cap)).setCell ⟨w.heap.size,2,none⟩ (.bool true))):=(HBR.out.setCell (p:=⟨w.heap.size,6,none⟩) (Nat.le_refl _) _).setCell (p:=⟨w.heap.size,2,none⟩) (Nat.le_refl _) _
     have HGW:Hid (((wr.setCell ⟨w.heap.size,6,none⟩ (.slice (some ⟨b,off,none⟩) (j - 1) cap)).setCell ⟨w.heap.size,2,none⟩ (.bool true)).heap[w.heap.size]?=some (.cells #[.int .i64 id,.bool ans,.bool true,.int .i64 code,.string name,.int .i64 typ,.slice (some ⟨b,off,none⟩) (j - 1) cap] 38 (0,0))):=Joins.block_setCell (i:=2) (Joins.block_setCell (i:=6) HGR.out _) _
     have hlW:w.heap.size < ((wr.setCell ⟨w.heap.size,6,none⟩ (.slice (some ⟨b,off,none⟩) (j - 1) cap)).setCell ⟨w.heap.size,2,none⟩ (.bool true)).heap.size:=by simpa using hlw
     have HWK:=HWR2.out ((wr.setCell ⟨w.heap.size,6,none⟩ (.slice (some ⟨b,off,none⟩) (j - 1) cap)).setCell ⟨w.heap.size,2,none⟩ (.bool true)) HBW.out (j - 1) (by omega)
     rw [show (cut || decide (j - 1 < n))=true by rw [← hk];exact hcut] at HWK
     have HWL:Hid (Calls Tryz.prog 23 #[.agg #[.int .i64 id,.bool ans,.bool true,.int .i64 code,.string name,.int .i64 typ,.slice (some ⟨b,off,none⟩) (j - 1) cap]] ((wr.setCell ⟨w.heap.size,6,none⟩ (.slice (some ⟨b,off,none⟩) (j - 1) cap)).setCell ⟨w.heap.size,2,none⟩ (.bool true)) fun e w'=>e=.returned (.string ⟨(f (j - 1)).toArray⟩)∧Below ((wr.setCell ⟨w.heap.size,6,none⟩ (.slice (some ⟨b,off,none⟩) (j - 1) cap)).setCell ⟨w.heap.size,2,none⟩ (.bool true)).heap.size ((wr.setCell ⟨w.heap.size,6,none⟩ (.slice (some ⟨b,off,none⟩) (j - 1) cap)).setCell ⟨w.heap.size,2,none⟩ (.bool true)) w'):=HWK
     clear HWK
     go_wp2_with fail
     refine HWL.out.mono ?_
     rintro e w9 ⟨rfl,hb9⟩
     have HB9:Hid (Below w.heap.size w w9):=HBW.out.trans (hb9.mono (Nat.le_of_lt hlW))
     have HG9:Hid (w9.heap[w.heap.size]?=some (.cells #[.int .i64 id,.bool ans,.bool (cut || decide (j - 1 < n)),.int .i64 code,.string name,.int .i64 typ,.slice (some ⟨b,off,none⟩) (j - 1) cap] 38 (0,0))):=(show _=_ by
      rw [show (cut || decide (j - 1 < n))=true by rw [← hk];exact hcut]
      exact (hb9.block _ hlW).trans HGW.out)
     clear hb9 c0 c1 c2 c3 c4 c5 c6 z2 z6
     go_wp2_with fail
     exact ⟨⟨j - 1,by omega,rfl,by first | rfl | (rw [← hk,hsub]) | go_num,HB9,HG9,HI2⟩,by simp [intOf];omega⟩
   ·obtain ⟨e1,e2⟩:=HJ2.out j hj HI.out (by omega)
    have hd1:decide (size < ((⟨(f j).toArray⟩:ByteArray).size:Int))=false:=by rw [hts];simpa using hbig
    generalize (⟨(f j).toArray⟩:ByteArray)=T at *
    clear hts hbig
    go_wp2_with fail
    go_ret2
    exact ⟨by rw [e1,e2];rfl,HBR.out⟩
 ·obtain ⟨e1,e2⟩:=HK1.out h0
  have h1:(E != 0)=true:=by simpa using h0
  go_wp2_with fail
  go_ret2
  exact ⟨by rw [e1,e2];rfl,HB1.out⟩
end Go.Proofs.YtignmeaeibaejaaGreatDoor
