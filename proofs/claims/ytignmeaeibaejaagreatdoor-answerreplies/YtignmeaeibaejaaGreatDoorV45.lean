import Derived.Test.YtignmeaeibaejaaGreatDoorV27
import Derived.Deep.RegionHeld3
import Derived.StillTactics
import Derived.Test.YtignmeaeibaejaaGreatDoorV30
import Derived.Lib.SmallJoins
import Derived.Test.YtignmeaeibaejaaGreatDoorV41
import Derived.Test.YtignmeaeibaejaaGreatDoorV42
import Derived.Test.YtignmeaeibaejaaGreatDoorV43
import Derived.Test.YtignmeaeibaejaaGreatDoorV44
import Derived.Test.YtignmeaeibaejaaGreatDoorV28
namespace Go.Proofs.YtignmeaeibaejaaGreatDoor
open Go.RowKit
set_option maxHeartbeats 1600000 in
set_option maxRecDepth 100000 in
theorem refMsg_any (id code typ:Int) (ans cut:Bool) (name:ByteArray) (rs:List Rc.Rec) (v:Value) (w:World) (hs:name.size≤2000000) (hrs:∀ r∈rs,r.name.size≤2000000∧r.target.size≤2000000) (hv:Rc.Sl w v rs) :
 Calls Tryz.prog 38 #[.agg #[.int .i64 id,.bool ans,.bool cut,.int .i64 code,.string name,.int .i64 typ,v]] w fun e w'=>e=.returned (.int .i64 (chkMsg id code typ name rs))∧Below w.heap.size w w':=by
 have HN:Hid (∀ W,Calls Tryz.prog 39 #[.string name] W fun e w'=>e=.returned (.int .i64 (chkN name))∧Below W.heap.size W w'):=fun W=>rCheckName_any _ _ hs
 obtain ⟨pa,cap,rfl,hok,hrow⟩:=hv
 have HROW:Hid (rs=[]∨∃ b off,pa=some ⟨b,off,none⟩∧b < w.heap.size∧Rc.Row w b off rs):=hrow
 have HRR:Hid (∀ k,k < rs.length→∀ W,Calls Tryz.prog 78 #[recV (rs.getD k Rc.dm)] W fun e w'=>e=.returned (.int .i64 (chkRec (rs.getD k Rc.dm)))∧Below W.heap.size W w'):=fun k hk W=>by
  have h:=hrs (rs.getD k Rc.dm) (by simp [List.getD,List.getElem?_eq_getElem hk])
  exact refRec_any _ W h.1 h.2
 clear hok hrow hs hrs
 generalize hE:chkMsg id code typ name rs=E
 unfold chkMsg at hE
 go_enter Tryz.func38,Tryz.ntmps38
 go_wp2_with fail
 have hg0:(w.alloc (.cells #[.int .i64 id,.bool ans,.bool cut,.int .i64 code,.string name,.int .i64 typ,.slice pa rs.length cap] 38)).heap[w.heap.size]?=some (.cells #[.int .i64 id,.bool ans,.bool cut,.int .i64 code,.string name,.int .i64 typ,.slice pa rs.length cap] 38 (0,0)):=heap_alloc_new w _
 obtain ⟨w0,hw0⟩:∃ w0,w0=w.alloc (.cells #[.int .i64 id,.bool ans,.bool cut,.int .i64 code,.string name,.int .i64 typ,.slice pa rs.length cap] 38):=⟨_,rfl⟩
 have HB0:Hid (Below w.heap.size w w0):=(show Below _ _ _ by rw [hw0];exact (Below.refl _ _).alloc (Nat.le_refl _) _)
 rw [← hw0] at hg0 ⊢
 clear hw0
 have f3:w0.cell? ⟨w.heap.size,3,none⟩=some (.int .i64 code):=cellsAt hg0 3
 have f4:w0.cell? ⟨w.heap.size,4,none⟩=some (.string name):=cellsAt hg0 4
 have f6:w0.cell? ⟨w.heap.size,6,none⟩=some (.slice pa rs.length cap):=cellsAt hg0 6
 refine (between_any _ _ _ _).mono ?_
 rintro e w1 ⟨rfl,hw1⟩
 subst hw1
 by_cases h1:within id 0 65535=false
 ·rw [if_pos (by rw [h1];rfl)] at hE
  subst hE
  rw [h1]
  go_wp2_with fail
  go_ret
  exact ⟨rfl,HB0.out⟩
 have h1t:within id 0 65535=true:=by simpa using h1
 rw [h1t] at hE ⊢
 rw [Bool.true_and] at hE
 go_wp2_with fail
 refine (between_any _ _ _ _).mono ?_
 rintro e w2 ⟨rfl,hw2⟩
 subst hw2
 by_cases h2:within code 0 15=false
 ·rw [if_pos h2] at hE
  subst hE
  rw [h2]
  go_wp2_with fail
  go_ret
  exact ⟨rfl,HB0.out⟩
 rw [if_neg h2] at hE
 rw [show within code 0 15=true by simpa using h2]
 by_cases h3:20 < rs.length
 ·rw [if_pos h3] at hE
  subst hE
  have h8:decide (20 < (rs.length:Int))=true:=by simp;omega
  go_wp2_with fail
  go_ret
  exact ⟨rfl,HB0.out⟩
 rw [if_neg h3] at hE
 have h8:decide (20 < (rs.length:Int))=false:=by simp;omega
 go_wp2_with fail
 refine (HN.out _).mono ?_
 rintro e w5 ⟨rfl,hb5⟩
 have hg5:=(hb5.block w.heap.size (Array.getElem?_eq_some_iff.1 hg0).1).trans hg0
 have hl5:w.heap.size < w5.heap.size:=(Array.getElem?_eq_some_iff.1 hg5).1
 have HB5:Hid (Below w.heap.size w w5):=HB0.out.trans (hb5.mono HB0.out.size)
 clear hg0 hb5 f3 f4 f6 h8
 by_cases h4:chkN name=0
 ·rw [h4]
  rw [if_neg (by simpa using h4)] at hE
  have f5:w5.cell? ⟨w.heap.size,5,none⟩=some (.int .i64 typ):=cellsAt hg5 5
  have f6:w5.cell? ⟨w.heap.size,6,none⟩=some (.slice pa rs.length cap):=cellsAt hg5 6
  go_wp2_with fail
  refine (isType_any _ _).mono ?_
  rintro e w6 ⟨rfl,hw6⟩
  subst hw6
  by_cases h5:typB typ=false
  ·rw [if_pos h5] at hE
   subst hE
   rw [h5]
   go_wp2_with fail
   go_ret
   exact ⟨rfl,HB5.out⟩
  rw [if_neg h5] at hE
  rw [show typB typ=true by simpa using h5]
  have HEE:Hid (chkRs rs=E):=hE
  have hn20:rs.length≤20:=by omega
  clear hE h1 h1t h2 h3 h4 h5
  generalize hnn:rs.length=n at *
  have HNN:Hid (rs.length=n):=hnn
  clear hnn
  have HG5:Hid (w6.heap[w.heap.size]?=some (.cells #[.int .i64 id,.bool ans,.bool cut,.int .i64 code,.string name,.int .i64 typ,.slice pa n cap] 38 (0,0))):=hg5
  clear hg5
  go_wp2_with fail
  go_loopw [3,4] (fun ev i wr=>∃ k:Nat,k≤n∧ev=.int .i64 0∧i=.int .i64 k∧Hid (Below w.heap.size w wr)∧Hid (wr.heap[w.heap.size]?=some (.cells #[.int .i64 id,.bool ans,.bool cut,.int .i64 code,.string name,.int .i64 typ,.slice pa n cap] 38 (0,0)))∧Hid (chkRs rs=chkRs (rs.drop k))) (fun _ i _=>n - (intOf i).toNat)
  case atStart=>exact ⟨0,Nat.zero_le _,rfl,rfl,HB5,HG5,rfl⟩
  case round=>
   obtain ⟨k,hk,rfl,rfl,HBR,HGR,HZ⟩:=hrel
   have hsz:=HBR.out.size
   have g6:wr.cell? ⟨w.heap.size,6,none⟩=some (.slice pa n cap):=cellsAt HGR.out 6
   have hlw:w.heap.size < wr.heap.size:=(Array.getElem?_eq_some_iff.1 HGR.out).1
   by_cases hlt:k < n
   ·obtain ⟨b,off,hpa,hbw,hr⟩:∃ b off,pa=some ⟨b,off,none⟩∧b < w.heap.size∧Rc.Row w b off rs:=by
     rcases HROW.out with h | h
     ·have:=HNN.out;rw [h] at this;simp at this;omega
     ·exact h
    subst hpa
    obtain ⟨g0,g1,g2,g3,g4,g5,g7⟩:=hr k (by rw [HNN.out];exact hlt)
    have c0:=(HBR.out.cell (p:=⟨b,off+k * 7,none⟩) hbw).trans g0
    have c1:=(HBR.out.cell (p:=⟨b,off+k * 7+1,none⟩) hbw).trans g1
    have c2:=(HBR.out.cell (p:=⟨b,off+k * 7+2,none⟩) hbw).trans g2
    have c3:=(HBR.out.cell (p:=⟨b,off+k * 7+3,none⟩) hbw).trans g3
    have c4:=(HBR.out.cell (p:=⟨b,off+k * 7+4,none⟩) hbw).trans g4
    have c5:=(HBR.out.cell (p:=⟨b,off+k * 7+5,none⟩) hbw).trans g5
    have c6:=(HBR.out.cell (p:=⟨b,off+k * 7+6,none⟩) hbw).trans g7
    clear g0 g1 g2 g3 g4 g5 g7 hr
    have HST:Hid (chkRs rs=if chkRec (rs.getD k Rc.dm)=0 then chkRs (rs.drop (k+1)) else chkRec (rs.getD k Rc.dm)):=chkRs_step (by rw [HNN.out];exact hlt) HZ.out
    have HRE:=HRR.out k hlt
    have HRE2:Hid (∀ W,Calls Tryz.prog 78 #[recV (rs.getD k Rc.dm)] W fun e w'=>e=.returned (.int .i64 (chkRec (rs.getD k Rc.dm)))∧Below W.heap.size W w'):=HRE
    clear HRE
    generalize rs.getD k Rc.dm=r at *
    have hd:decide ((k:Int) < (n:Int))=true:=by simp;omega
    have hi0:(0:Int)≤(k:Int):=by omega
    have hi1:(k:Int) < (n:Int):=by omega
    have hi2:((k:Int)).toNat=k:=by omega
    go_wp2_with fail
    refine (HRE2.out _).mono ?_
    rintro e w9 ⟨rfl,hb9⟩
    have HB9:Hid (Below w.heap.size w w9):=HBR.out.trans (hb9.mono hsz)
    have HG9:Hid (w9.heap[w.heap.size]?=some (.cells #[.int .i64 id,.bool ans,.bool cut,.int .i64 code,.string name,.int .i64 typ,.slice (some ⟨b,off,none⟩) n cap] 38 (0,0))):=(hb9.block _ hlw).trans HGR.out
    clear hb9 c0 c1 c2 c3 c4 c5 c6 g6
    by_cases h9:chkRec r=0
    ·have HZ2:Hid (chkRs rs=chkRs (rs.drop (k+1))):=(show _=_ by rw [HST.out,if_pos h9])
     rw [h9]
     clear HST h9
     go_wp2_with fail
     exact ⟨⟨k+1,by omega,rfl,by go_num,HB9,HG9,HZ2⟩,by simp [intOf];omega⟩
    ·have HF:Hid (E=chkRec r):=(show _=_ by rw [← HEE.out,HST.out,if_neg h9])
     have h8:(chkRec r != 0)=true:=by simpa using h9
     go_wp2_with fail
     go_ret
     exact ⟨ret_int HF.out.symm,HB9.out⟩
   ·have HF:Hid (E=0):=(show E=0 by rw [← HEE.out,HZ.out,List.drop_of_length_le (by rw [HNN.out];omega)];rfl)
    have hd:decide ((k:Int) < (n:Int))=false:=by simp;omega
    go_wp2_with fail
    go_ret
    exact ⟨ret_int HF.out.symm,HBR.out⟩
 ·rw [if_pos h4] at hE
  subst hE
  have h9:(chkN name != 0)=true:=by simpa using h4
  go_wp2_with fail
  go_ret
  exact ⟨rfl,HB5.out⟩
set_option maxHeartbeats 800000 in
set_option maxRecDepth 100000 in
theorem fit1_any (g n:Nat) (E id code typ:Int) (ans cut:Bool) (name:ByteArray) (pa:Option Addr) (cap:Nat) (w:World) (hg:w.heap[g]?=some (.cells #[.int .i64 id,.bool ans,.bool cut,.int .i64 code,.string name,.int .i64 typ,.slice pa n cap] 38 (0,0)))
 (hc:Calls Tryz.prog 22 #[.agg #[.int .i64 id,.bool ans,.bool cut,.int .i64 code,.string name,.int .i64 typ,.slice pa n cap]] w fun r w'=>r=outE E∧Below w.heap.size w w') :
 Calls Tryz.prog 73 #[.pointer (some ⟨g,0,none⟩)] w fun r w'=>r=outE E∧Below w.heap.size w w':=by
 have HC:Hid (Calls Tryz.prog 22 #[.agg #[.int .i64 id,.bool ans,.bool cut,.int .i64 code,.string name,.int .i64 typ,.slice pa n cap]] w fun r w'=>r=outE E∧Below w.heap.size w w'):=hc
 have c0:w.cell? ⟨g,0,none⟩=some (.int .i64 id):=cellsAt hg 0
 have c1:w.cell? ⟨g,1,none⟩=some (.bool ans):=cellsAt hg 1
 have c2:w.cell? ⟨g,2,none⟩=some (.bool cut):=cellsAt hg 2
 have c3:w.cell? ⟨g,3,none⟩=some (.int .i64 code):=cellsAt hg 3
 have c4:w.cell? ⟨g,4,none⟩=some (.string name):=cellsAt hg 4
 have c5:w.cell? ⟨g,5,none⟩=some (.int .i64 typ):=cellsAt hg 5
 have c6:w.cell? ⟨g,6,none⟩=some (.slice pa n cap):=cellsAt hg 6
 clear hc hg
 go_enter Tryz.func73,Tryz.ntmps73
 go_wp2_with fail
 refine HC.out.mono ?_
 rintro e w1 ⟨rfl,hb1⟩
 have HB1:Hid (Below w.heap.size w w1):=hb1
 clear hb1
 by_cases h0:E=0
 ·subst h0
  rw [outE_0]
  go_wp2_with fail
  simp [bodyPost,results,Tryz.results73]
  exact ⟨rfl,HB1.out⟩
 ·rw [outE_ne h0]
  exact ⟨rfl,(outE_ne h0).symm,HB1.out⟩
set_option maxHeartbeats 1600000 in
set_option maxRecDepth 100000 in
theorem fit_any (id code typ size:Int) (ans cut:Bool) (name:ByteArray) (rs:List Rc.Rec) (pa:Option Addr) (cap:Nat) (w:World) (hm:ML w) (hs:name.size≤maxLen) (hv:Rc.Sl w (.slice pa rs.length cap) rs) (hcap:rs.length≤cap) :
 Calls Tryz.prog 31 #[.agg #[.int .i64 id,.bool ans,.bool cut,.int .i64 code,.string name,.int .i64 typ,.slice pa rs.length cap],.int .i64 size] w fun e w'=>e=.returned (.tuple #[.string (fitT id code typ ans cut name rs size),.int .i64 (fitE id code typ ans cut name rs size)])∧Below w.heap.size w w':=by
 have HSL:Hid (Rc.Sl w (.slice pa rs.length cap) rs):=hv
 obtain ⟨pa',cap',heq,hok,hrow⟩:=hv
 injection heq with q1 q2 q3
 subst q1
 clear q2 q3
 have HROW:Hid (∀ W,Below w.heap.size w W→rs=[]∨∃ b off,pa=some ⟨b,off,none⟩∧b < W.heap.size∧Rc.Row W b off rs):=fun W hW=>by
  rcases hrow with h | ⟨b,off,h1,h2,h3⟩
  ·exact .inl h
  ·exact .inr ⟨b,off,h1,Nat.lt_of_lt_of_le h2 hW.size,row_below h3 hW h2⟩
 have HWR:Hid (chkMsg id code typ name rs=0→∀ W,Below w.heap.size w W→∀ j,j≤rs.length→Calls Tryz.prog 23 #[.agg #[.int .i64 id,.bool ans,.bool (cut || decide (j < rs.length)),.int .i64 code,.string name,.int .i64 typ,.slice pa j cap]] W fun e w'=>e=.returned (.string ⟨(fitB id code typ ans cut name rs j).toArray⟩)∧Below W.heap.size W w'):=fun hc W hW j hj=>by
  obtain ⟨f1,f2,f3⟩:=chkMsg_facts hc
  have hl:(rs.take j).length=j:=by rw [List.length_take];omega
  have h:=written_any id code typ ans (cut || decide (j < rs.length)) name (rs.take j) pa cap W (hm.below hW) f2 (by omega) (fun r hr=>f3 r (List.mem_of_mem_take hr)) (fun W2 hW2=>by
   rcases HROW.out W2 (hW.trans (hW2.mono hW.size)) with h | ⟨b,off,h1,h2,h3⟩
   ·exact .inl (by rw [h];simp)
   ·exact .inr ⟨b,off,h1,h2,row_take h3 j⟩)
  rw [hl] at h
  exact h
 have HC:Hid (∀ W,Below w.heap.size w W→Calls Tryz.prog 22 #[.agg #[.int .i64 id,.bool ans,.bool cut,.int .i64 code,.string name,.int .i64 typ,.slice pa rs.length cap]] W fun r w'=>r=outE (chkMsg id code typ name rs)∧Below W.heap.size W w'):=fun W hW=>dcheck_any id code typ ans cut name rs _ W hs (HSL.out.below hW)
 have ef:∀ args W,(callFunc 73 args).run Tryz.prog W=.ok (.enter 73 args) W:=enters_of Tryz.func73 (by kernel_rfl) rfl
 have K0:Hid (within size 12 512=false→fitT id code typ ans cut name rs size=⟨#[]⟩∧fitE id code typ ans cut name rs size=3):=fun h=>by
  unfold fitT fitE
  rw [if_pos h,if_pos h]
  exact ⟨rfl,rfl⟩
 have K1:Hid (within size 12 512=true→chkMsg id code typ name rs≠0→fitT id code typ ans cut name rs size=⟨#[]⟩∧fitE id code typ ans cut name rs size=chkMsg id code typ name rs):=fun h h1=>by
  unfold fitT fitE
  rw [if_neg (by simp [h]),if_neg h1,if_neg (by simp [h]),if_neg h1]
  exact ⟨rfl,rfl⟩
 have K2:Hid (within size 12 512=true→chkMsg id code typ name rs=0→∀ j,j≤rs.length→(∀ i,j < i→i≤rs.length→size < ((fitB id code typ ans cut name rs i).length:Int))→((fitB id code typ ans cut name rs j).length:Int)≤size→fitT id code typ ans cut name rs size=⟨(fitB id code typ ans cut name rs j).toArray⟩∧fitE id code typ ans cut name rs size=0):=fun h h1 j hj hi hl=>by
  unfold fitT fitE
  rw [if_neg (by simp [h]),if_pos h1,if_neg (by simp [h]),if_pos h1,fitN_yes hj hi hl]
  exact ⟨rfl,rfl⟩
 have K3:Hid (within size 12 512=true→chkMsg id code typ name rs=0→(∀ i,i≤rs.length→size < ((fitB id code typ ans cut name rs i).length:Int))→fitT id code typ ans cut name rs size=⟨#[]⟩∧fitE id code typ ans cut name rs size=2):=fun h h1 hi=>by
  unfold fitT fitE
  rw [if_neg (by simp [h]),if_pos h1,if_neg (by simp [h]),if_pos h1,fitN_no hi]
  exact ⟨rfl,rfl⟩
 have HN20:Hid (chkMsg id code typ name rs=0→rs.length≤20):=fun h=>(chkMsg_facts h).1
 have HNIL:Hid (0 < rs.length→∃ b off,pa=some ⟨b,off,none⟩):=fun h=>by
  rcases hrow with h1 | ⟨b,off,h1,_⟩
  ·rw [h1] at h;simp at h
  ·exact ⟨b,off,h1⟩
 clear hm hs hok hrow HROW HSL
 generalize chkMsg id code typ name rs=E at *
 generalize fitT id code typ ans cut name rs size=RT at *
 generalize fitE id code typ ans cut name rs size=RE at *
 generalize fitB id code typ ans cut name rs=f at *
 generalize rs.length=n at *
 go_enter Tryz.func31,Tryz.ntmps31
 go_wp2_with fail
 obtain ⟨w0,hw0⟩:∃ w0,w0=w.alloc (.cells #[.int .i64 id,.bool ans,.bool cut,.int .i64 code,.string name,.int .i64 typ,.slice pa n cap] 38):=⟨_,rfl⟩
 have hg0:w0.heap[w.heap.size]?=some (.cells #[.int .i64 id,.bool ans,.bool cut,.int .i64 code,.string name,.int .i64 typ,.slice pa n cap] 38 (0,0)):=by rw [hw0];exact heap_alloc_new w _
 have HB0:Hid (Below w.heap.size w w0):=(show Below _ _ _ by rw [hw0];exact (Below.refl _ _).alloc (Nat.le_refl _) _)
 have hl0:w.heap.size < w0.heap.size:=(Array.getElem?_eq_some_iff.1 hg0).1
 rw [← hw0]
 clear hw0
 refine (within_any _ _ _ _).mono ?_
 rintro e w00 ⟨rfl,hw00⟩
 subst hw00
 by_cases hwi:within size 12 512=false
 ·obtain ⟨e1,e2⟩:=K0.out hwi
  rw [hwi]
  go_wp2_with fail
  go_ret2
  exact ⟨by rw [e1,e2];rfl,HB0.out⟩
 have hwt:within size 12 512=true:=by simpa using hwi
 have HK1:Hid (E≠0→RT=⟨#[]⟩∧RE=E):=K1.out hwt
 have HK2:Hid (E=0→∀ j,j≤n→(∀ i,j < i→i≤n→size < ((f i).length:Int))→((f j).length:Int)≤size→RT=⟨(f j).toArray⟩∧RE=0):=K2.out hwt
 have HK3:Hid (E=0→(∀ i,i≤n→size < ((f i).length:Int))→RT=⟨#[]⟩∧RE=2):=K3.out hwt
 rw [hwt]
 clear K0 K1 K2 K3 hwi hwt
 have HAT:Hid (Calls Tryz.prog 20 #[.func (.func 73) #[] #[.pointer (some ⟨w.heap.size,0,none⟩)]] w00 fun r w'=>r=.returned (.int .i64 E)∧Below w00.heap.size w00 w'):=(show Calls _ _ _ _ _ by
  refine attempt_any 73 #[.pointer (some ⟨w.heap.size,0,none⟩)] E w00 ef ?_
  have h:=fit1_any w.heap.size n E id code typ ans cut name pa cap (w00.alloc (.cells #[.int .i64 0] 29)) ((Lib.alloc_old w00 _ _ hl0).trans hg0) (HC.out _ (HB0.out.alloc (Nat.le_of_lt hl0) _))
  simpa using h)
 clear ef HC
 go_wp2_with fail
 refine HAT.out.mono ?_
 rintro e w1 ⟨rfl,hb1⟩
 have HB1:Hid (Below w.heap.size w w1):=HB0.out.trans (hb1.mono (Nat.le_of_lt hl0))
 have hg1:w1.heap[w.heap.size]?=some (.cells #[.int .i64 id,.bool ans,.bool cut,.int .i64 code,.string name,.int .i64 typ,.slice pa n cap] 38 (0,0)):=(hb1.block _ hl0).trans hg0
 clear hb1 hg0 HAT
 by_cases h0:E=0
 ·have HWR2:Hid (∀ W,Below w.heap.size w W→∀ j,j≤n→Calls Tryz.prog 23 #[.agg #[.int .i64 id,.bool ans,.bool (cut || decide (j < n)),.int .i64 code,.string name,.int .i64 typ,.slice pa j cap]] W fun e w'=>e=.returned (.string ⟨(f j).toArray⟩)∧Below W.heap.size W w'):=HWR.out h0
  have HJ2:Hid (∀ j,j≤n→(∀ i,j < i→i≤n→size < ((f i).length:Int))→((f j).length:Int)≤size→RT=⟨(f j).toArray⟩∧RE=0):=HK2.out h0
  have HJ3:Hid ((∀ i,i≤n→size < ((f i).length:Int))→RT=⟨#[]⟩∧RE=2):=HK3.out h0
  have hn20:=HN20.out h0
  clear HWR HK1 HK2 HK3 HN20
  subst h0
  have hcn:(cut || decide (n < n))=cut:=by simp
  have HW1:=HWR2.out w1 HB1.out n (Nat.le_refl _)
  rw [hcn] at HW1
  have HW2:Hid (Calls Tryz.prog 23 #[.agg #[.int .i64 id,.bool ans,.bool cut,.int .i64 code,.string name,.int .i64 typ,.slice pa n cap]] w1 fun e w'=>e=.returned (.string ⟨(f n).toArray⟩)∧Below w1.heap.size w1 w'):=HW1
  clear HW1
  have c0:w1.cell? ⟨w.heap.size,0,none⟩=some (.int .i64 id):=cellsAt hg1 0
  have c1:w1.cell? ⟨w.heap.size,1,none⟩=some (.bool ans):=cellsAt hg1 1
  have c2:w1.cell? ⟨w.heap.size,2,none⟩=some (.bool cut):=cellsAt hg1 2
  have c3:w1.cell? ⟨w.heap.size,3,none⟩=some (.int .i64 code):=cellsAt hg1 3
  have c4:w1.cell? ⟨w.heap.size,4,none⟩=some (.string name):=cellsAt hg1 4
  have c5:w1.cell? ⟨w.heap.size,5,none⟩=some (.int .i64 typ):=cellsAt hg1 5
  have c6:w1.cell? ⟨w.heap.size,6,none⟩=some (.slice pa n cap):=cellsAt hg1 6
  have hl1:w.heap.size < w1.heap.size:=(Array.getElem?_eq_some_iff.1 hg1).1
  go_wp2_with fail
  refine HW2.out.mono ?_
  rintro e w2 ⟨rfl,hb2⟩
  have HB2:Hid (Below w.heap.size w w2):=HB1.out.trans (hb2.mono HB1.out.size)
  have HG2:Hid (w2.heap[w.heap.size]?=some (.cells #[.int .i64 id,.bool ans,.bool (cut || decide (n < n)),.int .i64 code,.string name,.int .i64 typ,.slice pa n cap] 38 (0,0))):=(show _=_ by rw [hcn];exact (hb2.block _ hl1).trans hg1)
  have d6:w2.cell? ⟨w.heap.size,6,none⟩=some (.slice pa n cap):=cellsAt HG2.out 6
  clear hb2 hg1 HW2 c0 c1 c2 c3 c4 c5 c6 hcn
  go_wp2_with fail
  clear d6
  go_loopw [7,8] (fun sv nv wr=>∃ j:Nat,j≤n∧sv=.string ⟨(f j).toArray⟩∧nv=.int .i64 j∧Hid (Below w.heap.size w wr)∧Hid (wr.heap[w.heap.size]?=some (.cells #[.int .i64 id,.bool ans,.bool (cut || decide (j < n)),.int .i64 code,.string name,.int .i64 typ,.slice pa j cap] 38 (0,0)))∧Hid (∀ i,j < i→i≤n→size < ((f i).length:Int))) (fun _ nv _=>(intOf nv).toNat)
  case atStart=>exact ⟨n,Nat.le_refl _,rfl,rfl,HB2,HG2,fun i h1 h2=>by omega⟩
  case round=>
   obtain ⟨j,hj,rfl,rfl,HBR,HGR,HI⟩:=hrel
   have hsz:=HBR.out.size
   have hlw:w.heap.size < wr.heap.size:=(Array.getElem?_eq_some_iff.1 HGR.out).1
   have hts:(⟨(f j).toArray⟩:ByteArray).size=(f j).length:=by simp [ByteArray.size]
   by_cases hbig:size < ((f j).length:Int)
   ·by_cases hj0:j=0
    ·have HALL:Hid (∀ i,i≤n→size < ((f i).length:Int)):=fun i hi=>by
      rcases Nat.eq_zero_or_pos i with h | h
      ·rw [h,← hj0];exact hbig
      ·exact HI.out i (by omega) hi
     obtain ⟨e1,e2⟩:=HJ3.out HALL.out
     have hd1:decide (size < ((⟨(f j).toArray⟩:ByteArray).size:Int))=true:=by rw [hts];simpa using hbig
     have hd2:decide (0 < j)=false:=by simp;omega
     generalize (⟨(f j).toArray⟩:ByteArray)=T at *
     clear hts hbig hj0
     go_wp2_with fail
     go_ret2
     exact ⟨by rw [e1,e2];rfl,HBR.out⟩
    ·have hd1:decide (size < ((⟨(f j).toArray⟩:ByteArray).size:Int))=true:=by rw [hts];simpa using hbig
     have hd2:decide ((0:Int) < (j:Int))=true:=by simp;omega
     have HI2:Hid (∀ i,j - 1 < i→i≤n→size < ((f i).length:Int)):=fun i h1 h2=>by
      rcases Nat.lt_or_ge j i with h | h
      ·exact HI.out i h h2
      ·obtain rfl:i=j:=by omega
       exact hbig
     obtain ⟨b,off,hpa⟩:=HNIL.out (by omega)
     subst hpa
     generalize (⟨(f j).toArray⟩:ByteArray)=T at *
     clear hts hbig HI
     have c0:wr.cell? ⟨w.heap.size,0,none⟩=some (.int .i64 id):=cellsAt HGR.out 0
     have c1:wr.cell? ⟨w.heap.size,1,none⟩=some (.bool ans):=cellsAt HGR.out 1
     have c2:wr.cell? ⟨w.heap.size,2,none⟩=some (.bool (cut || decide (j < n))):=cellsAt HGR.out 2
     have c3:wr.cell? ⟨w.heap.size,3,none⟩=some (.int .i64 code):=cellsAt HGR.out 3
     have c4:wr.cell? ⟨w.heap.size,4,none⟩=some (.string name):=cellsAt HGR.out 4
     have c5:wr.cell? ⟨w.heap.size,5,none⟩=some (.int .i64 typ):=cellsAt HGR.out 5
     have c6:wr.cell? ⟨w.heap.size,6,none⟩=some (.slice (some ⟨b,off,none⟩) j cap):=cellsAt HGR.out 6
     have z2:wr.frozen? ⟨w.heap.size,2,none⟩=false:=by simp [World.frozen?,HGR.out]
     have z6:wr.frozen? ⟨w.heap.size,6,none⟩=false:=by simp [World.frozen?,HGR.out]
     obtain ⟨k,hk⟩:∃ k,k=j - 1:=⟨_,rfl⟩
     have hjk:(j:Int)=(k:Int)+1:=by omega
     have hwr:IntKind.i64.wrap ((j:Int) - 1)=(k:Int):=by rw [IntKind.wrap_i64];omega
     have hsub:((j:Int) - 1)=(k:Int):=by omega
     have hk0:(0:Int)≤(k:Int):=by omega
     have hk1:(k:Int)≤(cap:Int):=by omega
     have hk2:((k:Int)).toNat=k:=by omega
     have hcut:(cut || decide (k < n))=true:=by simp;right;omega
     have HBW:Hid (Below w.heap.size w ((wr.setCell ⟨w.heap.size,6,none⟩ (.slice (some ⟨b,off,none⟩) (j - 1) cap)).setCell ⟨w.heap.size,2,none⟩ (.bool true))):=(HBR.out.setCell (p:=⟨w.heap.size,6,none⟩) (Nat.le_refl _) _).setCell (p:=⟨w.heap.size,2,none⟩) (Nat.le_refl _) _
     have HGW:Hid (((wr.setCell ⟨w.heap.size,6,none⟩ (.slice (some ⟨b,off,none⟩) (j - 1) cap)).setCell ⟨w.heap.size,2,none⟩ (.bool true)).heap[w.heap.size]?=some (.cells #[.int .i64 id,.bool ans,.bool true,.int .i64 code,.string name,.int .i64 typ,.slice (some ⟨b,off,none⟩) (j - 1) cap] 38 (0,0))):=Joins.block_setCell (i:=2) (Joins.block_setCell (i:=6) HGR.out _) _
     have hlW:w.heap.size < ((wr.setCell ⟨w.heap.size,6,none⟩ (.slice (some ⟨b,off,none⟩) (j - 1) cap)).setCell ⟨w.heap.size,2,none⟩ (.bool true)).heap.size:=by simpa using hlw
     have HWK:=HWR2.out ((wr.setCell ⟨w.heap.size,6,none⟩ (.slice (some ⟨b,off,none⟩) (j - 1) cap)).setCell ⟨w.heap.size,2,none⟩ (.bool true)) HBW.out (j - 1) (by omega)
     rw [show (cut || decide (j - 1 < n))=true by rw [← hk];exact hcut] at HWK
     have HWL:Hid (Calls Tryz.prog 23 #[.agg #[.int .i64 id,.bool ans,.bool true,.int .i64 code,.string name,.int .i64 typ,.slice (some ⟨b,off,none⟩) (j - 1) cap]] ((wr.setCell ⟨w.heap.size,6,none⟩ (.slice (some ⟨b,off,none⟩) (j - 1) cap)).setCell ⟨w.heap.size,2,none⟩ (.bool true)) fun e w'=>e=.returned (.string ⟨(f (j - 1)).toArray⟩)∧Below ((wr.setCell ⟨w.heap.size,6,none⟩ (.slice (some ⟨b,off,none⟩) (j - 1) cap)).setCell ⟨w.heap.size,2,none⟩ (.bool true)).heap.size ((wr.setCell ⟨w.heap.size,6,none⟩ (.slice (some ⟨b,off,none⟩) (j - 1) cap)).setCell ⟨w.heap.size,2,none⟩ (.bool true)) w'):=HWK
     clear HWK
     go_wp2_with fail
     refine HWL.out.mono ?_
     rintro e w9 ⟨rfl,hb9⟩
     have HB9:Hid (Below w.heap.size w w9):=HBW.out.trans (hb9.mono (Nat.le_of_lt hlW))
     have HG9:Hid (w9.heap[w.heap.size]?=some (.cells #[.int .i64 id,.bool ans,.bool (cut || decide (j - 1 < n)),.int .i64 code,.string name,.int .i64 typ,.slice (some ⟨b,off,none⟩) (j - 1) cap] 38 (0,0))):=(show _=_ by
      rw [show (cut || decide (j - 1 < n))=true by rw [← hk];exact hcut]
      exact (hb9.block _ hlW).trans HGW.out)
     clear hb9 c0 c1 c2 c3 c4 c5 c6 z2 z6
     go_wp2_with fail
     exact ⟨⟨j - 1,by omega,rfl,by first | rfl | (rw [← hk,hsub]) | go_num,HB9,HG9,HI2⟩,by simp [intOf];omega⟩
   ·obtain ⟨e1,e2⟩:=HJ2.out j hj HI.out (by omega)
    have hd1:decide (size < ((⟨(f j).toArray⟩:ByteArray).size:Int))=false:=by rw [hts];simpa using hbig
    generalize (⟨(f j).toArray⟩:ByteArray)=T at *
    clear hts hbig
    go_wp2_with fail
    go_ret2
    exact ⟨by rw [e1,e2];rfl,HBR.out⟩
 ·obtain ⟨e1,e2⟩:=HK1.out h0
  have h1:(E != 0)=true:=by simpa using h0
  go_wp2_with fail
  go_ret2
  exact ⟨by rw [e1,e2];rfl,HB1.out⟩
theorem msgBytes_any (id code typ:Int) (ans cut:Bool) (ha:Hid (ans=true)) (name:ByteArray) (rs:List Rc.Rec) (v:Value) (w:World) (hc:chkMsg id code typ name rs=0) (hv:Rc.Sl w v rs) :
 Calls Tryz.prog 48 #[.agg #[.int .i64 id,.bool ans,.bool cut,.int .i64 code,.string name,.int .i64 typ,v]] w fun e w'=>e=.returned (.string ⟨(wallL id code typ ans cut name rs).toArray⟩)∧Below w.heap.size w w':=by
 rw [← allB_is]
 cases ha.out;cases cut
 ·exact msgBytes_tf id code typ name rs v w hc hv
 ·exact msgBytes_tt id code typ name rs v w hc hv
set_option maxHeartbeats 1600000 in
set_option maxRecDepth 100000 in
theorem fitOf_any (id code typ size:Int) (ans cut:Bool) (ha:Hid (ans=true)) (name:ByteArray) (rs:List Rc.Rec) (pa:Option Addr) (cap:Nat) (w:World) (hs:name.size≤2000000) (hrs:∀ r∈rs,r.name.size≤2000000∧r.target.size≤2000000) (hv:Rc.Sl w (.slice pa rs.length cap) rs) (hcap:rs.length≤cap) :
 Calls Tryz.prog 18 #[.agg #[.int .i64 id,.bool ans,.bool cut,.int .i64 code,.string name,.int .i64 typ,.slice pa rs.length cap],.int .i64 size] w fun e w'=>e=.returned (.tuple #[.string (fitT id code typ ans cut name rs size),.int .i64 (fitE id code typ ans cut name rs size)])∧Below w.heap.size w w':=by
 have HSL:Hid (Rc.Sl w (.slice pa rs.length cap) rs):=hv
 obtain ⟨pa',cap',heq,hok,hrow⟩:=hv
 injection heq with q1 q2 q3
 subst q1
 clear q2 q3
 have HMB:Hid (chkMsg id code typ name rs=0→∀ W,Below w.heap.size w W→∀ j,j≤rs.length→Calls Tryz.prog 48 #[.agg #[.int .i64 id,.bool ans,.bool (cut || decide (j < rs.length)),.int .i64 code,.string name,.int .i64 typ,.slice pa j cap]] W fun e w'=>e=.returned (.string ⟨(fitB id code typ ans cut name rs j).toArray⟩)∧Below W.heap.size W w'):=fun hc W hW j hj=>by
  have hl:(rs.take j).length=j:=by rw [List.length_take];omega
  have hsl:Rc.Sl W (.slice pa j cap) (rs.take j):=by
   refine ⟨pa,cap,by rw [hl],fun k=>?_,?_⟩
   ·by_cases hk:k < j
    ·have:(rs.take j).getD k Rc.dm=rs.getD k Rc.dm:=by simp [List.getD,hk]
     rw [this];exact hok k
    ·have:(rs.take j).getD k Rc.dm=Rc.dm:=by simp [List.getD,List.getElem?_eq_none (by rw [hl];omega:(rs.take j).length≤k)]
     rw [this];exact Rc.dm_ok
   ·rcases hrow with h | ⟨b,off,h1,h2,h3⟩
    ·exact .inl (by rw [h];simp)
    ·exact .inr ⟨b,off,h1,Nat.lt_of_lt_of_le h2 hW.size,row_take (row_below h3 hW h2) j⟩
  exact msgBytes_any id code typ ans (cut || decide (j < rs.length)) ha name (rs.take j) _ W (chkMsg_take hc j) hsl
 have HC:Hid (∀ W,Below w.heap.size w W→Calls Tryz.prog 38 #[.agg #[.int .i64 id,.bool ans,.bool cut,.int .i64 code,.string name,.int .i64 typ,.slice pa rs.length cap]] W fun e w'=>e=.returned (.int .i64 (chkMsg id code typ name rs))∧Below W.heap.size W w'):=fun W hW=>refMsg_any id code typ ans cut name rs _ W hs hrs (HSL.out.below hW)
 have K0:Hid (within size 12 512=false→fitT id code typ ans cut name rs size=⟨#[]⟩∧fitE id code typ ans cut name rs size=3):=fun h=>by
  unfold fitT fitE
  rw [if_pos h,if_pos h]
  exact ⟨rfl,rfl⟩
 have K1:Hid (within size 12 512=true→chkMsg id code typ name rs≠0→fitT id code typ ans cut name rs size=⟨#[]⟩∧fitE id code typ ans cut name rs size=chkMsg id code typ name rs):=fun h h1=>by
  unfold fitT fitE
  rw [if_neg (by simp [h]),if_neg h1,if_neg (by simp [h]),if_neg h1]
  exact ⟨rfl,rfl⟩
 have K2:Hid (within size 12 512=true→chkMsg id code typ name rs=0→∀ j,j≤rs.length→(∀ i,j < i→i≤rs.length→size < ((fitB id code typ ans cut name rs i).length:Int))→((fitB id code typ ans cut name rs j).length:Int)≤size→fitT id code typ ans cut name rs size=⟨(fitB id code typ ans cut name rs j).toArray⟩∧fitE id code typ ans cut name rs size=0):=fun h h1 j hj hi hl=>by
  unfold fitT fitE
  rw [if_neg (by simp [h]),if_pos h1,if_neg (by simp [h]),if_pos h1,fitN_yes hj hi hl]
  exact ⟨rfl,rfl⟩
 have K3:Hid (within size 12 512=true→chkMsg id code typ name rs=0→(∀ i,i≤rs.length→size < ((fitB id code typ ans cut name rs i).length:Int))→fitT id code typ ans cut name rs size=⟨#[]⟩∧fitE id code typ ans cut name rs size=2):=fun h h1 hi=>by
  unfold fitT fitE
  rw [if_neg (by simp [h]),if_pos h1,if_neg (by simp [h]),if_pos h1,fitN_no hi]
  exact ⟨rfl,rfl⟩
 have HN20:Hid (chkMsg id code typ name rs=0→rs.length≤20):=fun h=>(chkMsg_facts h).1
 have HNIL:Hid (pa=none→rs.length=0):=fun h=>by
  rcases hrow with h1 | ⟨b,off,h1,_⟩
  ·rw [h1];rfl
  ·rw [h] at h1;cases h1
 have HSPOT:Hid (∀ p,pa=some p→0 < rs.length→∃ b off,p=⟨b,off,none⟩):=fun p hp h=>by
  rcases hrow with h1 | ⟨b,off,h1,_⟩
  ·rw [h1] at h;simp at h
  ·rw [hp] at h1;injection h1 with h1;exact ⟨b,off,h1⟩
 clear hs hrs hok hrow HSL
 generalize chkMsg id code typ name rs=E at *
 generalize fitT id code typ ans cut name rs size=RT at *
 generalize fitE id code typ ans cut name rs size=RE at *
 generalize fitB id code typ ans cut name rs=f at *
 generalize rs.length=n at *
 go_enter Tryz.func18,Tryz.ntmps18
 go_wp2_with fail
 obtain ⟨w0,hw0⟩:∃ w0,w0=w.alloc (.cells #[.int .i64 id,.bool ans,.bool cut,.int .i64 code,.string name,.int .i64 typ,.slice pa n cap] 38):=⟨_,rfl⟩
 have hg0:w0.heap[w.heap.size]?=some (.cells #[.int .i64 id,.bool ans,.bool cut,.int .i64 code,.string name,.int .i64 typ,.slice pa n cap] 38 (0,0)):=by rw [hw0];exact heap_alloc_new w _
 have HB0:Hid (Below w.heap.size w w0):=(show Below _ _ _ by rw [hw0];exact (Below.refl _ _).alloc (Nat.le_refl _) _)
 have hl0:w.heap.size < w0.heap.size:=(Array.getElem?_eq_some_iff.1 hg0).1
 rw [← hw0]
 clear hw0
 refine (between_any _ _ _ _).mono ?_
 rintro e w00 ⟨rfl,hw00⟩
 subst hw00
 by_cases hwi:within size 12 512=false
 ·obtain ⟨e1,e2⟩:=K0.out hwi
  rw [hwi]
  go_wp2_with fail
  go_ret2
  exact ⟨by rw [e1,e2];rfl,HB0.out⟩
 have hwt:within size 12 512=true:=by simpa using hwi
 have HK1:Hid (E≠0→RT=⟨#[]⟩∧RE=E):=K1.out hwt
 have HK2:Hid (E=0→∀ j,j≤n→(∀ i,j < i→i≤n→size < ((f i).length:Int))→((f j).length:Int)≤size→RT=⟨(f j).toArray⟩∧RE=0):=K2.out hwt
 have HK3:Hid (E=0→(∀ i,i≤n→size < ((f i).length:Int))→RT=⟨#[]⟩∧RE=2):=K3.out hwt
 rw [hwt]
 clear K0 K1 K2 K3 hwi hwt
 have c0:w00.cell? ⟨w.heap.size,0,none⟩=some (.int .i64 id):=cellsAt hg0 0
 have c1:w00.cell? ⟨w.heap.size,1,none⟩=some (.bool ans):=cellsAt hg0 1
 have c2:w00.cell? ⟨w.heap.size,2,none⟩=some (.bool cut):=cellsAt hg0 2
 have c3:w00.cell? ⟨w.heap.size,3,none⟩=some (.int .i64 code):=cellsAt hg0 3
 have c4:w00.cell? ⟨w.heap.size,4,none⟩=some (.string name):=cellsAt hg0 4
 have c5:w00.cell? ⟨w.heap.size,5,none⟩=some (.int .i64 typ):=cellsAt hg0 5
 have c6:w00.cell? ⟨w.heap.size,6,none⟩=some (.slice pa n cap):=cellsAt hg0 6
 go_wp2_with fail
 refine (HC.out w00 HB0.out).mono ?_
 rintro e w1 ⟨rfl,hb1⟩
 have HB1:Hid (Below w.heap.size w w1):=HB0.out.trans (hb1.mono (Nat.le_of_lt hl0))
 have HG1:Hid (w1.heap[w.heap.size]?=some (.cells #[.int .i64 id,.bool ans,.bool cut,.int .i64 code,.string name,.int .i64 typ,.slice pa n cap] 38 (0,0))):=(hb1.block _ hl0).trans hg0
 clear hb1 hg0 HC c0 c1 c2 c3 c4 c5 c6
 by_cases h0:E=0
 ·have HMB2:Hid (∀ W,Below w.heap.size w W→∀ j,j≤n→Calls Tryz.prog 48 #[.agg #[.int .i64 id,.bool ans,.bool (cut || decide (j < n)),.int .i64 code,.string name,.int .i64 typ,.slice pa j cap]] W fun e w'=>e=.returned (.string ⟨(f j).toArray⟩)∧Below W.heap.size W w'):=HMB.out h0
  have HJ2:Hid (∀ j,j≤n→(∀ i,j < i→i≤n→size < ((f i).length:Int))→((f j).length:Int)≤size→RT=⟨(f j).toArray⟩∧RE=0):=HK2.out h0
  have HJ3:Hid ((∀ i,i≤n→size < ((f i).length:Int))→RT=⟨#[]⟩∧RE=2):=HK3.out h0
  have hn20:=HN20.out h0
  clear HMB HK1 HK2 HK3 HN20
  subst h0
  have d6:w1.cell? ⟨w.heap.size,6,none⟩=some (.slice pa n cap):=cellsAt HG1.out 6
  go_wp2_with fail
  clear d6
  go_loopw [7] (fun nv wr=>∃ j:Nat,j≤n+1∧nv=.int .i64 ((j:Int) - 1)∧Hid (Below w.heap.size w wr)∧Hid (wr.heap[w.heap.size]?=some (.cells #[.int .i64 id,.bool ans,.bool cut,.int .i64 code,.string name,.int .i64 typ,.slice pa n cap] 38 (0,0)))∧Hid (∀ i,j≤i→i≤n→size < ((f i).length:Int))) (fun nv _=>(intOf nv+1).toNat)
  case atStart=>exact ⟨n+1,Nat.le_refl _,by go_num,HB1,HG1,fun i h1 h2=>by omega⟩
  case round=>
   obtain ⟨j,hj,rfl,HBR,HGR,HI⟩:=hrel
   have hsz:=HBR.out.size
   have hlw:w.heap.size < wr.heap.size:=(Array.getElem?_eq_some_iff.1 HGR.out).1
   rcases j with _ | k
   ·obtain ⟨e1,e2⟩:=HJ3.out (fun i hi=>HI.out i (Nat.zero_le _) hi)
    go_wp2_with fail
    go_ret2
    exact ⟨by rw [e1,e2];rfl,HBR.out⟩
   ·have hkk:(((k+1:Nat):Int) - 1)=(k:Int):=by omega
    rw [hkk]
    have hk0:(0:Int)≤(k:Int):=by omega
    have hk1:(k:Int)≤(cap:Int):=by omega
    have hk2:((k:Int)).toNat=k:=by omega
    have hd0:decide ((0:Int)≤(k:Int))=true:=by simp
    have c0:wr.cell? ⟨w.heap.size,0,none⟩=some (.int .i64 id):=cellsAt HGR.out 0
    have c1:wr.cell? ⟨w.heap.size,1,none⟩=some (.bool ans):=cellsAt HGR.out 1
    have c2:wr.cell? ⟨w.heap.size,2,none⟩=some (.bool cut):=cellsAt HGR.out 2
    have c3:wr.cell? ⟨w.heap.size,3,none⟩=some (.int .i64 code):=cellsAt HGR.out 3
    have c4:wr.cell? ⟨w.heap.size,4,none⟩=some (.string name):=cellsAt HGR.out 4
    have c5:wr.cell? ⟨w.heap.size,5,none⟩=some (.int .i64 typ):=cellsAt HGR.out 5
    have c6:wr.cell? ⟨w.heap.size,6,none⟩=some (.slice pa n cap):=cellsAt HGR.out 6
    cases cut
    ·by_cases hkn:k < n
     ·have hd9:decide ((k:Int) < (n:Int))=true:=by simp;omega
      have HBW:Hid (Below w.heap.size w (wr.alloc (.cells #[.int .i64 id,.bool ans,.bool true,.int .i64 code,.string name,.int .i64 typ,.slice pa k cap] 38))):=HBR.out.alloc hsz _
      have HGW:Hid ((wr.alloc (.cells #[.int .i64 id,.bool ans,.bool true,.int .i64 code,.string name,.int .i64 typ,.slice pa k cap] 38)).heap[w.heap.size]?=some (.cells #[.int .i64 id,.bool ans,.bool false,.int .i64 code,.string name,.int .i64 typ,.slice pa n cap] 38 (0,0))):=(Lib.alloc_old wr _ _ hlw).trans HGR.out
      have hlW:w.heap.size < (wr.alloc (.cells #[.int .i64 id,.bool ans,.bool true,.int .i64 code,.string name,.int .i64 typ,.slice pa k cap] 38)).heap.size:=by simp<;>omega
      have HMK:=HMB2.out (wr.alloc (.cells #[.int .i64 id,.bool ans,.bool true,.int .i64 code,.string name,.int .i64 typ,.slice pa k cap] 38)) HBW.out k (by omega)
      rw [show (false || decide (k < n))=true by simp<;>omega] at HMK
      have HML:Hid (Calls Tryz.prog 48 #[.agg #[.int .i64 id,.bool ans,.bool true,.int .i64 code,.string name,.int .i64 typ,.slice pa k cap]] (wr.alloc (.cells #[.int .i64 id,.bool ans,.bool true,.int .i64 code,.string name,.int .i64 typ,.slice pa k cap] 38)) fun e w'=>e=.returned (.string ⟨(f k).toArray⟩)∧Below (wr.alloc (.cells #[.int .i64 id,.bool ans,.bool true,.int .i64 code,.string name,.int .i64 typ,.slice pa k cap] 38)).heap.size (wr.alloc (.cells #[.int .i64 id,.bool ans,.bool true,.int .i64 code,.string name,.int .i64 typ,.slice pa k cap] 38)) w'):=HMK
      clear HMK
      go_wp2_with fail
      refine HML.out.mono ?_
      rintro e w9 ⟨rfl,hb9⟩
      have HB9:Hid (Below w.heap.size w w9):=HBW.out.trans (hb9.mono (Nat.le_of_lt hlW))
      have HG9:Hid (w9.heap[w.heap.size]?=some (.cells #[.int .i64 id,.bool ans,.bool false,.int .i64 code,.string name,.int .i64 typ,.slice pa n cap] 38 (0,0))):=(hb9.block _ hlW).trans HGW.out
      clear hb9 c0 c1 c2 c3 c4 c5 c6 HBW HGW hlW HML
      have hts:(⟨(f k).toArray⟩:ByteArray).size=(f k).length:=by simp [ByteArray.size]
      by_cases hbig:size < ((f k).length:Int)
      ·have hd1:decide (((⟨(f k).toArray⟩:ByteArray).size:Int)≤size)=false:=by rw [hts];simpa using hbig
       have HI2:Hid (∀ i,k≤i→i≤n→size < ((f i).length:Int)):=fun i h1 h2=>by
        rcases Nat.lt_or_ge k i with h | h
        ·exact HI.out i h h2
        ·obtain rfl:i=k:=by omega
         exact hbig
       generalize (⟨(f k).toArray⟩:ByteArray)=T at *
       clear hts hbig HI
       go_wp2_with fail
       exact ⟨⟨k,by omega,by go_num,HB9,HG9,HI2⟩,by simp [intOf]<;>omega⟩
      ·obtain ⟨e1,e2⟩:=HJ2.out k (by omega) (fun i h1 h2=>HI.out i h1 h2) (by omega)
       have hd1:decide (((⟨(f k).toArray⟩:ByteArray).size:Int)≤size)=true:=by rw [hts];simp<;>omega
       generalize (⟨(f k).toArray⟩:ByteArray)=T at *
       clear hts hbig
       go_wp2_with fail
       go_ret2
       exact ⟨by rw [e1,e2];rfl,HB9.out⟩
     ·have hd9:decide ((k:Int) < (n:Int))=false:=by simp;omega
      have HBW:Hid (Below w.heap.size w (wr.alloc (.cells #[.int .i64 id,.bool ans,.bool false,.int .i64 code,.string name,.int .i64 typ,.slice pa k cap] 38))):=HBR.out.alloc hsz _
      have HGW:Hid ((wr.alloc (.cells #[.int .i64 id,.bool ans,.bool false,.int .i64 code,.string name,.int .i64 typ,.slice pa k cap] 38)).heap[w.heap.size]?=some (.cells #[.int .i64 id,.bool ans,.bool false,.int .i64 code,.string name,.int .i64 typ,.slice pa n cap] 38 (0,0))):=(Lib.alloc_old wr _ _ hlw).trans HGR.out
      have hlW:w.heap.size < (wr.alloc (.cells #[.int .i64 id,.bool ans,.bool false,.int .i64 code,.string name,.int .i64 typ,.slice pa k cap] 38)).heap.size:=by simp<;>omega
      have HMK:=HMB2.out (wr.alloc (.cells #[.int .i64 id,.bool ans,.bool false,.int .i64 code,.string name,.int .i64 typ,.slice pa k cap] 38)) HBW.out k (by omega)
      rw [show (false || decide (k < n))=false by simp<;>omega] at HMK
      have HML:Hid (Calls Tryz.prog 48 #[.agg #[.int .i64 id,.bool ans,.bool false,.int .i64 code,.string name,.int .i64 typ,.slice pa k cap]] (wr.alloc (.cells #[.int .i64 id,.bool ans,.bool false,.int .i64 code,.string name,.int .i64 typ,.slice pa k cap] 38)) fun e w'=>e=.returned (.string ⟨(f k).toArray⟩)∧Below (wr.alloc (.cells #[.int .i64 id,.bool ans,.bool false,.int .i64 code,.string name,.int .i64 typ,.slice pa k cap] 38)).heap.size (wr.alloc (.cells #[.int .i64 id,.bool ans,.bool false,.int .i64 code,.string name,.int .i64 typ,.slice pa k cap] 38)) w'):=HMK
      clear HMK
      go_wp2_with fail
      refine HML.out.mono ?_
      rintro e w9 ⟨rfl,hb9⟩
      have HB9:Hid (Below w.heap.size w w9):=HBW.out.trans (hb9.mono (Nat.le_of_lt hlW))
      have HG9:Hid (w9.heap[w.heap.size]?=some (.cells #[.int .i64 id,.bool ans,.bool false,.int .i64 code,.string name,.int .i64 typ,.slice pa n cap] 38 (0,0))):=(hb9.block _ hlW).trans HGW.out
      clear hb9 c0 c1 c2 c3 c4 c5 c6 HBW HGW hlW HML
      have hts:(⟨(f k).toArray⟩:ByteArray).size=(f k).length:=by simp [ByteArray.size]
      by_cases hbig:size < ((f k).length:Int)
      ·have hd1:decide (((⟨(f k).toArray⟩:ByteArray).size:Int)≤size)=false:=by rw [hts];simpa using hbig
       have HI2:Hid (∀ i,k≤i→i≤n→size < ((f i).length:Int)):=fun i h1 h2=>by
        rcases Nat.lt_or_ge k i with h | h
        ·exact HI.out i h h2
        ·obtain rfl:i=k:=by omega
         exact hbig
       generalize (⟨(f k).toArray⟩:ByteArray)=T at *
       clear hts hbig HI
       go_wp2_with fail
       exact ⟨⟨k,by omega,by go_num,HB9,HG9,HI2⟩,by simp [intOf]<;>omega⟩
      ·obtain ⟨e1,e2⟩:=HJ2.out k (by omega) (fun i h1 h2=>HI.out i h1 h2) (by omega)
       have hd1:decide (((⟨(f k).toArray⟩:ByteArray).size:Int)≤size)=true:=by rw [hts];simp<;>omega
       generalize (⟨(f k).toArray⟩:ByteArray)=T at *
       clear hts hbig
       go_wp2_with fail
       go_ret2
       exact ⟨by rw [e1,e2];rfl,HB9.out⟩
    ·have HBW:Hid (Below w.heap.size w (wr.alloc (.cells #[.int .i64 id,.bool ans,.bool true,.int .i64 code,.string name,.int .i64 typ,.slice pa k cap] 38))):=HBR.out.alloc hsz _
     have HGW:Hid ((wr.alloc (.cells #[.int .i64 id,.bool ans,.bool true,.int .i64 code,.string name,.int .i64 typ,.slice pa k cap] 38)).heap[w.heap.size]?=some (.cells #[.int .i64 id,.bool ans,.bool true,.int .i64 code,.string name,.int .i64 typ,.slice pa n cap] 38 (0,0))):=(Lib.alloc_old wr _ _ hlw).trans HGR.out
     have hlW:w.heap.size < (wr.alloc (.cells #[.int .i64 id,.bool ans,.bool true,.int .i64 code,.string name,.int .i64 typ,.slice pa k cap] 38)).heap.size:=by simp<;>omega
     have HMK:=HMB2.out (wr.alloc (.cells #[.int .i64 id,.bool ans,.bool true,.int .i64 code,.string name,.int .i64 typ,.slice pa k cap] 38)) HBW.out k (by omega)
     rw [show (true || decide (k < n))=true by simp<;>omega] at HMK
     have HML:Hid (Calls Tryz.prog 48 #[.agg #[.int .i64 id,.bool ans,.bool true,.int .i64 code,.string name,.int .i64 typ,.slice pa k cap]] (wr.alloc (.cells #[.int .i64 id,.bool ans,.bool true,.int .i64 code,.string name,.int .i64 typ,.slice pa k cap] 38)) fun e w'=>e=.returned (.string ⟨(f k).toArray⟩)∧Below (wr.alloc (.cells #[.int .i64 id,.bool ans,.bool true,.int .i64 code,.string name,.int .i64 typ,.slice pa k cap] 38)).heap.size (wr.alloc (.cells #[.int .i64 id,.bool ans,.bool true,.int .i64 code,.string name,.int .i64 typ,.slice pa k cap] 38)) w'):=HMK
     clear HMK
     go_wp2_with fail
     refine HML.out.mono ?_
     rintro e w9 ⟨rfl,hb9⟩
     have HB9:Hid (Below w.heap.size w w9):=HBW.out.trans (hb9.mono (Nat.le_of_lt hlW))
     have HG9:Hid (w9.heap[w.heap.size]?=some (.cells #[.int .i64 id,.bool ans,.bool true,.int .i64 code,.string name,.int .i64 typ,.slice pa n cap] 38 (0,0))):=(hb9.block _ hlW).trans HGW.out
     clear hb9 c0 c1 c2 c3 c4 c5 c6 HBW HGW hlW HML
     have hts:(⟨(f k).toArray⟩:ByteArray).size=(f k).length:=by simp [ByteArray.size]
     by_cases hbig:size < ((f k).length:Int)
     ·have hd1:decide (((⟨(f k).toArray⟩:ByteArray).size:Int)≤size)=false:=by rw [hts];simpa using hbig
      have HI2:Hid (∀ i,k≤i→i≤n→size < ((f i).length:Int)):=fun i h1 h2=>by
       rcases Nat.lt_or_ge k i with h | h
       ·exact HI.out i h h2
       ·obtain rfl:i=k:=by omega
        exact hbig
      generalize (⟨(f k).toArray⟩:ByteArray)=T at *
      clear hts hbig HI
      go_wp2_with fail
      exact ⟨⟨k,by omega,by go_num,HB9,HG9,HI2⟩,by simp [intOf]<;>omega⟩
     ·obtain ⟨e1,e2⟩:=HJ2.out k (by omega) (fun i h1 h2=>HI.out i h1 h2) (by omega)
      have hd1:decide (((⟨(f k).toArray⟩:ByteArray).size:Int)≤size)=true:=by rw [hts];simp<;>omega
      generalize (⟨(f k).toArray⟩:ByteArray)=T at *
      clear hts hbig
      go_wp2_with fail
      go_ret2
      exact ⟨by rw [e1,e2];rfl,HB9.out⟩
 ·obtain ⟨e1,e2⟩:=HK1.out h0
  have h1:(E != 0)=true:=by simpa using h0
  go_wp2_with fail
  go_ret2
  exact ⟨by rw [e1,e2];rfl,HB1.out⟩
end Go.Proofs.YtignmeaeibaejaaGreatDoor
