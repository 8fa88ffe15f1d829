import Derived.Test.YtignmeaeibaejaaGreatDoorV16
import Derived.Test.YtignmeaeibaejaaGreatDoorV8
namespace Go.Proofs.YtignmeaeibaejaaGreatDoor
open Go.RowKit
def chkRs:List Rc.Rec→Int
 | []=>0
 | r :: t=>if chkRec r=0 then chkRs t else chkRec r
def chkMsg (id code typ:Int) (name:ByteArray) (rs:List Rc.Rec):Int:=
 if (within id 0 65535 && within code 0 15)=false then 3
 else if 20 < rs.length then 2
 else if chkN name≠0 then chkN name
 else if typB typ=false then 7
 else chkRs rs
theorem chkRs_step {rs:List Rc.Rec} {k:Nat} (h:k < rs.length) (he:chkRs rs=chkRs (rs.drop k)):chkRs rs=if chkRec (rs.getD k Rc.dm)=0 then chkRs (rs.drop (k+1)) else chkRec (rs.getD k Rc.dm):=by
 rw [he,List.drop_eq_getElem_cons h,chkRs,show rs.getD k Rc.dm=rs[k] by simp [List.getD,List.getElem?_eq_getElem h]]
set_option maxHeartbeats 1600000 in
set_option maxRecDepth 100000 in
theorem dcheck_any (id code typ:Int) (ans cut:Bool) (name:ByteArray) (rs:List Rc.Rec) (v:Value) (w:World) (hs:name.size≤maxLen) (hv:Rc.Sl w v rs) :
 Calls Tryz.prog 22 #[.agg #[.int .i64 id,.bool ans,.bool cut,.int .i64 code,.string name,.int .i64 typ,v]] w fun e w'=>e=outE (chkMsg id code typ name rs)∧Below w.heap.size w w':=by
 have HN:Hid (∀ W,Calls Tryz.prog 54 #[.string name] W fun e w'=>e=outE (chkN name)∧Below W.heap.size W w'):=fun W=>checkName_any _ _ hs
 obtain ⟨pa,cap,rfl,hok,hrow⟩:=hv
 have HOK:Hid (∀ j,(rs.getD j Rc.dm).ok):=hok
 have HROW:Hid (rs=[]∨∃ b off,pa=some ⟨b,off,none⟩∧b < w.heap.size∧Rc.Row w b off rs):=hrow
 clear hok hrow hs
 generalize hE:chkMsg id code typ name rs=E
 unfold chkMsg at hE
 go_enter Tryz.func22,Tryz.ntmps22
 go_wp2_with fail
 have hg0:(w.alloc (.cells #[.int .i64 id,.bool ans,.bool cut,.int .i64 code,.string name,.int .i64 typ,.slice pa rs.length cap] 38)).heap[w.heap.size]?=some (.cells #[.int .i64 id,.bool ans,.bool cut,.int .i64 code,.string name,.int .i64 typ,.slice pa rs.length cap] 38 (0,0)):=heap_alloc_new w _
 obtain ⟨w0,hw0⟩:∃ w0,w0=w.alloc (.cells #[.int .i64 id,.bool ans,.bool cut,.int .i64 code,.string name,.int .i64 typ,.slice pa rs.length cap] 38):=⟨_,rfl⟩
 have HB0:Hid (Below w.heap.size w w0):=(show Below _ _ _ by rw [hw0];exact (Below.refl _ _).alloc (Nat.le_refl _) _)
 rw [← hw0] at hg0 ⊢
 clear hw0
 have f3:w0.cell? ⟨w.heap.size,3,none⟩=some (.int .i64 code):=cellsAt hg0 3
 have f4:w0.cell? ⟨w.heap.size,4,none⟩=some (.string name):=cellsAt hg0 4
 have f6:w0.cell? ⟨w.heap.size,6,none⟩=some (.slice pa rs.length cap):=cellsAt hg0 6
 refine (within_any _ _ _ _).mono ?_
 rintro e w1 ⟨rfl,hw1⟩
 subst hw1
 by_cases h1:within id 0 65535=false
 ·rw [if_pos (by rw [h1];rfl)] at hE
  subst hE
  rw [h1]
  go_wp2_with fail
  refine (need_no _ _).mono ?_
  rintro e w9 ⟨rfl,rfl⟩
  exact ⟨rfl,rfl,HB0.out⟩
 have h1t:within id 0 65535=true:=by simpa using h1
 rw [h1t] at hE ⊢
 rw [Bool.true_and] at hE
 go_wp2_with fail
 refine (within_any _ _ _ _).mono ?_
 rintro e w2 ⟨rfl,hw2⟩
 subst hw2
 by_cases h2:within code 0 15=false
 ·rw [if_pos h2] at hE
  subst hE
  rw [h2]
  go_wp2_with fail
  refine (need_no _ _).mono ?_
  rintro e w9 ⟨rfl,rfl⟩
  exact ⟨rfl,rfl,HB0.out⟩
 rw [if_neg h2] at hE
 rw [show within code 0 15=true by simpa using h2]
 go_wp2_with fail
 refine (need_ok _ _).mono ?_
 rintro e w3 ⟨rfl,hw3⟩
 subst hw3
 by_cases h3:20 < rs.length
 ·rw [if_pos h3] at hE
  subst hE
  have h8:decide ((rs.length:Int)≤20)=false:=by simp;omega
  go_wp2_with fail
  refine (need_no _ _).mono ?_
  rintro e wb ⟨rfl,rfl⟩
  exact ⟨rfl,rfl,HB0.out⟩
 rw [if_neg h3] at hE
 have h8:decide ((rs.length:Int)≤20)=true:=by simp;omega
 go_wp2_with fail
 refine (need_ok _ _).mono ?_
 rintro e w4 ⟨rfl,hw4⟩
 subst hw4
 go_wp2_with fail
 refine (HN.out _).mono ?_
 rintro e w5 ⟨rfl,hb5⟩
 have hg5:=(hb5.block w.heap.size (Array.getElem?_eq_some_iff.1 hg0).1).trans hg0
 have HB5:Hid (Below w.heap.size w w5):=HB0.out.trans (hb5.mono HB0.out.size)
 clear hg0 hb5 f3 f4 f6 h8
 by_cases h4:chkN name=0
 ·rw [h4,outE_0]
  rw [if_neg (by simpa using h4)] at hE
  have f5:w5.cell? ⟨w.heap.size,5,none⟩=some (.int .i64 typ):=cellsAt hg5 5
  have f6:w5.cell? ⟨w.heap.size,6,none⟩=some (.slice pa rs.length cap):=cellsAt hg5 6
  go_wp2_with fail
  refine (rtype_any _ _).mono ?_
  rintro e w6 ⟨rfl,hw6⟩
  subst hw6
  rw [show (decide (typ=1) || decide (typ=16) || decide (typ=33))=typB typ from rfl]
  by_cases h5:typB typ=false
  ·rw [if_pos h5] at hE
   subst hE
   rw [h5]
   go_wp2_with fail
   refine (need_no _ _).mono ?_
   rintro e w7 ⟨rfl,rfl⟩
   exact ⟨rfl,rfl,HB5.out⟩
  rw [if_neg h5] at hE
  rw [show typB typ=true by simpa using h5]
  go_wp2_with fail
  refine (need_ok _ _).mono ?_
  rintro e w7 ⟨rfl,hw7⟩
  subst hw7
  have HEE:Hid (chkRs rs=E):=hE
  have hn20:rs.length≤20:=by omega
  clear hE h1 h1t h2 h3 h4 h5 hg5
  generalize hnn:rs.length=n at *
  have HNN:Hid (rs.length=n):=hnn
  clear hnn
  go_wp2_with fail
  go_loopw [30] (fun i wr=>∃ k:Nat,k≤n∧i=.int .i64 k∧Hid (Below w.heap.size w wr)∧Hid (chkRs rs=chkRs (rs.drop k))) (fun i _=>n - (intOf i).toNat)
  case atStart=>exact ⟨0,Nat.zero_le _,rfl,HB5,rfl⟩
  case round=>
   obtain ⟨k,hk,rfl,HBR,HZ⟩:=hrel
   have hsz:=HBR.out.size
   by_cases hlt:k < n
   ·obtain ⟨b,off,hpa,hbw,hr⟩:∃ b off,pa=some ⟨b,off,none⟩∧b < w.heap.size∧Rc.Row w b off rs:=by
     rcases HROW.out with h | h
     ·have:=HNN.out;rw [h] at this;simp at this;omega
     ·exact h
    subst hpa
    obtain ⟨g0,g1,g2,g3,g4,g5,g6⟩:=hr k (by rw [HNN.out];exact hlt)
    have c0:=(HBR.out.cell (p:=⟨b,off+k * 7,none⟩) hbw).trans g0
    have c1:=(HBR.out.cell (p:=⟨b,off+k * 7+1,none⟩) hbw).trans g1
    have c2:=(HBR.out.cell (p:=⟨b,off+k * 7+2,none⟩) hbw).trans g2
    have c3:=(HBR.out.cell (p:=⟨b,off+k * 7+3,none⟩) hbw).trans g3
    have c4:=(HBR.out.cell (p:=⟨b,off+k * 7+4,none⟩) hbw).trans g4
    have c5:=(HBR.out.cell (p:=⟨b,off+k * 7+5,none⟩) hbw).trans g5
    have c6:=(HBR.out.cell (p:=⟨b,off+k * 7+6,none⟩) hbw).trans g6
    clear g0 g1 g2 g3 g4 g5 g6 hr
    have HST:Hid (chkRs rs=if chkRec (rs.getD k Rc.dm)=0 then chkRs (rs.drop (k+1)) else chkRec (rs.getD k Rc.dm)):=chkRs_step (by rw [HNN.out];exact hlt) HZ.out
    have HRE:Hid (∀ W,Calls Tryz.prog 56 #[recV (rs.getD k Rc.dm)] W fun e w'=>e=outE (chkRec (rs.getD k Rc.dm))∧Below W.heap.size W w'):=fun W=>checkRecord_any _ W (HOK.out k)
    generalize rs.getD k Rc.dm=r at *
    have hd:decide ((k:Int) < (n:Int))=true:=by simp;omega
    have hi0:(0:Int)≤(k:Int):=by omega
    have hi1:(k:Int) < (n:Int):=by omega
    have hi2:((k:Int)).toNat=k:=by omega
    go_wp2_with fail
    refine (HRE.out _).mono ?_
    rintro e w9 ⟨rfl,hb9⟩
    have HB9:Hid (Below w.heap.size w w9):=(HBR.out.alloc hsz _).trans (hb9.mono (by simp;omega))
    clear hb9 c0 c1 c2 c3 c4 c5 c6
    by_cases h9:chkRec r=0
    ·rw [h9,outE_0]
     have HZ2:Hid (chkRs rs=chkRs (rs.drop (k+1))):=(show _=_ by rw [HST.out,if_pos h9])
     clear HST h9
     go_wp2_with fail
     exact ⟨⟨k+1,by omega,by go_num,HB9,HZ2⟩,by simp [intOf];omega⟩
    ·have HF:Hid (E=chkRec r):=(show _=_ by rw [← HEE.out,HST.out,if_neg h9])
     rw [outE_ne h9]
     exact ⟨rfl,by rw [HF.out];exact (outE_ne h9).symm,HB9.out⟩
   ·have HF:Hid (E=0):=(show E=0 by rw [← HEE.out,HZ.out,List.drop_of_length_le (by rw [HNN.out];omega)];rfl)
    have hd:decide ((k:Int) < (n:Int))=false:=by simp;omega
    go_wp2_with fail
    simp [bodyPost,results,Tryz.results22]
    exact ⟨by rw [HF.out];rfl,HBR.out⟩
 ·rw [if_pos h4] at hE
  subst hE
  rw [outE_ne h4]
  exact ⟨rfl,(outE_ne h4).symm,HB5.out⟩
end Go.Proofs.YtignmeaeibaejaaGreatDoor
