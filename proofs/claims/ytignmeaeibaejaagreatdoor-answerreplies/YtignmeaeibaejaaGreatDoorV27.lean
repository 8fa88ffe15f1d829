import Derived.Test.YtignmeaeibaejaaGreatDoorV16
import Derived.Test.YtignmeaeibaejaaGreatDoorV8
namespace Go.Proofs.YtignmeaeibaejaaGreatDoor
open Go.RowKit
def chkRs:List Rc.Rec→Int
 | []=>0
 | r :: t=>if chkRec r=0 then chkRs t else chkRec r
def chkMsg (id code typ:Int) (name:ByteArray) (rs:List Rc.Rec):Int:=
 if (within id 0 65535 && within code 0 15)=false then 3
 else if 20 < rs.length then 2
 else if chkN name≠0 then chkN name
 else if typB typ=false then 7
 else chkRs rs
theorem chkRs_step {rs:List Rc.Rec} {k:Nat} (h:k < rs.length) (he:chkRs rs=chkRs (rs.drop k)):chkRs rs=if chkRec (rs.getD k Rc.dm)=0 then chkRs (rs.drop (k+1)) else chkRec (rs.getD k Rc.dm):=by
 rw [he,List.drop_eq_getElem_cons h,chkRs,show rs.getD k Rc.dm=rs[k] by simp [List.getD,List.getElem?_eq_getElem h]]
set_option maxHeartbeats 1600000 in
set_option maxRecDepth 100000 in
theorem dcheck_any (id code typ:Int) (ans cut:Bool) (name:ByteArray) (rs:List Rc.Rec) (v:Value) (w:World) (hs:name.size≤maxLen) (hv:Rc.Sl w v rs) :
 Calls Tryz.prog 22 #[.agg #[.int .i64 id,.bool ans,.bool cut,.int .i64 code,.string name,.int .i64 typ,v]] w fun e w'=>e=outE (chkMsg id code typ name rs)∧Below w.heap.size w w':=by
 have HN:Hid (∀ W,Calls Tryz.prog 54 #[.string name] W fun e w'=>e=outE (chkN name)∧Below W.heap.size W w'):=fun W=>checkName_any _ _ hs
 obtain ⟨pa,cap,rfl,hok,hrow⟩:=hv
 have HOK:Hid (∀ j,(rs.getD j Rc.dm).ok):=hok
 have HROW:Hid (rs=[]∨∃ b off,pa=some ⟨b,off,none⟩∧b < w.heap.size∧Rc.Row w b off rs):=hrow
 clear hok hrow hs
 generalize hE:chkMsg id code typ name rs=E
 unfold chkMsg at hE
 go_enter Tryz.func22,Tryz.ntmps22
 go_wp2_with fail
 have hg0:(w.alloc (.cells #[.int .i64 id,.bool ans,.bool cut,.int .i64 code,.string name,.int .i64 typ,.slice pa rs.length cap] 38)).heap[w.heap.size]?=some (.cells #[.int .i64 id,.bool ans,.bool cut,.int .i64 code,.string name,.int .i64 typ,.slice pa rs.length cap] 38 (0,0)):=heap_alloc_new w _
 obtain ⟨w0,hw0⟩:∃ w0,w0=w.alloc (.cells #[.int .i64 id,.bool ans,.bool cut,.int .i64 code,.string name,.int .i64 typ,.slice pa rs.length cap] 38):=⟨_,rfl⟩
 have HB0:Hid (Below w.heap.size w w0):=(show Below _ _ _ by rw [hw0];exact (Below.refl _ _).alloc (Nat.le_refl _) _)
 rw [← hw0] at hg0 ⊢
 clear hw0
 have f3:w0.cell? ⟨w.heap.size,3,none⟩=some (.int .i64 code):=cellsAt hg0 3
 have f4:w0.cell? ⟨w.heap.size,4,none⟩=some (.string name):=cellsAt hg0 4
 have f6:w0.cell? ⟨w.heap.size,6,none⟩=some (.slice pa rs.length cap):=cellsAt hg0 6
 refine (within_any _ _ _ _).mono ?_
 rintro e w1 ⟨rfl,hw1⟩
 subst hw1
 by_cases h1:within id 0 65535=false
 ·rw [if_pos (by rw [h1];rfl)] at hE
  subst hE
  rw [h1]
  go_wp2_with fail
  refine (need_no _ _).mono ?_
  rintro e w9 ⟨rfl,rfl⟩
  exact ⟨rfl,rfl,HB0.out⟩
 have h1t:within id 0 65535=true:=by simpa using h1
 rw [h1t] at hE ⊢
 rw [Bool.true_and] at hE
 go_wp2_with fail
 refine (within_any _ _ _ _).mono ?_
 rintro e w2 ⟨rfl,hw2⟩
 subst hw2
 by_cases h2:within code 0 15=false
 ·rw [if_pos h2] at hE
  subst hE
  rw [h2]
  go_wp2_with fail
  refine (need_no _ _).mono ?_
  rintro e w9 ⟨rfl,rfl⟩
  exact ⟨rfl,rfl,HB0.out⟩
 rw [if_neg h2] at hE
 rw [show within code 0 15=true by simpa using h2]
 go_wp2_with fail
 refine (need_ok _ _).mono ?_
 rintro e w3 ⟨rfl,hw3⟩
 subst hw3
 by_cases h3:20 < rs.length
 ·rw [if_pos h3] at hE
  subst hE
  have h8:decide ((rs.length:Int)≤20)=false:=by simp;omega
  go_wp2_with fail
  refine (need_no _ _).mono ?_
  rintro e wb ⟨rfl,rfl⟩
  exact ⟨rfl,rfl,HB0.out⟩
 rw [if_neg h3] at hE
 have h8:decide ((rs.length:Int)≤20)=true:=by simp;omega
 go_wp2_with fail
 refine (need_ok _ _).mono ?_
 rintro e w4 ⟨rfl,hw4⟩
 subst hw4
 go_wp2_with fail
 refine (HN.out _).mono ?_
 rintro e w5 ⟨rfl,hb5⟩
 have hg5:=(hb5.block w.heap.size (Array.getElem?_eq_some_iff.1 hg0).1).trans hg0
 have HB5:Hid (Below w.heap.size w w5):=HB0.out.trans (hb5.mono HB0.out.size)
 clear hg0 hb5 f3 f4 f6 h8
 by_cases h4:chkN name=0
 ·rw [h4,outE_0]
  rw [if_neg (by simpa using h4)] at hE
  have f5:w5.cell? ⟨w.heap.size,5,none⟩=some (.int .i64 typ):=cellsAt hg5 5
  have f6:w5.cell? ⟨w.heap.size,6,none⟩=some (.slice pa rs.length cap):=cellsAt hg5 6
  go_wp2_with fail
  refine (rtype_any _ _).mono ?_
  rintro e w6 ⟨rfl,hw6⟩
  subst hw6
  rw [show (decide (typ=1) || decide (typ=16) || decide (typ=33))=typB typ from rfl]
  by_cases h5:typB typ=false
  ·rw [if_pos h5] at hE
   subst hE
   rw [h5]
   go_wp2_with fail
   refine (need_no _ _).mono ?_
   rintro e w7 ⟨rfl,rfl⟩
   exact ⟨rfl,rfl,HB5.out⟩
  rw [if_neg h5] at hE
  rw [show typB typ=true by simpa using h5]
  go_wp2_with fail
  refine (need_ok _ _).mono ?_
  rintro e w7 ⟨rfl,hw7⟩
  subst hw7
  have HEE:Hid (chkRs rs=E):=hE
  have hn20:rs.length≤20:=by omega
  clear hE h1 h1t h2 h3 h4 h5 hg5
  generalize hnn:rs.length=n at *
  have HNN:Hid (rs.length=n):=hnn
  clear hnn
  go_wp2_with fail
  go_loopw [30] (fun i wr=>∃ k:Nat,k≤n∧i=.int .i64 k∧Hid (Below w.heap.size w wr)∧Hid (chkRs rs=chkRs (rs.drop k))) (fun i _=>n - (intOf i).toNat)
  case atStart=>exact ⟨0,Nat.zero_le _,rfl,HB5,rfl⟩
  case round=>
   obtain ⟨k,hk,rfl,HBR,HZ⟩:=hrel
   have hsz:=HBR.out.size
   by_cases hlt:k < n
   ·obtain ⟨b,off,hpa,hbw,hr⟩:∃ b off,pa=some ⟨b,off,none⟩∧b < w.heap.size∧Rc.Row w b off rs:=by
     rcases HROW.out with h | h
     ·have:=HNN.out;rw [h] at this;simp at this;omega
     ·exact h
    subst hpa
    obtain ⟨g0,g1,g2,g3,g4,g5,g6⟩:=hr k (by rw [HNN.out];exact hlt)
    have c0:=(HBR.out.cell (p:=⟨b,off+k * 7,none⟩) hbw).trans g0
    have c1:=(HBR.out.cell (p:=⟨b,off+k * 7+1,none⟩) hbw).trans g1
    have c2:=(HBR.out.cell (p:=⟨b,off+k * 7+2,none⟩) hbw).trans g2
    have c3:=(HBR.out.cell (p:=⟨b,off+k * 7+3,none⟩) hbw).trans g3
    have c4:=(HBR.out.cell (p:=⟨b,off+k * 7+4,none⟩) hbw).trans g4
    have c5:=(HBR.out.cell (p:=⟨b,off+k * 7+5,none⟩) hbw).trans g5
    have c6:=(HBR.out.cell (p:=⟨b,off+k * 7+6,none⟩) hbw).trans g6
    clear g0 g1 g2 g3 g4 g5 g6 hr
    have HST:Hid (chkRs rs=if chkRec (rs.getD k Rc.dm)=0 then chkRs (rs.drop (k+1)) else chkRec (rs.getD k Rc.dm)):=chkRs_step (by rw [HNN.out];exact hlt) HZ.out
    have HRE:Hid (∀ W,Calls Tryz.prog 56 #[recV (rs.getD k Rc.dm)] W fun e w'=>e=outE (chkRec (rs.getD k Rc.dm))∧Below W.heap.size W w'):=fun W=>checkRecord_any _ W (HOK.out k)
    generalize rs.getD k Rc.dm=r at *
    have hd:decide ((k:Int) < (n:Int))=true:=by simp;omega
    have hi0:(0:Int)≤(k:Int):=by omega
    have hi1:(k:Int) < (n:Int):=by omega
    have hi2:((k:Int)).toNat=k:=by omega
    go_wp2_with fail
    refine (HRE.out _).mono ?_
    rintro e w9 ⟨rfl,hb9⟩
    have HB9:Hid (Below w.heap.size w w9):=(HBR.out.alloc hsz _).trans (hb9.mono (by simp;omega))
    clear hb9 c0 c1 c2 c3 c4 c5 c6
    by_cases h9:chkRec r=0
    ·rw [h9,outE_0]
     have HZ2:Hid (chkRs rs=chkRs (rs.drop (k+1))):=(show _=_ by rw [HST.out,if_pos h9])
     clear HST h9
     go_wp2_with fail
     exact ⟨⟨k+1,by omega,by go_num,HB9,HZ2⟩,by simp [intOf];omega⟩
    ·have HF:Hid (E=chkRec r):=(show _=_ by rw [← HEE.out,HST.out,if_neg h9])
     rw [outE_ne h9]
     exact ⟨rfl,by rw [HF.out];exact (outE_ne h9).symm,HB9.out⟩
   ·have HF:Hid (E=0):=(show E=0 by rw [← HEE.out,HZ.out,List.drop_of_length_le (by rw [HNN.out];omega)];rfl)
    have hd:decide ((k:Int) < (n:Int))=false:=by simp;omega
    go_wp2_with fail
    simp [bodyPost,results,Tryz.results22]
    exact ⟨by rw [HF.out];rfl,HBR.out⟩
 ·rw [if_pos h4] at hE
  subst hE
  rw [outE_ne h4]
  exact ⟨rfl,(outE_ne h4).symm,HB5.out⟩
set_option maxHeartbeats 800000 in
theorem isType_any (n:Int) (w:World) :
 Calls Tryz.prog 43 #[.int .i64 n] w fun e w'=>e=.returned (.bool (typB n))∧w'=w:=by
 go_enter Tryz.func43,Tryz.ntmps43
 go_wp2
 all_goals
  go_ret
  exact ⟨ret_bool (by rw [Bool.eq_iff_iff];simp [typB];try omega),rfl⟩
set_option maxHeartbeats 1600000 in
set_option maxRecDepth 100000 in
theorem refRec_any (r:Rc.Rec) (w:World) (h1:r.name.size≤2000000) (h2:r.target.size≤2000000) :
 Calls Tryz.prog 78 #[recV r] w fun e w'=>e=.returned (.int .i64 (chkRec r))∧Below w.heap.size w w':=by
 have HN:Hid (∀ W,Calls Tryz.prog 39 #[.string r.name] W fun e w'=>e=.returned (.int .i64 (chkN r.name))∧Below W.heap.size W w'):=fun W=>rCheckName_any _ _ h1
 have HT:Hid (∀ W,Calls Tryz.prog 39 #[.string r.target] W fun e w'=>e=.returned (.int .i64 (chkN r.target))∧Below W.heap.size W w'):=fun W=>rCheckName_any _ _ h2
 generalize hE:chkRec r=E
 unfold chkRec at hE
 clear h1 h2
 go_enter Tryz.func78,Tryz.ntmps78
 go_wp2_with fail
 have hg0:(w.alloc (.cells #[.string r.name,.int .i64 r.typ,.int .i64 r.lasts,.int .i64 r.addr,.string r.text,.int .i64 r.port,.string r.target] 59)).heap[w.heap.size]?=some (.cells #[.string r.name,.int .i64 r.typ,.int .i64 r.lasts,.int .i64 r.addr,.string r.text,.int .i64 r.port,.string r.target] 59 (0,0)):=heap_alloc_new w _
 refine (HN.out _).mono ?_
 rintro e w1 ⟨rfl,hb1⟩
 have hg1:=(hb1.block w.heap.size (by simp)).trans hg0
 have HB1:Hid (Below w.heap.size w w1):=((Below.refl _ _).alloc (Nat.le_refl _) _).trans (hb1.mono (by simp))
 clear hg0 hb1
 by_cases h1:chkN r.name=0
 ·rw [if_neg (by simpa using h1)] at hE
  rw [h1]
  have f1:w1.cell? ⟨w.heap.size,1,none⟩=some (.int .i64 r.typ):=cellsAt hg1 1
  have f2:w1.cell? ⟨w.heap.size,2,none⟩=some (.int .i64 r.lasts):=cellsAt hg1 2
  have f3:w1.cell? ⟨w.heap.size,3,none⟩=some (.int .i64 r.addr):=cellsAt hg1 3
  have f4:w1.cell? ⟨w.heap.size,4,none⟩=some (.string r.text):=cellsAt hg1 4
  have f5:w1.cell? ⟨w.heap.size,5,none⟩=some (.int .i64 r.port):=cellsAt hg1 5
  have f6:w1.cell? ⟨w.heap.size,6,none⟩=some (.string r.target):=cellsAt hg1 6
  go_wp2_with fail
  refine (isType_any _ _).mono ?_
  rintro e w2 ⟨rfl,hw2⟩
  subst hw2
  by_cases h2:typB r.typ=false
  ·rw [if_pos h2] at hE
   subst hE
   rw [h2]
   go_wp2_with fail
   go_ret
   exact ⟨rfl,HB1.out⟩
  rw [if_neg h2] at hE
  rw [show typB r.typ=true by simpa using h2]
  go_wp2_with fail
  refine (between_any _ _ _ _).mono ?_
  rintro e w3 ⟨rfl,hw3⟩
  subst hw3
  by_cases h3:within r.lasts 0 2147483647=false
  ·rw [if_pos h3] at hE
   subst hE
   rw [h3]
   go_wp2_with fail
   go_ret
   exact ⟨rfl,HB1.out⟩
  rw [if_neg h3] at hE
  rw [show within r.lasts 0 2147483647=true by simpa using h3]
  have htt:r.typ=1∨r.typ=16∨r.typ=33:=by
   have h:typB r.typ=true:=by simpa using h2
   simp only [typB,Bool.or_eq_true,decide_eq_true_eq,or_assoc] at h
   exact h
  rcases htt with ht | ht | ht
  ·have t1:(r.typ != 1)=false:=by rw [ht];rfl
   have t16:(r.typ != 16)=true:=by rw [ht];rfl
   have t33:(r.typ != 33)=true:=by rw [ht];rfl
   have Ht:Hid (r.typ=1):=ht
   clear ht
   by_cases htext:r.text.size=0
   case neg=>
    have ztext:r.text.toList.isEmpty=false:=by have:=(nempty htext).2;simpa using this
    have ytext:=(nempty htext).2
    have xtext:=(nempty htext).1
    have hown:ownB r=false:=by simp [ownB,Ht.out,htext]
    rw [if_pos hown] at hE
    subst hE
    go_wp2_with fail
    go_ret
    exact ⟨rfl,HB1.out⟩
   have ztext:r.text.toList.isEmpty=true:=by rw [isempty htext,Lib.toList_data];rfl
   have Htext:Hid (r.text.size=0):=htext
   clear htext
   by_cases hport:r.port=0
   case neg=>
    have zport:(r.port != 0)=true:=by simpa using hport
    have hown:ownB r=false:=by simp [ownB,Ht.out,Htext.out,hport]
    rw [if_pos hown] at hE
    subst hE
    go_wp2_with fail
    go_ret
    exact ⟨rfl,HB1.out⟩
   have zport:(r.port != 0)=false:=by simpa using hport
   have Hport:Hid (r.port=0):=hport
   clear hport
   by_cases htarget:r.target.size=0
   case neg=>
    have ztarget:r.target.toList.isEmpty=false:=by have:=(nempty htarget).2;simpa using this
    have ytarget:=(nempty htarget).2
    have xtarget:=(nempty htarget).1
    have hown:ownB r=false:=by simp [ownB,Ht.out,Htext.out,Hport.out,htarget]
    rw [if_pos hown] at hE
    subst hE
    go_wp2_with fail
    go_ret
    exact ⟨rfl,HB1.out⟩
   have ztarget:r.target.toList.isEmpty=true:=by rw [isempty htarget,Lib.toList_data];rfl
   have Htarget:Hid (r.target.size=0):=htarget
   clear htarget
   have hown:ownB r=true:=by simp [ownB,Ht.out,Htext.out,Hport.out,Htarget.out]
   rw [if_neg (by rw [hown];simp)] at hE
   go_wp2_with fail
   refine (isAddress_any _ _).mono ?_
   rintro e w4 ⟨rfl,hw4⟩
   subst hw4
   by_cases h5:within r.addr 0 4294967295=false
   ·rw [if_pos (by rw [h5];rfl)] at hE
    subst hE
    rw [h5]
    go_wp2_with fail
    go_ret
    exact ⟨rfl,HB1.out⟩
   have h5t:within r.addr 0 4294967295=true:=by simpa using h5
   rw [h5t] at hE ⊢
   rw [Bool.true_and] at hE
   go_wp2_with fail
   refine (between_any _ _ _ _).mono ?_
   rintro e w5 ⟨rfl,hw5⟩
   subst hw5
   by_cases h6:within r.port 0 65535=false
   ·rw [if_pos h6] at hE
    subst hE
    rw [h6]
    go_wp2_with fail
    go_ret
    exact ⟨rfl,HB1.out⟩
   rw [if_neg h6] at hE
   rw [show within r.port 0 65535=true by simpa using h6]
   by_cases h7:200 < r.text.size
   ·rw [if_pos h7] at hE
    subst hE
    have h8:decide (200 < (r.text.size:Int))=true:=by simp;omega
    go_wp2_with fail
    go_ret
    exact ⟨rfl,HB1.out⟩
   rw [if_neg h7] at hE
   have h8:decide (200 < (r.text.size:Int))=false:=by simp;omega
   go_wp2_with fail
   refine (HT.out _).mono ?_
   rintro e w6 ⟨rfl,hb6⟩
   have HB6:Hid (Below w.heap.size w w6):=HB1.out.trans (hb6.mono HB1.out.size)
   clear hb6
   subst hE
   go_wp2_with fail
   go_ret
   exact ⟨rfl,HB6.out⟩
  ·have t1:(r.typ != 1)=true:=by rw [ht];rfl
   have t16:(r.typ != 16)=false:=by rw [ht];rfl
   have t33:(r.typ != 33)=true:=by rw [ht];rfl
   have Ht:Hid (r.typ=16):=ht
   clear ht
   by_cases haddr:r.addr=0
   case neg=>
    have zaddr:(r.addr != 0)=true:=by simpa using haddr
    have hown:ownB r=false:=by simp [ownB,Ht.out,haddr]
    rw [if_pos hown] at hE
    subst hE
    go_wp2_with fail
    go_ret
    exact ⟨rfl,HB1.out⟩
   have zaddr:(r.addr != 0)=false:=by simpa using haddr
   have Haddr:Hid (r.addr=0):=haddr
   clear haddr
   by_cases hport:r.port=0
   case neg=>
    have zport:(r.port != 0)=true:=by simpa using hport
    have hown:ownB r=false:=by simp [ownB,Ht.out,Haddr.out,hport]
    rw [if_pos hown] at hE
    subst hE
    go_wp2_with fail
    go_ret
    exact ⟨rfl,HB1.out⟩
   have zport:(r.port != 0)=false:=by simpa using hport
   have Hport:Hid (r.port=0):=hport
   clear hport
   by_cases htarget:r.target.size=0
   case neg=>
    have ztarget:r.target.toList.isEmpty=false:=by have:=(nempty htarget).2;simpa using this
    have ytarget:=(nempty htarget).2
    have xtarget:=(nempty htarget).1
    have hown:ownB r=false:=by simp [ownB,Ht.out,Haddr.out,Hport.out,htarget]
    rw [if_pos hown] at hE
    subst hE
    go_wp2_with fail
    go_ret
    exact ⟨rfl,HB1.out⟩
   have ztarget:r.target.toList.isEmpty=true:=by rw [isempty htarget,Lib.toList_data];rfl
   have Htarget:Hid (r.target.size=0):=htarget
   clear htarget
   have hown:ownB r=true:=by simp [ownB,Ht.out,Haddr.out,Hport.out,Htarget.out]
   rw [if_neg (by rw [hown];simp)] at hE
   go_wp2_with fail
   refine (isAddress_any _ _).mono ?_
   rintro e w4 ⟨rfl,hw4⟩
   subst hw4
   by_cases h5:within r.addr 0 4294967295=false
   ·rw [if_pos (by rw [h5];rfl)] at hE
    subst hE
    rw [h5]
    go_wp2_with fail
    go_ret
    exact ⟨rfl,HB1.out⟩
   have h5t:within r.addr 0 4294967295=true:=by simpa using h5
   rw [h5t] at hE ⊢
   rw [Bool.true_and] at hE
   go_wp2_with fail
   refine (between_any _ _ _ _).mono ?_
   rintro e w5 ⟨rfl,hw5⟩
   subst hw5
   by_cases h6:within r.port 0 65535=false
   ·rw [if_pos h6] at hE
    subst hE
    rw [h6]
    go_wp2_with fail
    go_ret
    exact ⟨rfl,HB1.out⟩
   rw [if_neg h6] at hE
   rw [show within r.port 0 65535=true by simpa using h6]
   by_cases h7:200 < r.text.size
   ·rw [if_pos h7] at hE
    subst hE
    have h8:decide (200 < (r.text.size:Int))=true:=by simp;omega
    go_wp2_with fail
    go_ret
    exact ⟨rfl,HB1.out⟩
   rw [if_neg h7] at hE
   have h8:decide (200 < (r.text.size:Int))=false:=by simp;omega
   go_wp2_with fail
   refine (HT.out _).mono ?_
   rintro e w6 ⟨rfl,hb6⟩
   have HB6:Hid (Below w.heap.size w w6):=HB1.out.trans (hb6.mono HB1.out.size)
   clear hb6
   subst hE
   go_wp2_with fail
   go_ret
   exact ⟨rfl,HB6.out⟩
  ·have t1:(r.typ != 1)=true:=by rw [ht];rfl
   have t16:(r.typ != 16)=true:=by rw [ht];rfl
   have t33:(r.typ != 33)=false:=by rw [ht];rfl
   have Ht:Hid (r.typ=33):=ht
   clear ht
   by_cases haddr:r.addr=0
   case neg=>
    have zaddr:(r.addr != 0)=true:=by simpa using haddr
    have hown:ownB r=false:=by simp [ownB,Ht.out,haddr]
    rw [if_pos hown] at hE
    subst hE
    go_wp2_with fail
    go_ret
    exact ⟨rfl,HB1.out⟩
   have zaddr:(r.addr != 0)=false:=by simpa using haddr
   have Haddr:Hid (r.addr=0):=haddr
   clear haddr
   by_cases htext:r.text.size=0
   case neg=>
    have ztext:r.text.toList.isEmpty=false:=by have:=(nempty htext).2;simpa using this
    have ytext:=(nempty htext).2
    have xtext:=(nempty htext).1
    have hown:ownB r=false:=by simp [ownB,Ht.out,Haddr.out,htext]
    rw [if_pos hown] at hE
    subst hE
    go_wp2_with fail
    go_ret
    exact ⟨rfl,HB1.out⟩
   have ztext:r.text.toList.isEmpty=true:=by rw [isempty htext,Lib.toList_data];rfl
   have Htext:Hid (r.text.size=0):=htext
   clear htext
   have hown:ownB r=true:=by simp [ownB,Ht.out,Haddr.out,Htext.out]
   rw [if_neg (by rw [hown];simp)] at hE
   go_wp2_with fail
   refine (isAddress_any _ _).mono ?_
   rintro e w4 ⟨rfl,hw4⟩
   subst hw4
   by_cases h5:within r.addr 0 4294967295=false
   ·rw [if_pos (by rw [h5];rfl)] at hE
    subst hE
    rw [h5]
    go_wp2_with fail
    go_ret
    exact ⟨rfl,HB1.out⟩
   have h5t:within r.addr 0 4294967295=true:=by simpa using h5
   rw [h5t] at hE ⊢
   rw [Bool.true_and] at hE
   go_wp2_with fail
   refine (between_any _ _ _ _).mono ?_
   rintro e w5 ⟨rfl,hw5⟩
   subst hw5
   by_cases h6:within r.port 0 65535=false
   ·rw [if_pos h6] at hE
    subst hE
    rw [h6]
    go_wp2_with fail
    go_ret
    exact ⟨rfl,HB1.out⟩
   rw [if_neg h6] at hE
   rw [show within r.port 0 65535=true by simpa using h6]
   by_cases h7:200 < r.text.size
   ·rw [if_pos h7] at hE
    subst hE
    have h8:decide (200 < (r.text.size:Int))=true:=by simp;omega
    go_wp2_with fail
    go_ret
    exact ⟨rfl,HB1.out⟩
   rw [if_neg h7] at hE
   have h8:decide (200 < (r.text.size:Int))=false:=by simp;omega
   go_wp2_with fail
   refine (HT.out _).mono ?_
   rintro e w6 ⟨rfl,hb6⟩
   have HB6:Hid (Below w.heap.size w w6):=HB1.out.trans (hb6.mono HB1.out.size)
   clear hb6
   subst hE
   go_wp2_with fail
   go_ret
   exact ⟨rfl,HB6.out⟩
 ·rw [if_pos h1] at hE
  subst hE
  have h2:(chkN r.name != 0)=true:=by simpa using h1
  go_wp2_with fail
  go_ret
  exact ⟨rfl,HB1.out⟩
end Go.Proofs.YtignmeaeibaejaaGreatDoor
