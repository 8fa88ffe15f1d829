import Derived.Test.YtignmeaeibaejaaGreatDoorV30
import Derived.Test.YtignmeaeibaejaaGreatDoorV31
namespace Go.Proofs.YtignmeaeibaejaaGreatDoor
open Go.RowKit
structure Ms where
 id:Int
 code:Int
 typ:Int
 ans:Bool
 cut:Bool
 R:ByteArray
 rs:List Rc.Rec
def recsF (t:ByteArray):Nat→Nat→List Rc.Rec→Option (List Rc.Rec × Nat)
 | 0,a,D=>some (D,a)
 | n+1,a,D=>match recF t a with
   | none=>none
   | some (r,q)=>recsF t n q (D++[r])
def msgU (t:ByteArray) (id:Int) (ans cut:Bool) (code:Int) (R:ByteArray) (typ:Int) (o:Option (List Rc.Rec × Nat)):Option Ms:=
 match o with
 | none=>none
 | some (rs,q)=>if q=t.size then some ⟨id,code,typ,ans,cut,R,rs⟩ else none
def msgT (t:ByteArray) (id:Int) (ans cut:Bool) (code:Int) (n:Nat) (o:Option (ByteArray × Nat)):Option Ms:=
 match o with
 | none=>none
 | some (R,p)=>if p+2≤t.size then if p+2+2≤t.size∧(rnum t (p+2) 2:Int)=1 then msgU t id ans cut code R (rnum t p 2) (recsF t n (p+2+2) []) else none else none
def msgS (t:ByteArray) (id F:Int) (ans cut:Bool):Option Ms:=
 if F=flg ans cut then
  if 3+1≤t.size then
   if 4+2≤t.size∧(rnum t 4 2:Int)=1 then
    if 6+2≤t.size then
     if 8+2≤t.size∧(rnum t 8 2:Int)=0 then
      if 10+2≤t.size∧(rnum t 10 2:Int)=0 then msgT t id ans cut (rnum t 3 1) (rnum t 6 2) (tgF t 12) else none
     else none
    else none
   else none
  else none
 else none
def msgF (t:ByteArray):Option Ms:=
 if 0+2≤t.size then
  if 2+1≤t.size then msgS t (rnum t 0 2) (rnum t 2 1) (bits .and .i64 (rnum t 2 1) 128 != 0) (bits .and .i64 (rnum t 2 1) 2 != 0) else none
 else none
theorem recsF_no {t:ByteArray} {n a:Nat} {D:List Rc.Rec} (h:recF t a=none) (hn:0 < n):recsF t n a D=none:=by
 obtain ⟨m,rfl⟩:∃ m,n=m+1:=⟨n - 1,by omega⟩
 simp only [recsF,h]
theorem recsF_go {t:ByteArray} {n a q:Nat} {r:Rc.Rec} {D:List Rc.Rec} (h:recF t a=some (r,q)) (hn:0 < n):recsF t n a D=recsF t (n - 1) q (D++[r]):=by
 obtain ⟨m,rfl⟩:∃ m,n=m+1:=⟨n - 1,by omega⟩
 simp only [recsF,h,Nat.add_sub_cancel]
abbrev MsP (g:Nat) (w:World) (F:Option Ms) (e:Ending) (w':World):Prop:=
 Hid (Rd g w w')∧((∃ M v,F=some M∧(M.R.size≤1000∧∀ r∈M.rs,r.ok)∧e=.returned (.agg #[.int .i64 M.id,.bool M.ans,.bool M.cut,.int .i64 M.code,.string M.R,.int .i64 M.typ,v])∧Hid (Rc.Own (w.heap.size+2) w' v M.rs))∨(F=none∧e=outE 1))
set_option maxHeartbeats 3200000 in
set_option maxRecDepth 100000 in
theorem rmsg_b (g:Nat) (t:ByteArray) (w:World) (h:IsR g t 0 w) (hs:t.size≤1000) :
 Calls Tryz.prog 25 #[.pointer (some ⟨g,0,none⟩)] w (MsP g w (msgF t)):=by
 have HF:Hid (msgF t=if 0+2≤t.size then
  if 2+1≤t.size then msgS t (rnum t 0 2) (rnum t 2 1) (bits .and .i64 (rnum t 2 1) 128 != 0) (bits .and .i64 (rnum t 2 1) 2 != 0) else none
 else none):=rfl
 have HI:Hid (IsR g t 0 w):=h
 have hg:=h.hg
 clear h
 unfold MsP
 generalize msgF t=F at *
 go_enter Tryz.func25,Tryz.ntmps25
 go_wp2_with fail
 obtain ⟨w0,hw0⟩:∃ w0,w0=(w.alloc (.cells zmsg 38)).alloc (.cells zmsg 38):=⟨_,rfl⟩
 rw [← hw0]
 have S0:Hid (St g t w 38 zmsg 0 zmsg w0):=(show St _ _ _ _ _ _ _ _ by
  have hx:w.Extends w0:=by rw [hw0];exact ((World.Extends.refl w).alloc _).alloc _
  refine ⟨HI.out.ext hx,Rd.ext hx,?_,?_,hg⟩
  ·rw [hw0]
   exact (Lib.alloc_old _ _ _ (by simp)).trans (heap_alloc_new w _)
  ·rw [hw0]
   have:=heap_alloc_new (w.alloc (.cells zmsg 38)) (.cells zmsg 38)
   simpa using this)
 clear hw0
 refine (number_b g 0 2 t w0 S0.out.isR hs (by omega) (by omega)).mono ?_
 rintro e w1 ⟨h2,⟨l0,rfl,h1⟩ | ⟨hno,rfl⟩⟩
 rotate_left
 ·exact ⟨rfl,S0.out.rd.trans h2.out,.inr ⟨HF.out.trans (if_neg hno),rfl⟩⟩
 have HF0:Hid (F=if 2+1≤t.size then msgS t (rnum t 0 2) (rnum t 2 1) (bits .and .i64 (rnum t 2 1) 128 != 0) (bits .and .i64 (rnum t 2 1) 2 != 0) else none):=HF.out.trans (if_pos l0)
 have S1:Hid (St g t w 38 zmsg 2 zmsg w1):=S0.out.call h1 h2
 have z1:=S1.out.free 0
 have c1:w1.cell? ⟨w.heap.size+1,0,none⟩=some (.int .i64 0):=S1.out.cell 0
 clear h1 h2 S0 HF
 generalize (rnum t 0 2:Int)=id at *
 go_wp2_with fail
 have S2:Hid (St g t w 38 zmsg 2 #[.int .i64 id,.bool false,.bool false,.int .i64 0,.string ⟨#[]⟩,.int .i64 0,.slice none 0 0] (w1.setCell ⟨w.heap.size+1,0,none⟩ (.int .i64 id))):=S1.out.store 0 (.int .i64 id)
 refine (number_b g 2 1 t _ S2.out.isR hs (by omega) (by omega)).mono ?_
 rintro e w2 ⟨h2,⟨l2,rfl,h1⟩ | ⟨hno,rfl⟩⟩
 rotate_left
 ·exact ⟨rfl,S2.out.rd.trans h2.out,.inr ⟨HF0.out.trans (if_neg hno),rfl⟩⟩
 have HF1:Hid (F=msgS t id (rnum t 2 1) (bits .and .i64 (rnum t 2 1) 128 != 0) (bits .and .i64 (rnum t 2 1) 2 != 0)):=HF0.out.trans (if_pos l2)
 have S3:Hid (St g t w 38 zmsg 3 #[.int .i64 id,.bool false,.bool false,.int .i64 0,.string ⟨#[]⟩,.int .i64 0,.slice none 0 0] w2):=S2.out.call h1 h2
 have z1:=S3.out.free 1
 have z2:=S3.out.free 2
 have c0:w2.cell? ⟨w.heap.size+1,0,none⟩=some (.int .i64 id):=S3.out.cell 0
 have c1:w2.cell? ⟨w.heap.size+1,1,none⟩=some (.bool false):=S3.out.cell 1
 have c2:w2.cell? ⟨w.heap.size+1,2,none⟩=some (.bool false):=S3.out.cell 2
 have c3:w2.cell? ⟨w.heap.size+1,3,none⟩=some (.int .i64 0):=S3.out.cell 3
 have c4:w2.cell? ⟨w.heap.size+1,4,none⟩=some (.string ⟨#[]⟩):=S3.out.cell 4
 have c5:w2.cell? ⟨w.heap.size+1,5,none⟩=some (.int .i64 0):=S3.out.cell 5
 have c6:w2.cell? ⟨w.heap.size+1,6,none⟩=some (.slice none 0 0):=S3.out.cell 6
 clear h1 h2 S1 S2 HF0
 generalize (rnum t 2 1:Int)=fl at *
 obtain ⟨ans,hb1⟩:∃ x,(bits .and .i64 fl 128 != 0)=x:=⟨_,rfl⟩
 obtain ⟨cut,hb2⟩:∃ x,(bits .and .i64 fl 2 != 0)=x:=⟨_,rfl⟩
 rw [hb1,hb2] at HF1
 go_wp2_with fail
 have S4:Hid (St g t w 38 zmsg 3 #[.int .i64 id,.bool ans,.bool cut,.int .i64 0,.string ⟨#[]⟩,.int .i64 0,.slice none 0 0] ((w2.setCell ⟨w.heap.size+1,1,none⟩ (.bool ans)).setCell ⟨w.heap.size+1,2,none⟩ (.bool cut))):=(S3.out.store 1 (.bool ans)).store 2 (.bool cut)
 refine (flags_any id 0 0 ans cut ⟨#[]⟩ _).mono ?_
 rintro e w3 ⟨rfl,o,hw3⟩
 have S5:Hid (St g t w 38 zmsg 3 #[.int .i64 id,.bool ans,.bool cut,.int .i64 0,.string ⟨#[]⟩,.int .i64 0,.slice none 0 0] w3):=(show St _ _ _ _ _ _ _ _ by rw [hw3];exact S4.out.keep ((World.Extends.refl _).alloc _))
 have HF2:Hid (F=if fl=flg ans cut then
  if 3+1≤t.size then
   if 4+2≤t.size∧(rnum t 4 2:Int)=1 then
    if 6+2≤t.size then
     if 8+2≤t.size∧(rnum t 8 2:Int)=0 then
      if 10+2≤t.size∧(rnum t 10 2:Int)=0 then msgT t id ans cut (rnum t 3 1) (rnum t 6 2) (tgF t 12) else none
     else none
    else none
   else none
  else none
 else none):=HF1
 clear hw3 z1 z2 c0 c1 c2 c3 c4 c5 c6 S3 S4 hb1 hb2 HF1
 generalize flg ans cut=fg at *
 by_cases hfl:fl=fg
 rotate_left
 ·have hfb:(fl == fg)=false:=by simpa using hfl
  have HF3:Hid (F=none):=HF2.out.trans (if_neg hfl)
  clear HF2 hfl
  go_wp2_with fail
  refine (need_no _ _).mono ?_
  rintro e w4 ⟨rfl,hw4⟩
  subst hw4
  exact ⟨rfl,S5.out.rd,.inr ⟨HF3.out,rfl⟩⟩
 have hfb:(fl == fg)=true:=by simpa using hfl
 have HF3:Hid _:=HF2.out.trans (if_pos hfl)
 clear HF2 hfl
 go_wp2_with fail
 refine (need_ok _ _).mono ?_
 rintro e w4 ⟨rfl,hw4⟩
 subst hw4
 clear hfb
 go_wp2_with fail
 refine (number_b g 3 1 t _ S5.out.isR hs l2 (by omega)).mono ?_
 rintro e w5 ⟨h2,⟨l3,rfl,h1⟩ | ⟨hno,rfl⟩⟩
 rotate_left
 ·exact ⟨rfl,S5.out.rd.trans h2.out,.inr ⟨HF3.out.trans (if_neg hno),rfl⟩⟩
 have HF4:Hid _:=HF3.out.trans (if_pos l3)
 have S6:Hid (St g t w 38 zmsg 4 #[.int .i64 id,.bool ans,.bool cut,.int .i64 0,.string ⟨#[]⟩,.int .i64 0,.slice none 0 0] w5):=S5.out.call h1 h2
 have z3:=S6.out.free 3
 have c3:w5.cell? ⟨w.heap.size+1,3,none⟩=some (.int .i64 0):=S6.out.cell 3
 clear h1 h2 S5 HF3
 generalize (rnum t 3 1:Int)=code at *
 go_wp2_with fail
 have S7:Hid (St g t w 38 zmsg 4 #[.int .i64 id,.bool ans,.bool cut,.int .i64 code,.string ⟨#[]⟩,.int .i64 0,.slice none 0 0] (w5.setCell ⟨w.heap.size+1,3,none⟩ (.int .i64 code))):=S6.out.store 3 (.int .i64 code)
 refine (expect_b g 4 2 1 t _ S7.out.isR hs l3 (by omega)).mono ?_
 rintro e w6 ⟨h2,⟨l4,rfl,h1⟩ | ⟨hno,rfl⟩⟩
 rotate_left
 ·exact ⟨rfl,S7.out.rd.trans h2.out,.inr ⟨HF4.out.trans (if_neg hno),rfl⟩⟩
 have HF5:Hid _:=HF4.out.trans (if_pos l4)
 have S8:Hid (St g t w 38 zmsg 6 #[.int .i64 id,.bool ans,.bool cut,.int .i64 code,.string ⟨#[]⟩,.int .i64 0,.slice none 0 0] w6):=S7.out.call h1 h2
 clear h1 h2 S6 S7 z3 c3 HF4
 go_wp2_with fail
 refine (number_b g 6 2 t _ S8.out.isR hs l4.1 (by omega)).mono ?_
 rintro e w7 ⟨h2,⟨l6,rfl,h1⟩ | ⟨hno,rfl⟩⟩
 rotate_left
 ·exact ⟨rfl,S8.out.rd.trans h2.out,.inr ⟨HF5.out.trans (if_neg hno),rfl⟩⟩
 have HF6:Hid _:=HF5.out.trans (if_pos l6)
 have S9:Hid (St g t w 38 zmsg 8 #[.int .i64 id,.bool ans,.bool cut,.int .i64 code,.string ⟨#[]⟩,.int .i64 0,.slice none 0 0] w7):=S8.out.call h1 h2
 have hn16:=rnum_lt t 6 2
 clear h1 h2 S8 HF5
 generalize rnum t 6 2=n at *
 go_wp2_with fail
 refine (expect_b g 8 2 0 t _ S9.out.isR hs l6 (by omega)).mono ?_
 rintro e w8 ⟨h2,⟨l8,rfl,h1⟩ | ⟨hno,rfl⟩⟩
 rotate_left
 ·exact ⟨rfl,S9.out.rd.trans h2.out,.inr ⟨HF6.out.trans (if_neg hno),rfl⟩⟩
 have HF7:Hid _:=HF6.out.trans (if_pos l8)
 have SA:Hid (St g t w 38 zmsg 10 #[.int .i64 id,.bool ans,.bool cut,.int .i64 code,.string ⟨#[]⟩,.int .i64 0,.slice none 0 0] w8):=S9.out.call h1 h2
 clear h1 h2 S9 HF6
 go_wp2_with fail
 refine (expect_b g 10 2 0 t _ SA.out.isR hs l8.1 (by omega)).mono ?_
 rintro e w9 ⟨h2,⟨l10,rfl,h1⟩ | ⟨hno,rfl⟩⟩
 rotate_left
 ·exact ⟨rfl,SA.out.rd.trans h2.out,.inr ⟨HF7.out.trans (if_neg hno),rfl⟩⟩
 have HF8:Hid (F=msgT t id ans cut code n (tgF t 12)):=HF7.out.trans (if_pos l10)
 have SB:Hid (St g t w 38 zmsg 12 #[.int .i64 id,.bool ans,.bool cut,.int .i64 code,.string ⟨#[]⟩,.int .i64 0,.slice none 0 0] w9):=SA.out.call h1 h2
 clear h1 h2 SA HF7
 go_wp2_with fail
 refine (name_c g 12 t _ SB.out.isR hs l10.1).mono ?_
 rintro e wa ⟨h2,⟨R,p,h3,h4,h5,rfl,h1⟩ | ⟨h3,rfl⟩⟩
 rotate_left
 ·exact ⟨rfl,SB.out.rd.trans h2.out,.inr ⟨by rw [HF8.out,h3];rfl,rfl⟩⟩
 have HF9:Hid (F=if p+2≤t.size then if p+2+2≤t.size∧(rnum t (p+2) 2:Int)=1 then msgU t id ans cut code R (rnum t p 2) (recsF t n (p+2+2) []) else none else none):=(show _=_ by rw [HF8.out,h3];rfl)
 have SC:Hid (St g t w 38 zmsg p #[.int .i64 id,.bool ans,.bool cut,.int .i64 code,.string ⟨#[]⟩,.int .i64 0,.slice none 0 0] wa):=SB.out.call h1 h2
 have z4:=SC.out.free 4
 have c4:wa.cell? ⟨w.heap.size+1,4,none⟩=some (.string ⟨#[]⟩):=SC.out.cell 4
 clear h1 h2 h3 SB HF8
 go_wp2_with fail
 have SD:Hid (St g t w 38 zmsg p #[.int .i64 id,.bool ans,.bool cut,.int .i64 code,.string R,.int .i64 0,.slice none 0 0] (wa.setCell ⟨w.heap.size+1,4,none⟩ (.string R))):=SC.out.store 4 (.string R)
 refine (number_b g p 2 t _ SD.out.isR hs h5 (by omega)).mono ?_
 rintro e wb ⟨h2,⟨lp,rfl,h1⟩ | ⟨hno,rfl⟩⟩
 rotate_left
 ·exact ⟨rfl,SD.out.rd.trans h2.out,.inr ⟨HF9.out.trans (if_neg hno),rfl⟩⟩
 have HFA:Hid (F=if p+2+2≤t.size∧(rnum t (p+2) 2:Int)=1 then msgU t id ans cut code R (rnum t p 2) (recsF t n (p+2+2) []) else none):=HF9.out.trans (if_pos lp)
 have SE:Hid (St g t w 38 zmsg (p+2) #[.int .i64 id,.bool ans,.bool cut,.int .i64 code,.string R,.int .i64 0,.slice none 0 0] wb):=SD.out.call h1 h2
 have z5:=SE.out.free 5
 have c5:wb.cell? ⟨w.heap.size+1,5,none⟩=some (.int .i64 0):=SE.out.cell 5
 clear h1 h2 SC SD z4 c4 HF9
 generalize (rnum t p 2:Int)=typ at *
 go_wp2_with fail
 have SF:Hid (St g t w 38 zmsg (p+2) #[.int .i64 id,.bool ans,.bool cut,.int .i64 code,.string R,.int .i64 typ,.slice none 0 0] (wb.setCell ⟨w.heap.size+1,5,none⟩ (.int .i64 typ))):=SE.out.store 5 (.int .i64 typ)
 refine (expect_b g (p+2) 2 1 t _ SF.out.isR hs lp (by omega)).mono ?_
 rintro e wc ⟨h2,⟨lq,rfl,h1⟩ | ⟨hno,rfl⟩⟩
 rotate_left
 ·exact ⟨rfl,SF.out.rd.trans h2.out,.inr ⟨HFA.out.trans (if_neg hno),rfl⟩⟩
 obtain ⟨RS,hRS⟩:∃ RS,RS=recsF t n (p+2+2) []:=⟨_,rfl⟩
 have HFB:Hid (F=msgU t id ans cut code R typ RS):=(show _=_ by rw [hRS];exact HFA.out.trans (if_pos lq))
 have HRS0:Hid (recsF t (n - 0) (p+2+2) []=RS):=hRS.symm
 have SG:Hid (St g t w 38 zmsg (p+2+2) #[.int .i64 id,.bool ans,.bool cut,.int .i64 code,.string R,.int .i64 typ,.slice none 0 0] wc):=SF.out.call h1 h2
 have lp4:=lq.1
 clear h1 h2 SE SF z5 c5 HFA hRS lq
 go_wp2_with fail
 have hzw:w.heap.size+2≤wc.heap.size:=(Array.getElem?_eq_some_iff.1 SG.out.bx).1
 obtain ⟨i0,hi0,hz0,hzs,hzb⟩:=info_parts Tryz.infoRec
 go_loopw [46] (fun i wr=>∃ (k:Nat) (v:Value) (D:List Rc.Rec) (b:Nat),k≤n∧i=.int .i64 k∧D.length=k∧b≤t.size∧Hid (recsF t (n - k) b D=RS)∧Hid (∀ r∈D,r.ok)∧Hid (St g t w 38 zmsg b #[.int .i64 id,.bool ans,.bool cut,.int .i64 code,.string R,.int .i64 typ,v] wr)∧Hid (Rc.Own (w.heap.size+2) wr v D)∧w.heap.size+2≤wr.heap.size) (fun i _=>n - (intOf i).toNat)
 case atStart=>exact ⟨0,.slice none 0 0,[],p+2+2,Nat.zero_le _,rfl,rfl,lp4,HRS0,(show ∀ _,_ from fun r hr=>by cases hr),SG,World.ownsRow_nil _ _ _ _,hzw⟩
 case round=>
  obtain ⟨k,v,D,b,hk,rfl,hDk,hbt,HRS,HOK,HS,HO,hsz⟩:=hrel
  by_cases hlt:k < n
  ·have hd:decide ((k:Int) < (n:Int))=true:=by simp;omega
   have HRC:Hid (Calls Tryz.prog 63 #[.pointer (some ⟨g,0,none⟩)] wr.drew fun e w'=>Hid (Rd g wr.drew w')∧((∃ r q,recF t b=some (r,q)∧q≤t.size∧r.ok∧e=.returned (recV r)∧Hid (IsR g t q w'))∨(recF t b=none∧e=outE 1))):=rrec_b g b t wr.drew (HS.out.isR.ext (World.Extends.refl _).drew) hs hbt
   have HNO:Hid (recF t b=none→F=none):=fun hh=>by
    rw [HFB.out,← HRS.out,recsF_no hh (by omega)];rfl
   have HGO:Hid (∀ r q,recF t b=some (r,q)→recsF t (n - (k+1)) q (D++[r])=RS):=fun r q hh=>by
    rw [← HRS.out,recsF_go hh (by omega),show n - (k+1)=n - k - 1 by omega]
   generalize recF t b=rf at *
   have hvw:wr.cell? ⟨w.heap.size+1,6,none⟩=some v:=HS.out.cell 6
   go_wp2_with fail
   refine wp_region_any (by kernel_rfl) ?_
   refine wpAny_take (i:=0) (v:=.pointer (some ⟨w.heap.size+1,6,none⟩)) rfl (by kernel_rfl) (by kernel_rfl) (by kernel_rfl) (fun _ _ _ h=>h) (Or.inl ⟨by rfl,?_⟩) ?_
   ·intro W
    go_simp
   refine wpAny_take (i:=2) (v:=.pointer (some ⟨g,0,none⟩)) rfl (by kernel_rfl) (by kernel_rfl) (by kernel_rfl) (fun _ _ _ h=>h) (Or.inl ⟨by rfl,?_⟩) ?_
   ·intro W
    go_simp
   refine wpAny_ready (rs:=[1,3]) (by kernel_rfl) (by simp) ?_
   refine AllReady.cons rfl (fun K hK=>?_) (AllReady.cons rfl (fun K hK=>?_) AllReady.nil)
   ·have HK:Hid _:=hK
    clear hK
    go_simp
    refine HK.out _ _ ?_
    clear HK K
    refine wpAny_ready (rs:=[3]) (by kernel_rfl) (by simp) ?_
    refine AllReady.cons rfl (fun K hK=>?_) AllReady.nil
    have HK:Hid _:=hK
    clear hK
    go_simp
    refine HRC.out.mono ?_
    rintro e w5 ⟨h2,⟨r,q,h3,hqt,hrok,rfl,h1⟩ | ⟨h3,rfl⟩⟩
    rotate_left
    ·exact ⟨rfl,(HS.out.keep (World.Extends.refl _).drew).rd.trans h2.out,.inr ⟨HNO.out h3,rfl⟩⟩
    have HRS2:Hid (recsF t (n - (k+1)) q (D++[r])=RS):=HGO.out r q h3
    have HOK2:Hid (∀ x∈D++[r],x.ok):=(show ∀ _,_ from fun x hx=>by
     rcases List.mem_append.1 hx with h | h
     ·exact HOK.out x h
     ·rw [List.mem_singleton.1 h];exact hrok)
    clear h3 hrok HNO HGO HRS HOK
    have HS5:Hid (St g t w 38 zmsg q #[.int .i64 id,.bool ans,.bool cut,.int .i64 code,.string R,.int .i64 typ,v] w5):=(HS.out.keep (World.Extends.refl _).drew).call h1 h2
    have HO5:Hid (Rc.Own (w.heap.size+2) w5 v D):=h2.out.ownR (World.ownsRow.drew HO.out) (by omega)
    have hz5:w.heap.size+2≤w5.heap.size:=Nat.le_trans hsz h2.out.size
    have hv5:w5.cell? ⟨w.heap.size+1,6,none⟩=some v:=HS5.out.cell 6
    clear h1 h2
    refine HK.out _ _ ?_
    clear HK K
    refine wpAny_ready (rs:=[4]) (by kernel_rfl) (by simp) ?_
    refine AllReady.cons rfl (fun K hK=>?_) AllReady.nil
    have HK:Hid _:=hK
    clear hK
    go_simp
    refine HK.out _ _ ?_
    clear HK K
    refine wpAny_ready (rs:=[5]) (by kernel_rfl) (by simp) ?_
    refine AllReady.cons rfl (fun K hK=>?_) AllReady.nil
    have HK:Hid _:=hK
    clear hK
    rw [if_pos (by rfl)]
    refine wp_append_own _ _ _ 36 rfl (w.heap.size+2) 59 i0 _ 7 80 Tryz.underlying36 hi0 hz0 hzs hzb rfl (by omega) v D.length (Rc.fl D) rfl (World.ownsRow.alloc HO5.out _) ⟨w5.heap.size,0,none⟩ 1 1 r.cs rfl rfl (World.news_of_block (cs:=#[.string r.name,.int .i64 r.typ,.int .i64 r.lasts,.int .i64 r.addr,.string r.text,.int .i64 r.port,.string r.target]) (t:=59) (fr:=(0,0)) (heap_alloc_new w5 _)) (Rc.cs_one r) (by unfold maxLen;omega) (by omega) (by simp;omega) ?_
    intro v' w6 r1 r2 r3
    obtain ⟨ao,l',c',hv'⟩:∃ ao l' c',v'=.slice ao l' c':=by
     rcases r1.2 with ⟨hv,_⟩ | ⟨gq,cq,_,hv,_⟩
     ·exact ⟨_,_,_,hv⟩
     ·exact ⟨_,_,_,hv⟩
    subst hv'
    have hext:w5.Extends (w5.alloc (.cells #[.string r.name,.int .i64 r.typ,.int .i64 r.lasts,.int .i64 r.addr,.string r.text,.int .i64 r.port,.string r.target] 59)):=(World.Extends.refl w5).alloc _
    have hMne:∀ q,q < w.heap.size+2→some q≠v.ownBlock:=fun q hq e=>by have:=(HO5.out.lt q e.symm).1;omega
    have HS6:Hid (St g t w 38 zmsg q #[.int .i64 id,.bool ans,.bool cut,.int .i64 code,.string R,.int .i64 typ,v] w6):=(show St _ _ _ _ _ _ _ _ from (HS5.out.keep hext).grown r2 (fun q hq=>hMne q hq))
    have HO6:Hid (Rc.Own (w.heap.size+2) w6 (.slice ao l' c') (D++[r])):=(show Rc.Own _ _ _ _ by exact Rc.own_snoc r1)
    have hz6:w.heap.size+2≤w6.heap.size:=by have:=r2.size;simp at this;omega
    have hv6:w6.cell? ⟨w.heap.size+1,6,none⟩=some v:=HS6.out.cell 6
    have hf6:=HS6.out.free 6
    clear r1 r2 r3 hext hMne HS5 HO5 hz5 hv5
    refine HK.out _ _ ?_
    clear HK K
    refine wpAny_ready (rs:=[6]) (by kernel_rfl) (by simp) ?_
    refine AllReady.cons rfl (fun K hK=>?_) AllReady.nil
    have HK:Hid _:=hK
    clear hK
    go_simp
    refine HK.out _ _ ?_
    clear HK K
    refine wpAny_ready (rs:=[7]) (by kernel_rfl) (by simp) ?_
    refine AllReady.cons rfl (fun K hK=>?_) AllReady.nil
    have HK:Hid _:=hK
    clear hK
    go_simp
    refine HK.out _ _ ?_
    clear HK K
    refine wpAny_done (by kernel_rfl) ?_ _
    have HS7:Hid (St g t w 38 zmsg q #[.int .i64 id,.bool ans,.bool cut,.int .i64 code,.string R,.int .i64 typ,.slice ao l' c'] (w6.setCell ⟨w.heap.size+1,6,none⟩ (.slice ao l' c'))):=HS6.out.store 6 (.slice ao l' c')
    have HO7:Hid (Rc.Own (w.heap.size+2) (w6.setCell ⟨w.heap.size+1,6,none⟩ (.slice ao l' c')) (.slice ao l' c') (D++[r])):=own_put HO6.out (by omega)
    have hz7:w.heap.size+2≤(w6.setCell ⟨w.heap.size+1,6,none⟩ (.slice ao l' c')).heap.size:=by simpa using hz6
    clear HS6 HO6 hz6 hv6 hf6
    go_wp2_with fail
    exact ⟨⟨k+1,.slice ao l' c',D++[r],q,by omega,by go_num,by rw [List.length_append,List.length_singleton,hDk],hqt,HRS2,HOK2,HS7,HO7,hz7⟩,by simp [intOf];omega⟩
   ·have HK:Hid _:=hK
    clear hK
    go_simp
    refine HRC.out.mono ?_
    rintro e w5 ⟨h2,⟨r,q,h3,hqt,hrok,rfl,h1⟩ | ⟨h3,rfl⟩⟩
    rotate_left
    ·exact ⟨rfl,(HS.out.keep (World.Extends.refl _).drew).rd.trans h2.out,.inr ⟨HNO.out h3,rfl⟩⟩
    have HRS2:Hid (recsF t (n - (k+1)) q (D++[r])=RS):=HGO.out r q h3
    have HOK2:Hid (∀ x∈D++[r],x.ok):=(show ∀ _,_ from fun x hx=>by
     rcases List.mem_append.1 hx with h | h
     ·exact HOK.out x h
     ·rw [List.mem_singleton.1 h];exact hrok)
    clear h3 hrok HNO HGO HRS HOK
    have HS5:Hid (St g t w 38 zmsg q #[.int .i64 id,.bool ans,.bool cut,.int .i64 code,.string R,.int .i64 typ,v] w5):=(HS.out.keep (World.Extends.refl _).drew).call h1 h2
    have HO5:Hid (Rc.Own (w.heap.size+2) w5 v D):=h2.out.ownR (World.ownsRow.drew HO.out) (by omega)
    have hz5:w.heap.size+2≤w5.heap.size:=Nat.le_trans hsz h2.out.size
    have hv5:w5.cell? ⟨w.heap.size+1,6,none⟩=some v:=HS5.out.cell 6
    clear h1 h2
    refine HK.out _ _ ?_
    clear HK K
    refine wpAny_ready (rs:=[1,4]) (by kernel_rfl) (by simp) ?_
    refine AllReady.cons rfl (fun K hK=>?_) (AllReady.cons rfl (fun K hK=>?_) AllReady.nil)
    ·have HK:Hid _:=hK
     clear hK
     go_simp
     refine HK.out _ _ ?_
     clear HK K
     refine wpAny_ready (rs:=[4]) (by kernel_rfl) (by simp) ?_
     refine AllReady.cons rfl (fun K hK=>?_) AllReady.nil
     have HK:Hid _:=hK
     clear hK
     go_simp
     refine HK.out _ _ ?_
     clear HK K
     refine wpAny_ready (rs:=[5]) (by kernel_rfl) (by simp) ?_
     refine AllReady.cons rfl (fun K hK=>?_) AllReady.nil
     have HK:Hid _:=hK
     clear hK
     rw [if_pos (by rfl)]
     refine wp_append_own _ _ _ 36 rfl (w.heap.size+2) 59 i0 _ 7 80 Tryz.underlying36 hi0 hz0 hzs hzb rfl (by omega) v D.length (Rc.fl D) rfl (World.ownsRow.alloc HO5.out _) ⟨w5.heap.size,0,none⟩ 1 1 r.cs rfl rfl (World.news_of_block (cs:=#[.string r.name,.int .i64 r.typ,.int .i64 r.lasts,.int .i64 r.addr,.string r.text,.int .i64 r.port,.string r.target]) (t:=59) (fr:=(0,0)) (heap_alloc_new w5 _)) (Rc.cs_one r) (by unfold maxLen;omega) (by omega) (by simp;omega) ?_
     intro v' w6 r1 r2 r3
     obtain ⟨ao,l',c',hv'⟩:∃ ao l' c',v'=.slice ao l' c':=by
      rcases r1.2 with ⟨hv,_⟩ | ⟨gq,cq,_,hv,_⟩
      ·exact ⟨_,_,_,hv⟩
      ·exact ⟨_,_,_,hv⟩
     subst hv'
     have hext:w5.Extends (w5.alloc (.cells #[.string r.name,.int .i64 r.typ,.int .i64 r.lasts,.int .i64 r.addr,.string r.text,.int .i64 r.port,.string r.target] 59)):=(World.Extends.refl w5).alloc _
     have hMne:∀ q,q < w.heap.size+2→some q≠v.ownBlock:=fun q hq e=>by have:=(HO5.out.lt q e.symm).1;omega
     have HS6:Hid (St g t w 38 zmsg q #[.int .i64 id,.bool ans,.bool cut,.int .i64 code,.string R,.int .i64 typ,v] w6):=(show St _ _ _ _ _ _ _ _ from (HS5.out.keep hext).grown r2 (fun q hq=>hMne q hq))
     have HO6:Hid (Rc.Own (w.heap.size+2) w6 (.slice ao l' c') (D++[r])):=(show Rc.Own _ _ _ _ by exact Rc.own_snoc r1)
     have hz6:w.heap.size+2≤w6.heap.size:=by have:=r2.size;simp at this;omega
     have hv6:w6.cell? ⟨w.heap.size+1,6,none⟩=some v:=HS6.out.cell 6
     have hf6:=HS6.out.free 6
     clear r1 r2 r3 hext hMne HS5 HO5 hz5 hv5
     refine HK.out _ _ ?_
     clear HK K
     refine wpAny_ready (rs:=[6]) (by kernel_rfl) (by simp) ?_
     refine AllReady.cons rfl (fun K hK=>?_) AllReady.nil
     have HK:Hid _:=hK
     clear hK
     go_simp
     refine HK.out _ _ ?_
     clear HK K
     refine wpAny_ready (rs:=[7]) (by kernel_rfl) (by simp) ?_
     refine AllReady.cons rfl (fun K hK=>?_) AllReady.nil
     have HK:Hid _:=hK
     clear hK
     go_simp
     refine HK.out _ _ ?_
     clear HK K
     refine wpAny_done (by kernel_rfl) ?_ _
     have HS7:Hid (St g t w 38 zmsg q #[.int .i64 id,.bool ans,.bool cut,.int .i64 code,.string R,.int .i64 typ,.slice ao l' c'] (w6.setCell ⟨w.heap.size+1,6,none⟩ (.slice ao l' c'))):=HS6.out.store 6 (.slice ao l' c')
     have HO7:Hid (Rc.Own (w.heap.size+2) (w6.setCell ⟨w.heap.size+1,6,none⟩ (.slice ao l' c')) (.slice ao l' c') (D++[r])):=own_put HO6.out (by omega)
     have hz7:w.heap.size+2≤(w6.setCell ⟨w.heap.size+1,6,none⟩ (.slice ao l' c')).heap.size:=by simpa using hz6
     clear HS6 HO6 hz6 hv6 hf6
     go_wp2_with fail
     exact ⟨⟨k+1,.slice ao l' c',D++[r],q,by omega,by go_num,by rw [List.length_append,List.length_singleton,hDk],hqt,HRS2,HOK2,HS7,HO7,hz7⟩,by simp [intOf];omega⟩
    ·have HK:Hid _:=hK
     clear hK
     go_simp
     refine HK.out _ _ ?_
     clear HK K
     have hva:(w5.alloc (.cells #[.string r.name,.int .i64 r.typ,.int .i64 r.lasts,.int .i64 r.addr,.string r.text,.int .i64 r.port,.string r.target] 59)).cell? ⟨w.heap.size+1,6,none⟩=some v:=((World.Extends.refl w5).alloc _).cell_of hv5
     refine wpAny_ready (rs:=[1]) (by kernel_rfl) (by simp) ?_
     refine AllReady.cons rfl (fun K hK=>?_) AllReady.nil
     have HK:Hid _:=hK
     clear hK
     go_simp
     refine HK.out _ _ ?_
     clear HK K
     refine wpAny_ready (rs:=[5]) (by kernel_rfl) (by simp) ?_
     refine AllReady.cons rfl (fun K hK=>?_) AllReady.nil
     have HK:Hid _:=hK
     clear hK
     rw [if_pos (by rfl)]
     refine wp_append_own _ _ _ 36 rfl (w.heap.size+2) 59 i0 _ 7 80 Tryz.underlying36 hi0 hz0 hzs hzb rfl (by omega) v D.length (Rc.fl D) rfl (World.ownsRow.alloc HO5.out _) ⟨w5.heap.size,0,none⟩ 1 1 r.cs rfl rfl (World.news_of_block (cs:=#[.string r.name,.int .i64 r.typ,.int .i64 r.lasts,.int .i64 r.addr,.string r.text,.int .i64 r.port,.string r.target]) (t:=59) (fr:=(0,0)) (heap_alloc_new w5 _)) (Rc.cs_one r) (by unfold maxLen;omega) (by omega) (by simp;omega) ?_
     intro v' w6 r1 r2 r3
     obtain ⟨ao,l',c',hv'⟩:∃ ao l' c',v'=.slice ao l' c':=by
      rcases r1.2 with ⟨hv,_⟩ | ⟨gq,cq,_,hv,_⟩
      ·exact ⟨_,_,_,hv⟩
      ·exact ⟨_,_,_,hv⟩
     subst hv'
     have hext:w5.Extends (w5.alloc (.cells #[.string r.name,.int .i64 r.typ,.int .i64 r.lasts,.int .i64 r.addr,.string r.text,.int .i64 r.port,.string r.target] 59)):=(World.Extends.refl w5).alloc _
     have hMne:∀ q,q < w.heap.size+2→some q≠v.ownBlock:=fun q hq e=>by have:=(HO5.out.lt q e.symm).1;omega
     have HS6:Hid (St g t w 38 zmsg q #[.int .i64 id,.bool ans,.bool cut,.int .i64 code,.string R,.int .i64 typ,v] w6):=(show St _ _ _ _ _ _ _ _ from (HS5.out.keep hext).grown r2 (fun q hq=>hMne q hq))
     have HO6:Hid (Rc.Own (w.heap.size+2) w6 (.slice ao l' c') (D++[r])):=(show Rc.Own _ _ _ _ by exact Rc.own_snoc r1)
     have hz6:w.heap.size+2≤w6.heap.size:=by have:=r2.size;simp at this;omega
     have hv6:w6.cell? ⟨w.heap.size+1,6,none⟩=some v:=HS6.out.cell 6
     have hf6:=HS6.out.free 6
     clear r1 r2 r3 hext hMne HS5 HO5 hz5 hv5
     refine HK.out _ _ ?_
     clear HK K
     refine wpAny_ready (rs:=[6]) (by kernel_rfl) (by simp) ?_
     refine AllReady.cons rfl (fun K hK=>?_) AllReady.nil
     have HK:Hid _:=hK
     clear hK
     go_simp
     refine HK.out _ _ ?_
     clear HK K
     refine wpAny_ready (rs:=[7]) (by kernel_rfl) (by simp) ?_
     refine AllReady.cons rfl (fun K hK=>?_) AllReady.nil
     have HK:Hid _:=hK
     clear hK
     go_simp
     refine HK.out _ _ ?_
     clear HK K
     refine wpAny_done (by kernel_rfl) ?_ _
     have HS7:Hid (St g t w 38 zmsg q #[.int .i64 id,.bool ans,.bool cut,.int .i64 code,.string R,.int .i64 typ,.slice ao l' c'] (w6.setCell ⟨w.heap.size+1,6,none⟩ (.slice ao l' c'))):=HS6.out.store 6 (.slice ao l' c')
     have HO7:Hid (Rc.Own (w.heap.size+2) (w6.setCell ⟨w.heap.size+1,6,none⟩ (.slice ao l' c')) (.slice ao l' c') (D++[r])):=own_put HO6.out (by omega)
     have hz7:w.heap.size+2≤(w6.setCell ⟨w.heap.size+1,6,none⟩ (.slice ao l' c')).heap.size:=by simpa using hz6
     clear HS6 HO6 hz6 hv6 hf6
     go_wp2_with fail
     exact ⟨⟨k+1,.slice ao l' c',D++[r],q,by omega,by go_num,by rw [List.length_append,List.length_singleton,hDk],hqt,HRS2,HOK2,HS7,HO7,hz7⟩,by simp [intOf];omega⟩
  ·have hkn:k=n:=by omega
   have hd:decide ((k:Int) < (n:Int))=false:=by simp;omega
   have HRE:Hid (RS=some (D,b)):=(show _=_ by rw [← HRS.out,show n - k=0 by omega];rfl)
   have HFC:Hid (F=if b=t.size then some ⟨id,code,typ,ans,cut,R,D⟩ else none):=(show _=_ by rw [HFB.out,HRE.out];rfl)
   have ct:wr.cell? ⟨g,0,none⟩=some (.string t):=HS.out.isR.c0
   have ca:wr.cell? ⟨g,1,none⟩=some (.int .i64 b):=HS.out.isR.c1
   have HOF:Hid (Rc.Own (w.heap.size+2) wr v D):=HO
   clear HRS HRE HFB HRS0
   obtain ⟨av,lv,cv,hvv⟩:∃ a l c,v=.slice a l c:=by
    rcases HO.out.2 with ⟨hv,_⟩ | ⟨gq,cq,_,hv,_⟩
    ·exact ⟨_,_,_,hv⟩
    ·exact ⟨_,_,_,hv⟩
   subst hvv
   have m0:wr.cell? ⟨w.heap.size+1,0,none⟩=some (.int .i64 id):=HS.out.cell 0
   have q0:wr.cell? ⟨w.heap.size,0,none⟩=some (.int .i64 0):=HS.out.qcell 0
   have y0:=HS.out.qfree 0
   have m1:wr.cell? ⟨w.heap.size+1,1,none⟩=some (.bool ans):=HS.out.cell 1
   have q1:wr.cell? ⟨w.heap.size,1,none⟩=some (.bool false):=HS.out.qcell 1
   have y1:=HS.out.qfree 1
   have m2:wr.cell? ⟨w.heap.size+1,2,none⟩=some (.bool cut):=HS.out.cell 2
   have q2:wr.cell? ⟨w.heap.size,2,none⟩=some (.bool false):=HS.out.qcell 2
   have y2:=HS.out.qfree 2
   have m3:wr.cell? ⟨w.heap.size+1,3,none⟩=some (.int .i64 code):=HS.out.cell 3
   have q3:wr.cell? ⟨w.heap.size,3,none⟩=some (.int .i64 0):=HS.out.qcell 3
   have y3:=HS.out.qfree 3
   have m4:wr.cell? ⟨w.heap.size+1,4,none⟩=some (.string R):=HS.out.cell 4
   have q4:wr.cell? ⟨w.heap.size,4,none⟩=some (.string ⟨#[]⟩):=HS.out.qcell 4
   have y4:=HS.out.qfree 4
   have m5:wr.cell? ⟨w.heap.size+1,5,none⟩=some (.int .i64 typ):=HS.out.cell 5
   have q5:wr.cell? ⟨w.heap.size,5,none⟩=some (.int .i64 0):=HS.out.qcell 5
   have y5:=HS.out.qfree 5
   have m6:wr.cell? ⟨w.heap.size+1,6,none⟩=some (.slice av lv cv):=HS.out.cell 6
   have q6:wr.cell? ⟨w.heap.size,6,none⟩=some (.slice none 0 0):=HS.out.qcell 6
   have y6:=HS.out.qfree 6
   clear hkn
   by_cases hbe:b=t.size
   ·have HFD:Hid (F=some ⟨id,code,typ,ans,cut,R,D⟩):=HFC.out.trans (if_pos hbe)
    subst hbe
    clear HFC
    go_wp2_with fail
    go_region_held3 (fun w'=>w'.cell? ⟨g,0,none⟩=some (.string t)∧w'.cell? ⟨g,1,none⟩=some (.int .i64 t.size)) (go_keep) (first | (go_at_call 52;refine (need_ok _ _).mono ?_;rintro e w5 ⟨rfl,rfl⟩) | fail)
    go_wp2_with fail
    refine bodyPost_ret (v:=.agg #[.int .i64 id,.bool ans,.bool cut,.int .i64 code,.string R,.int .i64 typ,.slice av lv cv]) ?_ rfl ⟨?_,.inl ⟨_,.slice av lv cv,HFD.out,⟨h4,HOK.out⟩,rfl,?_⟩⟩
    ·simp [results,Tryz.results25,go_sem,q0,q1,q2,q3,q4,q5,q6]
    ·exact (Rd.trans (((((((HS.out.rd.put 0 _ (Nat.le_refl _)).put 1 _ (Nat.le_refl _)).put 2 _ (Nat.le_refl _)).put 3 _ (Nat.le_refl _)).put 4 _ (Nat.le_refl _)).put 5 _ (Nat.le_refl _)).put 6 _ (Nat.le_refl _)) (Rd.ext (World.Extends.refl _).drew):Rd g w _)
    ·exact World.ownsRow.drew (own_put (i:=6) (own_put (i:=5) (own_put (i:=4) (own_put (i:=3) (own_put (i:=2) (own_put (i:=1) (own_put (i:=0) HOF.out (by omega)) (by omega)) (by omega)) (by omega)) (by omega)) (by omega)) (by omega))
   ·have HFD:Hid (F=none):=HFC.out.trans (if_neg hbe)
    have heb:((b:Int) == (t.size:Int))=false:=beq_eq_false_iff_ne.2 (by omega)
    clear HFC
    go_wp2_with fail
    refine wp_region_held_drew (S:=fun W=>W.cell? ⟨g,0,none⟩=some (.string t)∧W.cell? ⟨g,1,none⟩=some (.int .i64 b)) (by kernel_rfl) ⟨ct,ca⟩ (fun hHeld=>?_)
    refine wpAnyH_take (i:=0) (v:=?v0) rfl (by kernel_rfl) (by kernel_rfl) (by kernel_rfl) (fun _ _ _ h=>h) (Or.inl ⟨by rfl,?hy0⟩) (by assumption) ?_
    case hy0=>(intro W hSw;obtain ⟨d0,d1⟩:=hSw;go_simp;try with_reducible rfl)
    refine wpAnyH_take (i:=1) (v:=?v1) rfl (by kernel_rfl) (by kernel_rfl) (by kernel_rfl) (fun _ _ _ h=>h) (Or.inl ⟨by rfl,?hy1⟩) (by assumption) ?_
    case hy1=>(intro W hSw;obtain ⟨d0,d1⟩:=hSw;go_simp;try with_reducible rfl)
    refine wpAnyH_take (i:=2) (v:=?v2) rfl (by kernel_rfl) (by kernel_rfl) (by kernel_rfl) (fun _ _ _ h=>h) (Or.inl ⟨by rfl,?hy2⟩) (by assumption) ?_
    case hy2=>(intro W hSw;obtain ⟨d0,d1⟩:=hSw;go_simp;try with_reducible rfl)
    refine wpAnyH_take (i:=3) (v:=?v3) rfl (by kernel_rfl) (by kernel_rfl) (by kernel_rfl) (fun _ _ _ h=>h) (Or.inl ⟨by rfl,?hy3⟩) (by assumption) ?_
    case hy3=>(intro W hSw;obtain ⟨d0,d1⟩:=hSw;go_simp;try with_reducible rfl)
    refine wpAnyH_take (i:=4) (v:=?v4) rfl (by kernel_rfl) (by kernel_rfl) (by kernel_rfl) (fun _ _ _ h=>h) (Or.inl ⟨by rfl,?hy4⟩) (by assumption) ?_
    case hy4=>(intro W hSw;obtain ⟨d0,d1⟩:=hSw;go_simp;try with_reducible rfl)
    refine wpAnyH_take (i:=5) (v:=?v5) rfl (by kernel_rfl) (by kernel_rfl) (by kernel_rfl) (fun _ _ _ h=>h) (Or.inl ⟨by rfl,?hy5⟩) (by assumption) ?_
    case hy5=>(intro W hSw;obtain ⟨d0,d1⟩:=hSw;go_simp;try with_reducible rfl)
    refine wpAnyH_take (i:=6) (v:=?v6) rfl (by kernel_rfl) (by kernel_rfl) (by kernel_rfl) (fun _ _ _ h=>h) (Or.inl ⟨by rfl,?hy6⟩) (by assumption) ?_
    case hy6=>(intro W hSw;obtain ⟨d0,d1⟩:=hSw;go_simp;try with_reducible rfl)
    refine wpAnyH_take (i:=7) (v:=?v7) rfl (by kernel_rfl) (by kernel_rfl) (by kernel_rfl) (fun _ _ _ h=>h) (Or.inl ⟨by rfl,?hy7⟩) (by assumption) ?_
    case hy7=>(intro W hSw;obtain ⟨d0,d1⟩:=hSw;go_simp;try with_reducible rfl)
    refine wpAnyH_take (i:=8) (v:=?v8) rfl (by kernel_rfl) (by kernel_rfl) (by kernel_rfl) (fun _ _ _ h=>h) (Or.inl ⟨by rfl,?hy8⟩) (by assumption) ?_
    case hy8=>(intro W hSw;obtain ⟨d0,d1⟩:=hSw;go_simp;try with_reducible rfl)
    refine wpAnyH_take (i:=9) (v:=?v9) rfl (by kernel_rfl) (by kernel_rfl) (by kernel_rfl) (fun _ _ _ h=>h) (Or.inl ⟨by rfl,?hy9⟩) (by assumption) ?_
    case hy9=>(intro W hSw;obtain ⟨d0,d1⟩:=hSw;go_simp;try with_reducible rfl)
    refine wpAnyH_ready (rs:=[10]) (by kernel_rfl) (by simp) ?_
    refine AllReadyH.cons rfl (fun K hK=>?_) AllReadyH.nil
    go_simp
    refine (need_no _ _).mono ?_
    rintro e w5 ⟨rfl,rfl⟩
    exact ⟨rfl,HS.out.rd.trans (rd_drewN g wr 1),.inr ⟨HFD.out,rfl⟩⟩
end Go.Proofs.YtignmeaeibaejaaGreatDoor
