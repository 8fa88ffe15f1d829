import Derived.Test.YtignmeaeibaejaaGreatDoorV30
import Derived.Deep.AppendLies
import Derived.Test.YtignmeaeibaejaaGreatDoorV28
namespace Go.Proofs.YtignmeaeibaejaaGreatDoor
open Go.RowKit
theorem Tryz.infoRec:(Tryz.prog.info? 59).map (fun i=>(i.zero,i.size,i.bytes))=some (some (.agg #[.string ⟨#[]⟩,.int .i64 0,.int .i64 0,.int .i64 0,.string ⟨#[]⟩,.int .i64 0,.string ⟨#[]⟩]),7,80):=by kernel_rfl
theorem Rd.ownR {g base:Nat} {w w':World} {v:Value} {l:List Rc.Rec} (h:Rd g w w') (ho:Rc.Own base w v l) (hg:g < base):Rc.Own base w' v l:=by
 rcases ho.2 with ⟨rfl,h0⟩ | ⟨k,c,cur,rfl,hbg,hk,hnc,hcm,hcs,htake⟩
 ·exact ⟨ho.1,.inl ⟨rfl,h0⟩⟩
 ·have hlt:k < w.heap.size:=(Array.getElem?_eq_some_iff.1 hk).1
  exact ⟨ho.1,.inr ⟨k,c,cur,rfl,hbg,(h.block k hlt (by omega)).trans hk,hnc,hcm,hcs,htake⟩⟩
theorem flg_bits (ans cut:Bool):(bits .and .i64 (flg ans cut) 128 != 0)=ans∧(bits .and .i64 (flg ans cut) 2 != 0)=cut∧0≤flg ans cut∧flg ans cut < 256 ^ 1:=by
 cases ans<;>cases cut<;>decide
theorem St.grown {g a:Nat} {t:ByteArray} {w W W':World} {T:TypeId} {zs cs:Array Value} {row:Option Nat} (h:St g t w T zs a cs W) (hg:W.grownBy W' row) (hne:∀ q,q < w.heap.size+2→some q≠row):St g t w T zs a cs W':=by
 have hl:=h.lt
 have hb1:w.heap.size+1 < W.heap.size:=(Array.getElem?_eq_some_iff.1 h.bx).1
 have hblk:∀ q,q < w.heap.size+2→W'.heap[q]?=W.heap[q]?:=fun q hq=>hg.block q (by omega) (hne q hq)
 refine ⟨⟨?_,?_,?_,?_⟩,⟨hg.os.trans h.rd.os,hg.tape.trans h.rd.tape,hg.output.trans h.rd.output,Nat.le_trans h.rd.size hg.size,fun q hq hqg=>(hblk q (by omega)).trans (h.rd.block q hq hqg)⟩,(hblk _ (by omega)).trans h.qx,(hblk _ (by omega)).trans h.bx,hl⟩
 ·exact (World.cell?_of_block (a:=⟨g,0,none⟩) (hblk g (by omega))).trans h.isR.c0
 ·exact (World.cell?_of_block (a:=⟨g,1,none⟩) (hblk g (by omega))).trans h.isR.c1
 ·exact (World.frozen?_of_block (a:=⟨g,1,none⟩) (hblk g (by omega))).trans h.isR.hz
 ·exact Nat.lt_of_lt_of_le h.isR.hg hg.size
theorem own_put {base b i:Nat} {u v:Value} {l:List Rc.Rec} {W:World} (h:Rc.Own base W v l) (hb:b < base):Rc.Own base (W.setCell ⟨b,i,none⟩ u) v l:=by
 rcases h.2 with ⟨rfl,h0⟩ | ⟨k,c,cur,rfl,hbg,hk,r⟩
 ·exact ⟨h.1,.inl ⟨rfl,h0⟩⟩
 ·exact ⟨h.1,.inr ⟨k,c,cur,rfl,hbg,(Below.heap_setCell W _ u k (by simp;omega)).trans hk,r⟩⟩
set_option maxHeartbeats 3200000 in
set_option maxRecDepth 100000 in
theorem rmsg_any (g:Nat) (id code typ:Int) (ans cut:Bool) (R:ByteArray) (rs:List Rc.Rec) (t:ByteArray) (w:World) (h:IsR g t 0 w) (hs:t.size≤1000) (hc:chkMsg id code typ R rs=0) (ht:t.data.toList=wallL id code typ ans cut R rs) (hids:(0≤id∧id < 256 ^ 2)∧(0≤code∧code < 256 ^ 1)∧(0≤typ∧typ < 256 ^ 2)) :
 Calls Tryz.prog 25 #[.pointer (some ⟨g,0,none⟩)] w fun e w'=>∃ v,e=.returned (.agg #[.int .i64 id,.bool ans,.bool cut,.int .i64 code,.string R,.int .i64 typ,v])∧Hid (Rd g w w')∧Hid (Rc.Own (w.heap.size+2) w' v rs):=by
 obtain ⟨h20,hnm,hrs⟩:=chkMsg_facts hc
 obtain ⟨⟨q1,q2⟩,⟨q3,q4⟩,q5,q6⟩:=hids
 obtain ⟨hfa,hfc,hf0,hf1⟩:=flg_bits ans cut
 have hat:AtW t 0 (wallL id code typ ans cut R rs):=⟨[],[],by simpa using ht,rfl⟩
 have hszt:t.size=(wallL id code typ ans cut R rs).length:=by rw [← ht];simp
 unfold wallL wheadL at hat hszt
 simp only [List.append_assoc] at hat
 have a0:=hat.left
 have b0:=hat.right
 rw [nbl_len] at b0
 have a2:=b0.left
 have b2:=b0.right
 rw [nbl_len] at b2
 have a3:=b2.left
 have b3:=b2.right
 rw [nbl_len] at b3
 have a4:=b3.left
 have b4:=b3.right
 rw [nbl_len] at b4
 have a6:=b4.left
 have b6:=b4.right
 rw [nbl_len] at b6
 have a8:=b6.left
 have b8:=b6.right
 rw [nbl_len] at b8
 have a10:=b8.left
 have b10:=b8.right
 rw [nbl_len] at b10
 have a12:=b10.left
 have b12:=b10.right
 have ap:=b12.left
 have bp:=b12.right
 rw [nbl_len] at bp
 have aq:=bp.left
 have bq:=bp.right
 rw [nbl_len] at bq
 have e0:=rnum_is q1 q2 a0
 have e2:=rnum_is hf0 hf1 a2
 have e3:=rnum_is q3 q4 a3
 have e4:=rnum_is (n:=1) (by omega) (by omega) a4
 have e6:=rnum_is (n:=rs.length) (by omega) (by omega) a6
 have e8:=rnum_is (n:=0) (by omega) (by omega) a8
 have e10:=rnum_is (n:=0) (by omega) (by omega) a10
 have ep:=rnum_is q5 q6 ap
 have eq:=rnum_is (n:=1) (by omega) (by omega) aq
 simp only [List.length_append,nbl_len,Nat.zero_add] at *
 obtain ⟨p,hp⟩:∃ p,p=12+(wnameL R).length:=⟨_,rfl⟩
 have hpp:2+1+1+2+2+2+2+(wnameL R).length=p:=by omega
 rw [hpp] at ap aq ep eq bp bq
 have h12:12≤p:=by omega
 have hp1:p+4≤t.size:=by omega
 have hpos:∀ k,k < rs.length→AtW t (p+4+((rs.take k).flatMap wrecL).length) (wrecL (rs.getD k Rc.dm)):=fun k hk=>by
  have e:rs.flatMap wrecL=(rs.take k).flatMap wrecL++(wrecL (rs.getD k Rc.dm)++(rs.drop (k+1)).flatMap wrecL):=by
   have h1:rs=rs.take k++(rs[k] :: rs.drop (k+1)):=by rw [← List.drop_eq_getElem_cons hk,List.take_append_drop]
   have h2:rs.getD k Rc.dm=rs[k]:=by simp [List.getD,List.getElem?_eq_getElem hk]
   rw [h2]
   calc rs.flatMap wrecL=(rs.take k++(rs[k] :: rs.drop (k+1))).flatMap wrecL:=by rw [← h1]
    _=_:=by rw [List.flatMap_append,List.flatMap_cons]
  rw [e] at bq
  exact bq.right.left
 have HPS:Hid (∀ k,k < rs.length→p+4+((rs.take (k+1)).flatMap wrecL).length=p+4+((rs.take k).flatMap wrecL).length+(wrecL (rs.getD k Rc.dm)).length):=fun k hk=>by
  rw [List.take_succ_eq_append_getElem hk,List.flatMap_append,List.length_append]
  simp [List.getD,hk]
  omega
 have HREC:Hid (∀ k,k < rs.length→∀ W,IsR g t (p+4+((rs.take k).flatMap wrecL).length) W→Calls Tryz.prog 63 #[.pointer (some ⟨g,0,none⟩)] W fun e w'=>e=.returned (recV (rs.getD k Rc.dm))∧Hid (IsR g t (p+4+((rs.take (k+1)).flatMap wrecL).length) w')∧Hid (Rd g W w')):=fun k hk W hW=>by
  rw [HPS.out k hk]
  exact rrec_any g _ _ t W hW hs (hrs _ (by simp [List.getD,List.getElem?_eq_getElem hk])) (hpos k hk)
 have HTK:Hid (∀ k,k < rs.length→rs.take (k+1)=rs.take k++[rs.getD k Rc.dm]):=fun k hk=>by
  rw [List.take_succ_eq_append_getElem hk]
  simp [List.getD,hk]
 have HEND:Hid (p+4+((rs.take rs.length).flatMap wrecL).length=t.size):=(show _=_ by rw [List.take_length];omega)
 have HTL:Hid (∀ k,k≤rs.length→(rs.take k).length=k):=fun k hk=>by rw [List.length_take];omega
 have HALL:Hid (rs.take rs.length=rs):=List.take_length
 have HN:Hid (∀ W,IsR g t 12 W→Calls Tryz.prog 62 #[.pointer (some ⟨g,0,none⟩)] W fun e w'=>e=.returned (.string R)∧Hid (IsR g t p w')∧Hid (Rd g W w')):=fun W hW=>by
  have h:=rname_any g 12 R t W hW hs hnm a12
  rw [← hp] at h
  exact h
 have HI:Hid (IsR g t 0 w):=h
 have hg:=h.hg
 have E0:Hid ((rnum t 0 2:Int)=id):=e0
 have E2:Hid ((rnum t 2 1:Int)=flg ans cut):=e2
 have E3:Hid ((rnum t 3 1:Int)=code):=e3
 have e4:((rnum t 4 2:Nat):Int)=1:=e4
 have e8:((rnum t 8 2:Nat):Int)=0:=e8
 have e10:((rnum t 10 2:Nat):Int)=0:=e10
 have E4:Hid (rnum t 4 2=1):=(show _=_ by omega)
 have E6:Hid ((rnum t 6 2:Int)=(rs.length:Int)):=e6
 have E8:Hid (rnum t 8 2=0):=(show _=_ by omega)
 have E10:Hid (rnum t 10 2=0):=(show _=_ by omega)
 have EP:Hid ((rnum t p 2:Int)=typ):=ep
 have EQ:Hid (rnum t (p+2) 2=1):=(show _=_ by omega)
 have HFA:Hid ((bits .and .i64 (flg ans cut) 128 != 0)=ans):=hfa
 have HFC:Hid ((bits .and .i64 (flg ans cut) 2 != 0)=cut):=hfc
 clear h ht hc hszt hat a0 b0 a2 b2 a3 b3 a4 b4 a6 b6 a8 b8 a10 b10 a12 b12 ap bp aq bq e0 e2 e3 e4 e6 e8 e10 ep eq hpp hp hpos hrs hnm hfa hfc hf0 hf1 q1 q2 q3 q4 q5 q6
 obtain ⟨F,hF⟩:∃ F,F=flg ans cut:=⟨_,rfl⟩
 rw [← hF] at E2 HFA HFC
 have HFL:Hid (flg ans cut=F):=hF.symm
 clear hF
 generalize hnn:rs.length=n at *
 have HNN:Hid (rs.length=n):=hnn
 clear hnn
 go_enter Tryz.func25,Tryz.ntmps25
 go_wp2_with fail
 obtain ⟨w0,hw0⟩:∃ w0,w0=(w.alloc (.cells zmsg 38)).alloc (.cells zmsg 38):=⟨_,rfl⟩
 rw [← hw0]
 have S0:Hid (St g t w 38 zmsg 0 zmsg w0):=(show St _ _ _ _ _ _ _ _ by
  have hx:w.Extends w0:=by rw [hw0];exact ((World.Extends.refl w).alloc _).alloc _
  refine ⟨HI.out.ext hx,Rd.ext hx,?_,?_,hg⟩
  ·rw [hw0]
   exact (Lib.alloc_old _ _ _ (by simp)).trans (heap_alloc_new w _)
  ·rw [hw0]
   have:=heap_alloc_new (w.alloc (.cells zmsg 38)) (.cells zmsg 38)
   simpa using this)
 clear hw0
 refine (number_r g 0 2 t w0 S0.out.isR hs (by omega) (by omega)).mono ?_
 rintro e w1 ⟨rfl,h1,h2⟩
 rw [E0.out]
 have S1:Hid (St g t w 38 zmsg 2 zmsg w1):=S0.out.call h1 h2
 have z1:=S1.out.free 0
 have c1:w1.cell? ⟨w.heap.size+1,0,none⟩=some (.int .i64 0):=S1.out.cell 0
 clear h1 h2 S0
 go_wp2_with fail
 have S2:Hid (St g t w 38 zmsg 2 #[.int .i64 id,.bool false,.bool false,.int .i64 0,.string ⟨#[]⟩,.int .i64 0,.slice none 0 0] (w1.setCell ⟨w.heap.size+1,0,none⟩ (.int .i64 id))):=S1.out.store 0 (.int .i64 id)
 refine (number_r g 2 1 t _ S2.out.isR hs (by omega) (by omega)).mono ?_
 rintro e w2 ⟨rfl,h1,h2⟩
 rw [E2.out]
 have S3:Hid (St g t w 38 zmsg 3 #[.int .i64 id,.bool false,.bool false,.int .i64 0,.string ⟨#[]⟩,.int .i64 0,.slice none 0 0] w2):=S2.out.call h1 h2
 have z1:=S3.out.free 1
 have z2:=S3.out.free 2
 have c0:w2.cell? ⟨w.heap.size+1,0,none⟩=some (.int .i64 id):=S3.out.cell 0
 have c1:w2.cell? ⟨w.heap.size+1,1,none⟩=some (.bool false):=S3.out.cell 1
 have c2:w2.cell? ⟨w.heap.size+1,2,none⟩=some (.bool false):=S3.out.cell 2
 have c3:w2.cell? ⟨w.heap.size+1,3,none⟩=some (.int .i64 0):=S3.out.cell 3
 have c4:w2.cell? ⟨w.heap.size+1,4,none⟩=some (.string ⟨#[]⟩):=S3.out.cell 4
 have c5:w2.cell? ⟨w.heap.size+1,5,none⟩=some (.int .i64 0):=S3.out.cell 5
 have c6:w2.cell? ⟨w.heap.size+1,6,none⟩=some (.slice none 0 0):=S3.out.cell 6
 have hb1:=HFA.out
 have hb2:=HFC.out
 clear h1 h2 S1 S2
 go_wp2_with fail
 have S4:Hid (St g t w 38 zmsg 3 #[.int .i64 id,.bool ans,.bool cut,.int .i64 0,.string ⟨#[]⟩,.int .i64 0,.slice none 0 0] ((w2.setCell ⟨w.heap.size+1,1,none⟩ (.bool ans)).setCell ⟨w.heap.size+1,2,none⟩ (.bool cut))):=(S3.out.store 1 (.bool ans)).store 2 (.bool cut)
 refine (flags_any id 0 0 ans cut ⟨#[]⟩ _).mono ?_
 rintro e w3 ⟨rfl,o,hw3⟩
 rw [HFL.out]
 have S5:Hid (St g t w 38 zmsg 3 #[.int .i64 id,.bool ans,.bool cut,.int .i64 0,.string ⟨#[]⟩,.int .i64 0,.slice none 0 0] w3):=(show St _ _ _ _ _ _ _ _ by rw [hw3];exact S4.out.keep ((World.Extends.refl _).alloc _))
 clear hw3 z1 z2 c0 c1 c2 c3 c4 c5 c6 S3 S4
 go_wp2_with fail
 refine (need_ok _ _).mono ?_
 rintro e w4 ⟨rfl,hw4⟩
 subst hw4
 go_wp2_with fail
 refine (number_r g 3 1 t _ S5.out.isR hs (by omega) (by omega)).mono ?_
 rintro e w5 ⟨rfl,h1,h2⟩
 rw [E3.out]
 have S6:Hid (St g t w 38 zmsg 4 #[.int .i64 id,.bool ans,.bool cut,.int .i64 0,.string ⟨#[]⟩,.int .i64 0,.slice none 0 0] w5):=S5.out.call h1 h2
 have z3:=S6.out.free 3
 have c3:w5.cell? ⟨w.heap.size+1,3,none⟩=some (.int .i64 0):=S6.out.cell 3
 clear h1 h2 S5
 go_wp2_with fail
 have S7:Hid (St g t w 38 zmsg 4 #[.int .i64 id,.bool ans,.bool cut,.int .i64 code,.string ⟨#[]⟩,.int .i64 0,.slice none 0 0] (w5.setCell ⟨w.heap.size+1,3,none⟩ (.int .i64 code))):=S6.out.store 3 (.int .i64 code)
 refine (expect_r g 4 2 1 t _ S7.out.isR hs (by omega) (by omega) E4.out).mono ?_
 rintro e w6 ⟨rfl,h1,h2⟩
 have S8:Hid (St g t w 38 zmsg 6 #[.int .i64 id,.bool ans,.bool cut,.int .i64 code,.string ⟨#[]⟩,.int .i64 0,.slice none 0 0] w6):=S7.out.call h1 h2
 clear h1 h2 S6 S7 z3 c3
 go_wp2_with fail
 refine (number_r g 6 2 t _ S8.out.isR hs (by omega) (by omega)).mono ?_
 rintro e w7 ⟨rfl,h1,h2⟩
 rw [E6.out]
 have S9:Hid (St g t w 38 zmsg 8 #[.int .i64 id,.bool ans,.bool cut,.int .i64 code,.string ⟨#[]⟩,.int .i64 0,.slice none 0 0] w7):=S8.out.call h1 h2
 clear h1 h2 S8
 go_wp2_with fail
 refine (expect_r g 8 2 0 t _ S9.out.isR hs (by omega) (by omega) E8.out).mono ?_
 rintro e w8 ⟨rfl,h1,h2⟩
 have SA:Hid (St g t w 38 zmsg 10 #[.int .i64 id,.bool ans,.bool cut,.int .i64 code,.string ⟨#[]⟩,.int .i64 0,.slice none 0 0] w8):=S9.out.call h1 h2
 clear h1 h2 S9
 go_wp2_with fail
 refine (expect_r g 10 2 0 t _ SA.out.isR hs (by omega) (by omega) E10.out).mono ?_
 rintro e w9 ⟨rfl,h1,h2⟩
 have SB:Hid (St g t w 38 zmsg 12 #[.int .i64 id,.bool ans,.bool cut,.int .i64 code,.string ⟨#[]⟩,.int .i64 0,.slice none 0 0] w9):=SA.out.call h1 h2
 clear h1 h2 SA
 go_wp2_with fail
 refine (HN.out _ SB.out.isR).mono ?_
 rintro e wa ⟨rfl,h1,h2⟩
 have SC:Hid (St g t w 38 zmsg p #[.int .i64 id,.bool ans,.bool cut,.int .i64 code,.string ⟨#[]⟩,.int .i64 0,.slice none 0 0] wa):=SB.out.call h1 h2
 have z4:=SC.out.free 4
 have c4:wa.cell? ⟨w.heap.size+1,4,none⟩=some (.string ⟨#[]⟩):=SC.out.cell 4
 clear h1 h2 SB
 go_wp2_with fail
 have SD:Hid (St g t w 38 zmsg p #[.int .i64 id,.bool ans,.bool cut,.int .i64 code,.string R,.int .i64 0,.slice none 0 0] (wa.setCell ⟨w.heap.size+1,4,none⟩ (.string R))):=SC.out.store 4 (.string R)
 refine (number_r g p 2 t _ SD.out.isR hs (by omega) (by omega)).mono ?_
 rintro e wb ⟨rfl,h1,h2⟩
 rw [EP.out]
 have SE:Hid (St g t w 38 zmsg (p+2) #[.int .i64 id,.bool ans,.bool cut,.int .i64 code,.string R,.int .i64 0,.slice none 0 0] wb):=SD.out.call h1 h2
 have z5:=SE.out.free 5
 have c5:wb.cell? ⟨w.heap.size+1,5,none⟩=some (.int .i64 0):=SE.out.cell 5
 clear h1 h2 SC SD z4 c4
 go_wp2_with fail
 have SF:Hid (St g t w 38 zmsg (p+2) #[.int .i64 id,.bool ans,.bool cut,.int .i64 code,.string R,.int .i64 typ,.slice none 0 0] (wb.setCell ⟨w.heap.size+1,5,none⟩ (.int .i64 typ))):=SE.out.store 5 (.int .i64 typ)
 refine (expect_r g (p+2) 2 1 t _ SF.out.isR hs (by omega) (by omega) EQ.out).mono ?_
 rintro e wc ⟨rfl,h1,h2⟩
 have SG:Hid (St g t w 38 zmsg (p+4) #[.int .i64 id,.bool ans,.bool cut,.int .i64 code,.string R,.int .i64 typ,.slice none 0 0] wc):=SF.out.call h1 h2
 clear h1 h2 SE SF z5 c5
 go_wp2_with fail
 have SG0:Hid (St g t w 38 zmsg (p+4+((rs.take 0).flatMap wrecL).length) #[.int .i64 id,.bool ans,.bool cut,.int .i64 code,.string R,.int .i64 typ,(.slice none 0 0)] wc):=(show St _ _ _ _ _ _ _ _ by simpa using SG.out)
 have hzw:w.heap.size+2≤wc.heap.size:=(Array.getElem?_eq_some_iff.1 SG.out.bx).1
 obtain ⟨i0,hi0,hz0,hzs,hzb⟩:=info_parts Tryz.infoRec
 clear SG
 go_loopw [46] (fun i wr=>∃ (k:Nat) (v:Value),k≤n∧i=.int .i64 k∧Hid (St g t w 38 zmsg (p+4+((rs.take k).flatMap wrecL).length) #[.int .i64 id,.bool ans,.bool cut,.int .i64 code,.string R,.int .i64 typ,v] wr)∧Hid (Rc.Own (w.heap.size+2) wr v (rs.take k))∧w.heap.size+2≤wr.heap.size) (fun i _=>n - (intOf i).toNat)
 case atStart=>exact ⟨0,.slice none 0 0,Nat.zero_le _,rfl,SG0,World.ownsRow_nil _ _ _ _,hzw⟩
 case round=>
  obtain ⟨k,v,hk,rfl,HS,HO,hsz⟩:=hrel
  by_cases hlt:k < n
  ·have hd:decide ((k:Int) < (n:Int))=true:=by simp;omega
   have HRK:=HREC.out k hlt wr.drew (HS.out.isR.ext (World.Extends.refl _).drew)
   have HRC:Hid (Calls Tryz.prog 63 #[.pointer (some ⟨g,0,none⟩)] wr.drew fun e w'=>e=.returned (recV (rs.getD k Rc.dm))∧Hid (IsR g t (p+4+((rs.take (k+1)).flatMap wrecL).length) w')∧Hid (Rd g wr.drew w')):=HRK
   have HT1:=HTK.out k hlt
   have HT2:Hid (rs.take (k+1)=rs.take k++[rs.getD k Rc.dm]):=HT1
   have HLk:=HTL.out k hk
   clear HRK HT1
   generalize rs.getD k Rc.dm=r at *
   have hvw:wr.cell? ⟨w.heap.size+1,6,none⟩=some v:=HS.out.cell 6
   go_wp2_with fail
   refine wp_region_any (by kernel_rfl) ?_
   refine wpAny_take (i:=0) (v:=.pointer (some ⟨w.heap.size+1,6,none⟩)) rfl (by kernel_rfl) (by kernel_rfl) (by kernel_rfl) (fun _ _ _ h=>h) (Or.inl ⟨by rfl,?_⟩) ?_
   ·intro W
    go_simp
   refine wpAny_take (i:=2) (v:=.pointer (some ⟨g,0,none⟩)) rfl (by kernel_rfl) (by kernel_rfl) (by kernel_rfl) (fun _ _ _ h=>h) (Or.inl ⟨by rfl,?_⟩) ?_
   ·intro W
    go_simp
   refine wpAny_ready (rs:=[1,3]) (by kernel_rfl) (by simp) ?_
   refine AllReady.cons rfl (fun K hK=>?_) (AllReady.cons rfl (fun K hK=>?_) AllReady.nil)
   ·have HK:Hid _:=hK
    clear hK
    go_simp
    refine HK.out _ _ ?_
    clear HK K
    refine wpAny_ready (rs:=[3]) (by kernel_rfl) (by simp) ?_
    refine AllReady.cons rfl (fun K hK=>?_) AllReady.nil
    have HK:Hid _:=hK
    clear hK
    go_simp
    refine HRC.out.mono ?_
    rintro e w5 ⟨rfl,h1,h2⟩
    have HS5:Hid (St g t w 38 zmsg (p+4+((rs.take (k+1)).flatMap wrecL).length) #[.int .i64 id,.bool ans,.bool cut,.int .i64 code,.string R,.int .i64 typ,v] w5):=(HS.out.keep (World.Extends.refl _).drew).call h1 h2
    have HO5:Hid (Rc.Own (w.heap.size+2) w5 v (rs.take k)):=h2.out.ownR (World.ownsRow.drew HO.out) (by omega)
    have hz5:w.heap.size+2≤w5.heap.size:=Nat.le_trans hsz h2.out.size
    have hv5:w5.cell? ⟨w.heap.size+1,6,none⟩=some v:=HS5.out.cell 6
    clear h1 h2
    refine HK.out _ _ ?_
    clear HK K
    refine wpAny_ready (rs:=[4]) (by kernel_rfl) (by simp) ?_
    refine AllReady.cons rfl (fun K hK=>?_) AllReady.nil
    have HK:Hid _:=hK
    clear hK
    go_simp
    refine HK.out _ _ ?_
    clear HK K
    refine wpAny_ready (rs:=[5]) (by kernel_rfl) (by simp) ?_
    refine AllReady.cons rfl (fun K hK=>?_) AllReady.nil
    have HK:Hid _:=hK
    clear hK
    rw [if_pos (by rfl)]
    refine wp_append_own _ _ _ 36 rfl (w.heap.size+2) 59 i0 _ 7 80 Tryz.underlying36 hi0 hz0 hzs hzb rfl (by omega) v (rs.take k).length (Rc.fl (rs.take k)) rfl (World.ownsRow.alloc HO5.out _) ⟨w5.heap.size,0,none⟩ 1 1 r.cs rfl rfl (World.news_of_block (cs:=#[.string r.name,.int .i64 r.typ,.int .i64 r.lasts,.int .i64 r.addr,.string r.text,.int .i64 r.port,.string r.target]) (t:=59) (fr:=(0,0)) (heap_alloc_new w5 _)) (Rc.cs_one r) (by unfold maxLen;omega) (by omega) (by simp;omega) ?_
    intro v' w6 r1 r2 r3
    obtain ⟨ao,l',c',hv'⟩:∃ ao l' c',v'=.slice ao l' c':=by
     rcases r1.2 with ⟨hv,_⟩ | ⟨gq,cq,_,hv,_⟩
     ·exact ⟨_,_,_,hv⟩
     ·exact ⟨_,_,_,hv⟩
    subst hv'
    have hext:w5.Extends (w5.alloc (.cells #[.string r.name,.int .i64 r.typ,.int .i64 r.lasts,.int .i64 r.addr,.string r.text,.int .i64 r.port,.string r.target] 59)):=(World.Extends.refl w5).alloc _
    have hMne:∀ q,q < w.heap.size+2→some q≠v.ownBlock:=fun q hq e=>by have:=(HO5.out.lt q e.symm).1;omega
    have HS6:Hid (St g t w 38 zmsg (p+4+((rs.take (k+1)).flatMap wrecL).length) #[.int .i64 id,.bool ans,.bool cut,.int .i64 code,.string R,.int .i64 typ,v] w6):=(show St _ _ _ _ _ _ _ _ from (HS5.out.keep hext).grown r2 (fun q hq=>hMne q hq))
    have HO6:Hid (Rc.Own (w.heap.size+2) w6 (.slice ao l' c') (rs.take (k+1))):=(show Rc.Own _ _ _ _ by rw [HT2.out];exact Rc.own_snoc r1)
    have hz6:w.heap.size+2≤w6.heap.size:=by have:=r2.size;simp at this;omega
    have hv6:w6.cell? ⟨w.heap.size+1,6,none⟩=some v:=HS6.out.cell 6
    have hf6:=HS6.out.free 6
    clear r1 r2 r3 hext hMne HS5 HO5 hz5 hv5
    refine HK.out _ _ ?_
    clear HK K
    refine wpAny_ready (rs:=[6]) (by kernel_rfl) (by simp) ?_
    refine AllReady.cons rfl (fun K hK=>?_) AllReady.nil
    have HK:Hid _:=hK
    clear hK
    go_simp
    refine HK.out _ _ ?_
    clear HK K
    refine wpAny_ready (rs:=[7]) (by kernel_rfl) (by simp) ?_
    refine AllReady.cons rfl (fun K hK=>?_) AllReady.nil
    have HK:Hid _:=hK
    clear hK
    go_simp
    refine HK.out _ _ ?_
    clear HK K
    refine wpAny_done (by kernel_rfl) ?_ _
    have HS7:Hid (St g t w 38 zmsg (p+4+((rs.take (k+1)).flatMap wrecL).length) #[.int .i64 id,.bool ans,.bool cut,.int .i64 code,.string R,.int .i64 typ,.slice ao l' c'] (w6.setCell ⟨w.heap.size+1,6,none⟩ (.slice ao l' c'))):=HS6.out.store 6 (.slice ao l' c')
    have HO7:Hid (Rc.Own (w.heap.size+2) (w6.setCell ⟨w.heap.size+1,6,none⟩ (.slice ao l' c')) (.slice ao l' c') (rs.take (k+1))):=own_put HO6.out (by omega)
    have hz7:w.heap.size+2≤(w6.setCell ⟨w.heap.size+1,6,none⟩ (.slice ao l' c')).heap.size:=by simpa using hz6
    clear HS6 HO6 hz6 hv6 hf6
    go_wp2_with fail
    exact ⟨⟨k+1,.slice ao l' c',by omega,by go_num,HS7,HO7,hz7⟩,by simp [intOf];omega⟩
   ·have HK:Hid _:=hK
    clear hK
    go_simp
    refine HRC.out.mono ?_
    rintro e w5 ⟨rfl,h1,h2⟩
    have HS5:Hid (St g t w 38 zmsg (p+4+((rs.take (k+1)).flatMap wrecL).length) #[.int .i64 id,.bool ans,.bool cut,.int .i64 code,.string R,.int .i64 typ,v] w5):=(HS.out.keep (World.Extends.refl _).drew).call h1 h2
    have HO5:Hid (Rc.Own (w.heap.size+2) w5 v (rs.take k)):=h2.out.ownR (World.ownsRow.drew HO.out) (by omega)
    have hz5:w.heap.size+2≤w5.heap.size:=Nat.le_trans hsz h2.out.size
    have hv5:w5.cell? ⟨w.heap.size+1,6,none⟩=some v:=HS5.out.cell 6
    clear h1 h2
    refine HK.out _ _ ?_
    clear HK K
    refine wpAny_ready (rs:=[1,4]) (by kernel_rfl) (by simp) ?_
    refine AllReady.cons rfl (fun K hK=>?_) (AllReady.cons rfl (fun K hK=>?_) AllReady.nil)
    ·have HK:Hid _:=hK
     clear hK
     go_simp
     refine HK.out _ _ ?_
     clear HK K
     refine wpAny_ready (rs:=[4]) (by kernel_rfl) (by simp) ?_
     refine AllReady.cons rfl (fun K hK=>?_) AllReady.nil
     have HK:Hid _:=hK
     clear hK
     go_simp
     refine HK.out _ _ ?_
     clear HK K
     refine wpAny_ready (rs:=[5]) (by kernel_rfl) (by simp) ?_
     refine AllReady.cons rfl (fun K hK=>?_) AllReady.nil
     have HK:Hid _:=hK
     clear hK
     rw [if_pos (by rfl)]
     refine wp_append_own _ _ _ 36 rfl (w.heap.size+2) 59 i0 _ 7 80 Tryz.underlying36 hi0 hz0 hzs hzb rfl (by omega) v (rs.take k).length (Rc.fl (rs.take k)) rfl (World.ownsRow.alloc HO5.out _) ⟨w5.heap.size,0,none⟩ 1 1 r.cs rfl rfl (World.news_of_block (cs:=#[.string r.name,.int .i64 r.typ,.int .i64 r.lasts,.int .i64 r.addr,.string r.text,.int .i64 r.port,.string r.target]) (t:=59) (fr:=(0,0)) (heap_alloc_new w5 _)) (Rc.cs_one r) (by unfold maxLen;omega) (by omega) (by simp;omega) ?_
     intro v' w6 r1 r2 r3
     obtain ⟨ao,l',c',hv'⟩:∃ ao l' c',v'=.slice ao l' c':=by
      rcases r1.2 with ⟨hv,_⟩ | ⟨gq,cq,_,hv,_⟩
      ·exact ⟨_,_,_,hv⟩
      ·exact ⟨_,_,_,hv⟩
     subst hv'
     have hext:w5.Extends (w5.alloc (.cells #[.string r.name,.int .i64 r.typ,.int .i64 r.lasts,.int .i64 r.addr,.string r.text,.int .i64 r.port,.string r.target] 59)):=(World.Extends.refl w5).alloc _
     have hMne:∀ q,q < w.heap.size+2→some q≠v.ownBlock:=fun q hq e=>by have:=(HO5.out.lt q e.symm).1;omega
     have HS6:Hid (St g t w 38 zmsg (p+4+((rs.take (k+1)).flatMap wrecL).length) #[.int .i64 id,.bool ans,.bool cut,.int .i64 code,.string R,.int .i64 typ,v] w6):=(show St _ _ _ _ _ _ _ _ from (HS5.out.keep hext).grown r2 (fun q hq=>hMne q hq))
     have HO6:Hid (Rc.Own (w.heap.size+2) w6 (.slice ao l' c') (rs.take (k+1))):=(show Rc.Own _ _ _ _ by rw [HT2.out];exact Rc.own_snoc r1)
     have hz6:w.heap.size+2≤w6.heap.size:=by have:=r2.size;simp at this;omega
     have hv6:w6.cell? ⟨w.heap.size+1,6,none⟩=some v:=HS6.out.cell 6
     have hf6:=HS6.out.free 6
     clear r1 r2 r3 hext hMne HS5 HO5 hz5 hv5
     refine HK.out _ _ ?_
     clear HK K
     refine wpAny_ready (rs:=[6]) (by kernel_rfl) (by simp) ?_
     refine AllReady.cons rfl (fun K hK=>?_) AllReady.nil
     have HK:Hid _:=hK
     clear hK
     go_simp
     refine HK.out _ _ ?_
     clear HK K
     refine wpAny_ready (rs:=[7]) (by kernel_rfl) (by simp) ?_
     refine AllReady.cons rfl (fun K hK=>?_) AllReady.nil
     have HK:Hid _:=hK
     clear hK
     go_simp
     refine HK.out _ _ ?_
     clear HK K
     refine wpAny_done (by kernel_rfl) ?_ _
     have HS7:Hid (St g t w 38 zmsg (p+4+((rs.take (k+1)).flatMap wrecL).length) #[.int .i64 id,.bool ans,.bool cut,.int .i64 code,.string R,.int .i64 typ,.slice ao l' c'] (w6.setCell ⟨w.heap.size+1,6,none⟩ (.slice ao l' c'))):=HS6.out.store 6 (.slice ao l' c')
     have HO7:Hid (Rc.Own (w.heap.size+2) (w6.setCell ⟨w.heap.size+1,6,none⟩ (.slice ao l' c')) (.slice ao l' c') (rs.take (k+1))):=own_put HO6.out (by omega)
     have hz7:w.heap.size+2≤(w6.setCell ⟨w.heap.size+1,6,none⟩ (.slice ao l' c')).heap.size:=by simpa using hz6
     clear HS6 HO6 hz6 hv6 hf6
     go_wp2_with fail
     exact ⟨⟨k+1,.slice ao l' c',by omega,by go_num,HS7,HO7,hz7⟩,by simp [intOf];omega⟩
    ·have HK:Hid _:=hK
     clear hK
     go_simp
     refine HK.out _ _ ?_
     clear HK K
     have hva:(w5.alloc (.cells #[.string r.name,.int .i64 r.typ,.int .i64 r.lasts,.int .i64 r.addr,.string r.text,.int .i64 r.port,.string r.target] 59)).cell? ⟨w.heap.size+1,6,none⟩=some v:=((World.Extends.refl w5).alloc _).cell_of hv5
     refine wpAny_ready (rs:=[1]) (by kernel_rfl) (by simp) ?_
     refine AllReady.cons rfl (fun K hK=>?_) AllReady.nil
     have HK:Hid _:=hK
     clear hK
     go_simp
     refine HK.out _ _ ?_
     clear HK K
     refine wpAny_ready (rs:=[5]) (by kernel_rfl) (by simp) ?_
     refine AllReady.cons rfl (fun K hK=>?_) AllReady.nil
     have HK:Hid _:=hK
     clear hK
     rw [if_pos (by rfl)]
     refine wp_append_own _ _ _ 36 rfl (w.heap.size+2) 59 i0 _ 7 80 Tryz.underlying36 hi0 hz0 hzs hzb rfl (by omega) v (rs.take k).length (Rc.fl (rs.take k)) rfl (World.ownsRow.alloc HO5.out _) ⟨w5.heap.size,0,none⟩ 1 1 r.cs rfl rfl (World.news_of_block (cs:=#[.string r.name,.int .i64 r.typ,.int .i64 r.lasts,.int .i64 r.addr,.string r.text,.int .i64 r.port,.string r.target]) (t:=59) (fr:=(0,0)) (heap_alloc_new w5 _)) (Rc.cs_one r) (by unfold maxLen;omega) (by omega) (by simp;omega) ?_
     intro v' w6 r1 r2 r3
     obtain ⟨ao,l',c',hv'⟩:∃ ao l' c',v'=.slice ao l' c':=by
      rcases r1.2 with ⟨hv,_⟩ | ⟨gq,cq,_,hv,_⟩
      ·exact ⟨_,_,_,hv⟩
      ·exact ⟨_,_,_,hv⟩
     subst hv'
     have hext:w5.Extends (w5.alloc (.cells #[.string r.name,.int .i64 r.typ,.int .i64 r.lasts,.int .i64 r.addr,.string r.text,.int .i64 r.port,.string r.target] 59)):=(World.Extends.refl w5).alloc _
     have hMne:∀ q,q < w.heap.size+2→some q≠v.ownBlock:=fun q hq e=>by have:=(HO5.out.lt q e.symm).1;omega
     have HS6:Hid (St g t w 38 zmsg (p+4+((rs.take (k+1)).flatMap wrecL).length) #[.int .i64 id,.bool ans,.bool cut,.int .i64 code,.string R,.int .i64 typ,v] w6):=(show St _ _ _ _ _ _ _ _ from (HS5.out.keep hext).grown r2 (fun q hq=>hMne q hq))
     have HO6:Hid (Rc.Own (w.heap.size+2) w6 (.slice ao l' c') (rs.take (k+1))):=(show Rc.Own _ _ _ _ by rw [HT2.out];exact Rc.own_snoc r1)
     have hz6:w.heap.size+2≤w6.heap.size:=by have:=r2.size;simp at this;omega
     have hv6:w6.cell? ⟨w.heap.size+1,6,none⟩=some v:=HS6.out.cell 6
     have hf6:=HS6.out.free 6
     clear r1 r2 r3 hext hMne HS5 HO5 hz5 hv5
     refine HK.out _ _ ?_
     clear HK K
     refine wpAny_ready (rs:=[6]) (by kernel_rfl) (by simp) ?_
     refine AllReady.cons rfl (fun K hK=>?_) AllReady.nil
     have HK:Hid _:=hK
     clear hK
     go_simp
     refine HK.out _ _ ?_
     clear HK K
     refine wpAny_ready (rs:=[7]) (by kernel_rfl) (by simp) ?_
     refine AllReady.cons rfl (fun K hK=>?_) AllReady.nil
     have HK:Hid _:=hK
     clear hK
     go_simp
     refine HK.out _ _ ?_
     clear HK K
     refine wpAny_done (by kernel_rfl) ?_ _
     have HS7:Hid (St g t w 38 zmsg (p+4+((rs.take (k+1)).flatMap wrecL).length) #[.int .i64 id,.bool ans,.bool cut,.int .i64 code,.string R,.int .i64 typ,.slice ao l' c'] (w6.setCell ⟨w.heap.size+1,6,none⟩ (.slice ao l' c'))):=HS6.out.store 6 (.slice ao l' c')
     have HO7:Hid (Rc.Own (w.heap.size+2) (w6.setCell ⟨w.heap.size+1,6,none⟩ (.slice ao l' c')) (.slice ao l' c') (rs.take (k+1))):=own_put HO6.out (by omega)
     have hz7:w.heap.size+2≤(w6.setCell ⟨w.heap.size+1,6,none⟩ (.slice ao l' c')).heap.size:=by simpa using hz6
     clear HS6 HO6 hz6 hv6 hf6
     go_wp2_with fail
     exact ⟨⟨k+1,.slice ao l' c',by omega,by go_num,HS7,HO7,hz7⟩,by simp [intOf];omega⟩
  ·have hkn:k=n:=by omega
   have hd:decide ((k:Int) < (n:Int))=false:=by simp;omega
   have ct:wr.cell? ⟨g,0,none⟩=some (.string t):=HS.out.isR.c0
   have ca:wr.cell? ⟨g,1,none⟩=some (.int .i64 t.size):=(show wr.cell? ⟨g,1,none⟩=some (.int .i64 t.size) by
    rw [← HEND.out,← hkn];exact HS.out.isR.c1)
   have HOF:Hid (Rc.Own (w.heap.size+2) wr v rs):=(show Rc.Own _ _ _ _ by
    have h:=HO.out
    rw [hkn,HALL.out] at h
    exact h)
   obtain ⟨av,lv,cv,hvv⟩:∃ a l c,v=.slice a l c:=by
    rcases HO.out.2 with ⟨hv,_⟩ | ⟨gq,cq,_,hv,_⟩
    ·exact ⟨_,_,_,hv⟩
    ·exact ⟨_,_,_,hv⟩
   subst hvv
   have m0:wr.cell? ⟨w.heap.size+1,0,none⟩=some (.int .i64 id):=HS.out.cell 0
   have q0:wr.cell? ⟨w.heap.size,0,none⟩=some (.int .i64 0):=HS.out.qcell 0
   have y0:=HS.out.qfree 0
   have m1:wr.cell? ⟨w.heap.size+1,1,none⟩=some (.bool ans):=HS.out.cell 1
   have q1:wr.cell? ⟨w.heap.size,1,none⟩=some (.bool false):=HS.out.qcell 1
   have y1:=HS.out.qfree 1
   have m2:wr.cell? ⟨w.heap.size+1,2,none⟩=some (.bool cut):=HS.out.cell 2
   have q2:wr.cell? ⟨w.heap.size,2,none⟩=some (.bool false):=HS.out.qcell 2
   have y2:=HS.out.qfree 2
   have m3:wr.cell? ⟨w.heap.size+1,3,none⟩=some (.int .i64 code):=HS.out.cell 3
   have q3:wr.cell? ⟨w.heap.size,3,none⟩=some (.int .i64 0):=HS.out.qcell 3
   have y3:=HS.out.qfree 3
   have m4:wr.cell? ⟨w.heap.size+1,4,none⟩=some (.string R):=HS.out.cell 4
   have q4:wr.cell? ⟨w.heap.size,4,none⟩=some (.string ⟨#[]⟩):=HS.out.qcell 4
   have y4:=HS.out.qfree 4
   have m5:wr.cell? ⟨w.heap.size+1,5,none⟩=some (.int .i64 typ):=HS.out.cell 5
   have q5:wr.cell? ⟨w.heap.size,5,none⟩=some (.int .i64 0):=HS.out.qcell 5
   have y5:=HS.out.qfree 5
   have m6:wr.cell? ⟨w.heap.size+1,6,none⟩=some (.slice av lv cv):=HS.out.cell 6
   have q6:wr.cell? ⟨w.heap.size,6,none⟩=some (.slice none 0 0):=HS.out.qcell 6
   have y6:=HS.out.qfree 6
   clear hkn
   go_wp2_with fail
   go_region_held3 (fun w'=>w'.cell? ⟨g,0,none⟩=some (.string t)∧w'.cell? ⟨g,1,none⟩=some (.int .i64 t.size)) (go_keep) (first | (go_at_call 52;refine (need_ok _ _).mono ?_;rintro e w5 ⟨rfl,rfl⟩) | fail)
   go_wp2_with fail
   refine bodyPost_ret (v:=.agg #[.int .i64 id,.bool ans,.bool cut,.int .i64 code,.string R,.int .i64 typ,.slice av lv cv]) ?_ rfl ⟨.slice av lv cv,rfl,?_,?_⟩
   ·simp [results,Tryz.results25,go_sem,q0,q1,q2,q3,q4,q5,q6]
   ·exact (Rd.trans (((((((HS.out.rd.put 0 _ (Nat.le_refl _)).put 1 _ (Nat.le_refl _)).put 2 _ (Nat.le_refl _)).put 3 _ (Nat.le_refl _)).put 4 _ (Nat.le_refl _)).put 5 _ (Nat.le_refl _)).put 6 _ (Nat.le_refl _)) (Rd.ext (World.Extends.refl _).drew):Rd g w _)
   ·exact World.ownsRow.drew (own_put (i:=6) (own_put (i:=5) (own_put (i:=4) (own_put (i:=3) (own_put (i:=2) (own_put (i:=1) (own_put (i:=0) HOF.out (by omega)) (by omega)) (by omega)) (by omega)) (by omega)) (by omega)) (by omega))
end Go.Proofs.YtignmeaeibaejaaGreatDoor
namespace Go.Proofs.YtignmeaeibaejaaGreatDoor
open Go.RowKit Go.Lib
structure ReadsR (t:ByteArray) (id code typ:Int) (ans cut:Bool) (R:ByteArray) (rs:List Rc.Rec):Prop where
 go:∀ (g:Nat) (w:World),IsR g t 0 w→Calls Tryz.prog 25 #[.pointer (some ⟨g,0,none⟩)] w fun e w'=>∃ v,e=.returned (.agg #[.int .i64 id,.bool ans,.bool cut,.int .i64 code,.string R,.int .i64 typ,v])∧Hid (Rd g w w')∧Hid (Rc.Own (w.heap.size+2) w' v rs)
theorem rec_ok {r:Rc.Rec} (h:chkRec r=0):r.ok:=by
 obtain ⟨h1,_,h3,h4⟩:=chkRec_facts h
 have:=(labs_ok h1).2.2
 have:=(labs_ok h4).2.2
 refine ⟨?_,?_,?_⟩<;>(unfold maxLen;omega)
theorem recs_ok {rs:List Rc.Rec} (h:∀ r∈rs,chkRec r=0):∀ j,(rs.getD j Rc.dm).ok:=Rc.ns_get (fun r hr=>rec_ok (h r hr))
set_option maxHeartbeats 1600000 in
set_option maxRecDepth 100000 in
theorem read1_any (gs gm:Nat) (id code typ:Int) (ans cut:Bool) (R t:ByteArray) (rs:List Rc.Rec) (w:World) (hr:ReadsR t id code typ ans cut R rs) (hgs:w.heap[gs]?=some (.cells #[.string t] 9 (0,0))) (hgm:w.heap[gm]?=some (.cells zmsg 38 (0,0))) (hc:chkMsg id code typ R rs=0) :
 Calls Tryz.prog 24 #[.pointer (some ⟨gs,0,none⟩),.pointer (some ⟨gm,0,none⟩)] w fun r w'=>r=.returned (.tuple #[])∧Hid (Rd gm w w')∧∃ v,Hid (w'.heap[gm]?=some (.cells #[.int .i64 id,.bool ans,.bool cut,.int .i64 code,.string R,.int .i64 typ,v] 38 (0,0)))∧Hid (Rc.Own (w.heap.size+1) w' v rs):=by
 obtain ⟨f1,f2,f3⟩:=chkMsg_facts hc
 have hRs:=(labs_ok f2).2.2
 have HC:Hid (∀ v W,Rc.Sl W v rs→Calls Tryz.prog 22 #[.agg #[.int .i64 id,.bool ans,.bool cut,.int .i64 code,.string R,.int .i64 typ,v]] W fun r w'=>r=.returned (.tuple #[])∧Below W.heap.size W w'):=fun v W hv=>by
  have h:=dcheck_any id code typ ans cut R rs v W (by unfold maxLen;omega) hv
  rw [hc,outE_0] at h
  exact h
 have HOK:Hid (∀ j,(rs.getD j Rc.dm).ok):=recs_ok f3
 have HR:Hid (ReadsR t id code typ ans cut R rs):=hr
 have cs:w.cell? ⟨gs,0,none⟩=some (.string t):=cellsAt hgs 0
 clear hr hgs f1 f2 f3 hRs hc
 have hlt:gm < w.heap.size:=(Array.getElem?_eq_some_iff.1 hgm).1
 have HGM:Hid (w.heap[gm]?=some (.cells zmsg 38 (0,0))):=hgm
 clear hgm
 go_enter Tryz.func24,Tryz.ntmps24
 go_wp2_with fail
 have hr0:(w.alloc (.cells #[.string t,.int .i64 0] 64)).heap[w.heap.size]?=some (.cells #[.string t,.int .i64 0] 64 (0,0)):=heap_alloc_new w _
 refine (HR.out.go w.heap.size _ ⟨cellsAt hr0 0,cellsAt hr0 1,frozenAt hr0 1,by simp⟩).mono ?_
 rintro e w1 ⟨v,rfl,h2,ho⟩
 have hb1:Below w.heap.size w w1:=((Below.refl _ _).alloc (Nat.le_refl _) _).trans (h2.out.below (Nat.le_refl _) (by simp))
 have HD1:Hid (Rd gm w w1):=Rd.of_below hb1 (Nat.le_refl _)
 have HO1:Hid (Rc.Own (w.heap.size+1) w1 v rs):=ho.out.mono (by simp<;>omega)
 obtain ⟨av,lv,cv,hvv⟩:∃ a l c,v=.slice a l c:=by
  rcases HO1.out.2 with ⟨hv,_⟩ | ⟨gq,cq,_,hv,_⟩
  ·exact ⟨_,_,_,hv⟩
  ·exact ⟨_,_,_,hv⟩
 subst hvv
 have hg1:w1.heap[gm]?=some (.cells zmsg 38 (0,0)):=(hb1.block gm hlt).trans HGM.out
 have hl1:gm < w1.heap.size:=(Array.getElem?_eq_some_iff.1 hg1).1
 have c0:w1.cell? ⟨gm,0,none⟩=some (.int .i64 0):=cellsAt hg1 0
 have z0:w1.frozen? ⟨gm,0,none⟩=false:=by simp [World.frozen?,hg1]
 have c1:w1.cell? ⟨gm,1,none⟩=some (.bool false):=cellsAt hg1 1
 have z1:w1.frozen? ⟨gm,1,none⟩=false:=by simp [World.frozen?,hg1]
 have c2:w1.cell? ⟨gm,2,none⟩=some (.bool false):=cellsAt hg1 2
 have z2:w1.frozen? ⟨gm,2,none⟩=false:=by simp [World.frozen?,hg1]
 have c3:w1.cell? ⟨gm,3,none⟩=some (.int .i64 0):=cellsAt hg1 3
 have z3:w1.frozen? ⟨gm,3,none⟩=false:=by simp [World.frozen?,hg1]
 have c4:w1.cell? ⟨gm,4,none⟩=some (.string ⟨#[]⟩):=cellsAt hg1 4
 have z4:w1.frozen? ⟨gm,4,none⟩=false:=by simp [World.frozen?,hg1]
 have c5:w1.cell? ⟨gm,5,none⟩=some (.int .i64 0):=cellsAt hg1 5
 have z5:w1.frozen? ⟨gm,5,none⟩=false:=by simp [World.frozen?,hg1]
 have c6:w1.cell? ⟨gm,6,none⟩=some (.slice none 0 0):=cellsAt hg1 6
 have z6:w1.frozen? ⟨gm,6,none⟩=false:=by simp [World.frozen?,hg1]
 have HG2:Hid ((((((((w1.setCell ⟨gm,0,none⟩ (.int .i64 id)).setCell ⟨gm,1,none⟩ (.bool ans)).setCell ⟨gm,2,none⟩ (.bool cut)).setCell ⟨gm,3,none⟩ (.int .i64 code)).setCell ⟨gm,4,none⟩ (.string R)).setCell ⟨gm,5,none⟩ (.int .i64 typ)).setCell ⟨gm,6,none⟩ (.slice av lv cv)).heap[gm]?=some (.cells #[.int .i64 id,.bool ans,.bool cut,.int .i64 code,.string R,.int .i64 typ,.slice av lv cv] 38 (0,0))):=(Joins.block_setCell (i:=6) (Joins.block_setCell (i:=5) (Joins.block_setCell (i:=4) (Joins.block_setCell (i:=3) (Joins.block_setCell (i:=2) (Joins.block_setCell (i:=1) (Joins.block_setCell (i:=0) hg1 (.int .i64 id)) (.bool ans)) (.bool cut)) (.int .i64 code)) (.string R)) (.int .i64 typ)) (.slice av lv cv))
 have HD2:Hid (Rd gm w (((((((w1.setCell ⟨gm,0,none⟩ (.int .i64 id)).setCell ⟨gm,1,none⟩ (.bool ans)).setCell ⟨gm,2,none⟩ (.bool cut)).setCell ⟨gm,3,none⟩ (.int .i64 code)).setCell ⟨gm,4,none⟩ (.string R)).setCell ⟨gm,5,none⟩ (.int .i64 typ)).setCell ⟨gm,6,none⟩ (.slice av lv cv))):=((((((((HD1.out).here 0 _).here 1 _).here 2 _).here 3 _).here 4 _).here 5 _).here 6 _)
 have HO2:Hid (Rc.Own (w.heap.size+1) (((((((w1.setCell ⟨gm,0,none⟩ (.int .i64 id)).setCell ⟨gm,1,none⟩ (.bool ans)).setCell ⟨gm,2,none⟩ (.bool cut)).setCell ⟨gm,3,none⟩ (.int .i64 code)).setCell ⟨gm,4,none⟩ (.string R)).setCell ⟨gm,5,none⟩ (.int .i64 typ)).setCell ⟨gm,6,none⟩ (.slice av lv cv)) (.slice av lv cv) rs):=(own_put (i:=6) (own_put (i:=5) (own_put (i:=4) (own_put (i:=3) (own_put (i:=2) (own_put (i:=1) (own_put (i:=0) HO1.out (by omega)) (by omega)) (by omega)) (by omega)) (by omega)) (by omega)) (by omega))
 clear h2 ho hb1 hr0 hg1 HD1
 go_wp2_with fail
 refine (HC.out _ _ (HO2.out.sl HOK.out)).mono ?_
 rintro e w2 ⟨rfl,hb2⟩
 have HB2:Hid (Below (((((((w1.setCell ⟨gm,0,none⟩ (.int .i64 id)).setCell ⟨gm,1,none⟩ (.bool ans)).setCell ⟨gm,2,none⟩ (.bool cut)).setCell ⟨gm,3,none⟩ (.int .i64 code)).setCell ⟨gm,4,none⟩ (.string R)).setCell ⟨gm,5,none⟩ (.int .i64 typ)).setCell ⟨gm,6,none⟩ (.slice av lv cv)).heap.size (((((((w1.setCell ⟨gm,0,none⟩ (.int .i64 id)).setCell ⟨gm,1,none⟩ (.bool ans)).setCell ⟨gm,2,none⟩ (.bool cut)).setCell ⟨gm,3,none⟩ (.int .i64 code)).setCell ⟨gm,4,none⟩ (.string R)).setCell ⟨gm,5,none⟩ (.int .i64 typ)).setCell ⟨gm,6,none⟩ (.slice av lv cv)) w2):=hb2
 clear hb2
 go_wp2_with fail
 simp [bodyPost,results,Tryz.results24]
 refine ⟨HD2.out.trans (Rd.of_below HB2.out (Nat.le_refl _)),.slice av lv cv,?_,?_⟩
 ·exact (HB2.out.block gm (by simp;exact hl1)).trans HG2.out
 ·exact HO2.out.below HB2.out
set_option maxHeartbeats 1600000 in
set_option maxRecDepth 100000 in
theorem read_any (id code typ:Int) (ans cut:Bool) (R t:ByteArray) (rs:List Rc.Rec) (w:World) (hr:ReadsR t id code typ ans cut R rs) (hl:t.size≤512) (hc:chkMsg id code typ R rs=0) :
 Calls Tryz.prog 11 #[.string t] w fun e w'=>∃ v,e=.returned (.tuple #[.agg #[.int .i64 id,.bool ans,.bool cut,.int .i64 code,.string R,.int .i64 typ,v],.int .i64 0])∧Below w.heap.size w w'∧Hid (Rc.Own w.heap.size w' v rs):=by
 have HW1:Hid (∀ (gs gm:Nat) (W:World),W.heap[gs]?=some (.cells #[.string t] 9 (0,0))→W.heap[gm]?=some (.cells zmsg 38 (0,0))→Calls Tryz.prog 24 #[.pointer (some ⟨gs,0,none⟩),.pointer (some ⟨gm,0,none⟩)] W fun r w'=>r=.returned (.tuple #[])∧Hid (Rd gm W w')∧∃ v,Hid (w'.heap[gm]?=some (.cells #[.int .i64 id,.bool ans,.bool cut,.int .i64 code,.string R,.int .i64 typ,v] 38 (0,0)))∧Hid (Rc.Own (W.heap.size+1) w' v rs)):=fun gs gm W hgs hgm=>read1_any gs gm id code typ ans cut R t rs W hr hgs hgm hc
 have ef:∀ args W,(callFunc 24 args).run Tryz.prog W=.ok (.enter 24 args) W:=enters_of Tryz.func24 (by kernel_rfl) rfl
 have hcmp:decide (512 < (t.size:Int))=false:=by simp;omega
 clear hl hr hc
 go_enter Tryz.func11,Tryz.ntmps11
 go_wp2_with fail
 obtain ⟨w0,hw0⟩:∃ w0,w0=((w.alloc (.cells #[.string t] 9)).alloc (.cells zmsg 38)).alloc (.cells zmsg 38):=⟨_,rfl⟩
 rw [← hw0]
 have hn0:w0.heap.size=w.heap.size+1+1+1:=by rw [hw0];simp
 have HB0:Hid (Below w.heap.size w w0):=(show Below _ _ _ by rw [hw0];exact (((Below.refl _ _).alloc (Nat.le_refl _) _).alloc (by simp) _).alloc (by simp;omega) _)
 have hgs:w0.heap[w.heap.size]?=some (.cells #[.string t] 9 (0,0)):=by
  rw [hw0]
  exact (Lib.alloc_old _ _ _ (by simp;omega)).trans ((Lib.alloc_old _ _ _ (by simp)).trans (heap_alloc_new w _))
 have hgq:w0.heap[w.heap.size+1]?=some (.cells zmsg 38 (0,0)):=by
  rw [hw0]
  have h:=heap_alloc_new (w.alloc (.cells #[.string t] 9)) (.cells zmsg 38)
  exact (Lib.alloc_old _ _ _ (by simp)).trans (by simpa using h)
 have hgm:w0.heap[w.heap.size+1+1]?=some (.cells zmsg 38 (0,0)):=by
  rw [hw0]
  have h:=heap_alloc_new ((w.alloc (.cells #[.string t] 9)).alloc (.cells zmsg 38)) (.cells zmsg 38)
  simpa using h
 clear hw0
 have hge:(w0.alloc (.cells #[.int .i64 0] 29)).heap[w0.heap.size]?=some (.cells #[.int .i64 0] 29 (0,0)):=heap_alloc_new w0 _
 have HAT:Hid (Calls Tryz.prog 20 #[.func (.func 24) #[] #[.pointer (some ⟨w.heap.size,0,none⟩),.pointer (some ⟨w.heap.size+1+1,0,none⟩)]] w0 fun r w'=>r=.returned (.int .i64 0)∧Hid (Rd (w.heap.size+1+1) w0 w')∧∃ v,Hid (w'.heap[w.heap.size+1+1]?=some (.cells #[.int .i64 id,.bool ans,.bool cut,.int .i64 code,.string R,.int .i64 typ,v] 38 (0,0)))∧Hid (Rc.Own (w.heap.size+1+1+1) w' v rs)):=(show Calls _ _ _ _ _ by
  refine (attempt_ok 24 #[.pointer (some ⟨w.heap.size,0,none⟩),.pointer (some ⟨w.heap.size+1+1,0,none⟩)] w0 (fun W=>Rd (w.heap.size+1+1) (w0.alloc (.cells #[.int .i64 0] 29)) W∧∃ v,W.heap[w.heap.size+1+1]?=some (.cells #[.int .i64 id,.bool ans,.bool cut,.int .i64 code,.string R,.int .i64 typ,v] 38 (0,0))∧Rc.Own (w0.heap.size+1+1) W v rs) ef ?_).mono ?_
  ·refine (HW1.out w.heap.size (w.heap.size+1+1) _ ((Lib.alloc_old w0 _ _ (by omega)).trans hgs) ((Lib.alloc_old w0 _ _ (by omega)).trans hgm)).mono ?_
   rintro r w' ⟨rfl,hb,v,hk2,ho⟩
   have hk:w'.heap[w0.heap.size]?=some (.cells #[.int .i64 0] 29 (0,0)):=(hb.out.block _ (by simp) (by omega)).trans hge
   exact ⟨rfl,⟨hb.out,v,hk2.out,by have:=ho.out;simpa using this⟩,cellsAt hk 0,frozenAt hk 0,(Array.getElem?_eq_some_iff.1 hk).1⟩
  ·rintro r w' ⟨rfl,w1,⟨hR,v,hk,ho⟩,_,rfl⟩
   refine ⟨rfl,(Rd.trans (Rd.ext ((World.Extends.refl w0).alloc _)) hR).put 0 _ (Nat.le_refl _),v,?_,?_⟩
   ·exact (Below.heap_setCell w1 _ _ _ (by simp;omega)).trans hk
   ·exact (own_put ho (by omega)).mono (by omega))
 clear hge hgs hgm HW1 ef
 refine HAT.out.mono ?_
 rintro e w1 ⟨rfl,HD1,v,HG1,HO1⟩
 obtain ⟨av,lv,cv,hvv⟩:∃ a l c,v=.slice a l c:=by
  rcases HO1.out.2 with ⟨hv,_⟩ | ⟨gq,cq,_,hv,_⟩
  ·exact ⟨_,_,_,hv⟩
  ·exact ⟨_,_,_,hv⟩
 subst hvv
 have HB1:Hid (Below w.heap.size w w1):=HB0.out.trans (HD1.out.below (by omega) (by omega))
 have hq1:w1.heap[w.heap.size+1]?=some (.cells zmsg 38 (0,0)):=(HD1.out.block _ (by omega) (by omega)).trans hgq
 have c0:w1.cell? ⟨w.heap.size+1+1,0,none⟩=some (.int .i64 id):=cellsAt HG1.out 0
 have q0:w1.cell? ⟨w.heap.size+1,0,none⟩=some (.int .i64 0):=cellsAt hq1 0
 have y0:w1.frozen? ⟨w.heap.size+1,0,none⟩=false:=frozenAt hq1 0
 have c1:w1.cell? ⟨w.heap.size+1+1,1,none⟩=some (.bool ans):=cellsAt HG1.out 1
 have q1:w1.cell? ⟨w.heap.size+1,1,none⟩=some (.bool false):=cellsAt hq1 1
 have y1:w1.frozen? ⟨w.heap.size+1,1,none⟩=false:=frozenAt hq1 1
 have c2:w1.cell? ⟨w.heap.size+1+1,2,none⟩=some (.bool cut):=cellsAt HG1.out 2
 have q2:w1.cell? ⟨w.heap.size+1,2,none⟩=some (.bool false):=cellsAt hq1 2
 have y2:w1.frozen? ⟨w.heap.size+1,2,none⟩=false:=frozenAt hq1 2
 have c3:w1.cell? ⟨w.heap.size+1+1,3,none⟩=some (.int .i64 code):=cellsAt HG1.out 3
 have q3:w1.cell? ⟨w.heap.size+1,3,none⟩=some (.int .i64 0):=cellsAt hq1 3
 have y3:w1.frozen? ⟨w.heap.size+1,3,none⟩=false:=frozenAt hq1 3
 have c4:w1.cell? ⟨w.heap.size+1+1,4,none⟩=some (.string R):=cellsAt HG1.out 4
 have q4:w1.cell? ⟨w.heap.size+1,4,none⟩=some (.string ⟨#[]⟩):=cellsAt hq1 4
 have y4:w1.frozen? ⟨w.heap.size+1,4,none⟩=false:=frozenAt hq1 4
 have c5:w1.cell? ⟨w.heap.size+1+1,5,none⟩=some (.int .i64 typ):=cellsAt HG1.out 5
 have q5:w1.cell? ⟨w.heap.size+1,5,none⟩=some (.int .i64 0):=cellsAt hq1 5
 have y5:w1.frozen? ⟨w.heap.size+1,5,none⟩=false:=frozenAt hq1 5
 have c6:w1.cell? ⟨w.heap.size+1+1,6,none⟩=some (.slice av lv cv):=cellsAt HG1.out 6
 have q6:w1.cell? ⟨w.heap.size+1,6,none⟩=some (.slice none 0 0):=cellsAt hq1 6
 have y6:w1.frozen? ⟨w.heap.size+1,6,none⟩=false:=frozenAt hq1 6
 clear HAT HB0 HD1 HG1 hq1 hgq
 go_wp2_with fail
 refine bodyPost_ret (v:=.tuple #[.agg #[.int .i64 id,.bool ans,.bool cut,.int .i64 code,.string R,.int .i64 typ,.slice av lv cv],.int .i64 0]) ?_ rfl ⟨.slice av lv cv,rfl,?_,?_⟩
 ·simp [results,Tryz.results11,go_sem,q0,q1,q2,q3,q4,q5,q6]
 ·exact (((((((HB1.out.setCell (p:=⟨w.heap.size+1,0,none⟩) (by simp) _).setCell (p:=⟨w.heap.size+1,1,none⟩) (by simp) _).setCell (p:=⟨w.heap.size+1,2,none⟩) (by simp) _).setCell (p:=⟨w.heap.size+1,3,none⟩) (by simp) _).setCell (p:=⟨w.heap.size+1,4,none⟩) (by simp) _).setCell (p:=⟨w.heap.size+1,5,none⟩) (by simp) _).setCell (p:=⟨w.heap.size+1,6,none⟩) (by simp) _)
 ·exact Rc.Own.mono (own_put (i:=6) (own_put (i:=5) (own_put (i:=4) (own_put (i:=3) (own_put (i:=2) (own_put (i:=1) (own_put (i:=0) HO1.out (by omega)) (by omega)) (by omega)) (by omega)) (by omega)) (by omega)) (by omega)) (by omega)
theorem reads_written {id code typ:Int} {ans cut:Bool} {R:ByteArray} {rs:List Rc.Rec} (hc:chkMsg id code typ R rs=0) (hl:(wallL id code typ ans cut R rs).length≤512):ReadsR ⟨(wallL id code typ ans cut R rs).toArray⟩ id code typ ans cut R rs:=⟨fun g w h=>by
 obtain ⟨⟨e1,e2⟩,⟨e3,e4⟩,e5,e6⟩:=msgFacts hc
 refine rmsg_any g id code typ ans cut R rs _ w h ?_ hc (by simp) ⟨⟨e1,by omega⟩,⟨e3,by omega⟩,e5,by omega⟩
 have:(⟨(wallL id code typ ans cut R rs).toArray⟩:ByteArray).size=(wallL id code typ ans cut R rs).length:=by simp [ByteArray.size]
 omega⟩
end Go.Proofs.YtignmeaeibaejaaGreatDoor
