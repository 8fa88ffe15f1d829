import Derived.Test.YtignmeaeibaejaaGreatDoorV30
namespace Go.Proofs.YtignmeaeibaejaaGreatDoor
open Go.RowKit
set_option maxHeartbeats 3200000 in
set_option maxRecDepth 100000 in
theorem msgBytes_tf (id code typ:Int) (name:ByteArray) (rs:List Rc.Rec) (v:Value) (w:World) (hc:chkMsg id code typ name rs=0) (hv:Rc.Sl w v rs) :
 Calls Tryz.prog 48 #[.agg #[.int .i64 id,.bool true,.bool false,.int .i64 code,.string name,.int .i64 typ,v]] w fun e w'=>e=.returned (.string (headB id code typ true false name rs.length++recsB rs))∧Below w.heap.size w w':=by
 obtain ⟨pa,cap,rfl,hok,hrow⟩:=hv
 have HROW:Hid (rs=[]∨∃ b off,pa=some ⟨b,off,none⟩∧b < w.heap.size∧Rc.Row w b off rs):=hrow
 obtain ⟨f1,f2,f3⟩:=chkMsg_facts hc
 obtain ⟨⟨e1,e2⟩,⟨e3,e4⟩,e5,e6⟩:=msgFacts hc
 have H1:Hid (∀ W,Calls Tryz.prog 80 #[.int .i64 id,.int .i64 2] W fun e w'=>e=.returned (.string (numB id 2))∧Below W.heap.size W w'):=fun W=>number_any id 2 W e1 (by omega) (by omega)
 have H2:Hid (∀ W,Calls Tryz.prog 80 #[.int .i64 (flg true false),.int .i64 1] W fun e w'=>e=.returned (.string (numB (flg true false) 1))∧Below W.heap.size W w'):=fun W=>number_any (flg true false) 1 W (by decide) (by decide) (by omega)
 have H3:Hid (∀ W,Calls Tryz.prog 80 #[.int .i64 code,.int .i64 1] W fun e w'=>e=.returned (.string (numB code 1))∧Below W.heap.size W w'):=fun W=>number_any code 1 W e3 (by omega) (by omega)
 have H4:Hid (∀ W,Calls Tryz.prog 80 #[.int .i64 1,.int .i64 2] W fun e w'=>e=.returned (.string (numB 1 2))∧Below W.heap.size W w'):=fun W=>number_any 1 2 W (by omega) (by omega) (by omega)
 have H5:Hid (∀ W,Calls Tryz.prog 80 #[.int .i64 rs.length,.int .i64 2] W fun e w'=>e=.returned (.string (numB rs.length 2))∧Below W.heap.size W w'):=fun W=>number_any rs.length 2 W (by omega) (by omega) (by omega)
 have H6:Hid (∀ W,Calls Tryz.prog 80 #[.int .i64 0,.int .i64 4] W fun e w'=>e=.returned (.string (numB 0 4))∧Below W.heap.size W w'):=fun W=>number_any 0 4 W (by omega) (by omega) (by omega)
 have H7:Hid (∀ W,Calls Tryz.prog 81 #[.string name] W fun e w'=>e=.returned (.string (nmB name))∧Below W.heap.size W w'):=fun W=>nameBytes_any name W f2
 have H8:Hid (∀ W,Calls Tryz.prog 80 #[.int .i64 typ,.int .i64 2] W fun e w'=>e=.returned (.string (numB typ 2))∧Below W.heap.size W w'):=fun W=>number_any typ 2 W e5 (by omega) (by omega)
 have H9:Hid (∀ W,Calls Tryz.prog 80 #[.int .i64 1,.int .i64 2] W fun e w'=>e=.returned (.string (numB 1 2))∧Below W.heap.size W w'):=H4
 have s1:(numB id 2).size=2:=numB_size _ _
 have s2:(numB (flg true false) 1).size=1:=numB_size _ _
 have s3:(numB code 1).size=1:=numB_size _ _
 have s4:(numB 1 2).size=2:=numB_size _ _
 have s5:(numB rs.length 2).size=2:=numB_size _ _
 have s6:(numB 0 4).size=4:=numB_size _ _
 have s7:=nmB_size f2
 have s8:(numB typ 2).size=2:=numB_size _ _
 have HHD:Hid (headB id code typ true false name rs.length=numB id 2++numB (flg true false) 1++numB code 1++numB 1 2++numB rs.length 2++numB 0 4++nmB name++numB typ 2++numB 1 2):=rfl
 have HSTEPS:Hid (∀ k,k < rs.length→(headB id code typ true false name rs.length++recsB (rs.take k))++recB (rs.getD k Rc.dm)=headB id code typ true false name rs.length++recsB (rs.take (k+1))):=fun k h=>recsB_step _ rs k h
 have HSZ:Hid (∀ k,(headB id code typ true false name rs.length++recsB (rs.take k)).size≤100000):=fun k=>by
  have h:=recs_len (rs.take k) fun x hx=>f3 x (List.mem_of_mem_take hx)
  rw [recs_cells,Lib.byteCells_length,List.length_take] at h
  have h2:(recsB (rs.take k)).size=((rs.take k).flatMap wrecL).length:=by simp [recsB,ByteArray.size]
  have h3:(headB id code typ true false name rs.length).size≤1000:=by
   unfold headB
   simp only [ByteArray.size_append,numB_size]
   have:=nmB_size f2
   omega
  rw [ByteArray.size_append]
  omega
 have HCR:Hid (∀ k,k < rs.length→chkRec (rs.getD k Rc.dm)=0):=fun k hk=>f3 _ (by simp [List.getD,List.getElem?_eq_getElem hk])
 obtain ⟨P4,hP4⟩:∃ P4,P4=numB 1 2:=⟨_,rfl⟩
 have H4V:Hid (numB 1 2=P4):=hP4.symm
 obtain ⟨P6,hP6⟩:∃ P6,P6=numB 0 4:=⟨_,rfl⟩
 have H6V:Hid (numB 0 4=P6):=hP6.symm
 rw [← hP4] at H4 H9 s4 HHD
 rw [← hP6] at H6 s6 HHD
 clear hP4 hP6
 clear hok hrow f2 e1 e2 e3 e4 e5 e6 hc
 generalize headB id code typ true false name rs.length=HD at *
 generalize hln:rs.length=n at *
 have HLN:Hid (rs.length=n):=hln
 clear hln
 generalize numB id 2=X1 at *
 generalize numB (flg true false) 1=X2 at *
 generalize numB code 1=X3 at *
 obtain ⟨X4,hX4⟩:∃ X4,X4=P4:=⟨_,rfl⟩
 rw [← hX4] at H4V H4 H9 s4 HHD
 clear hX4
 generalize numB n 2=X5 at *
 obtain ⟨X6,hX6⟩:∃ X6,X6=P6:=⟨_,rfl⟩
 rw [← hX6] at H6V H6 s6 HHD
 clear hX6
 generalize nmB name=X7 at *
 generalize numB typ 2=X8 at *
 obtain ⟨X9,hX9⟩:∃ X9,X9=X4:=⟨_,rfl⟩
 rw [← hX9] at H9
 have s9:X9.size=2:=by rw [hX9];exact s4
 have HX9:Hid (X9=X4):=hX9
 clear hX9
 have z1:¬ 9223372036854775807 < 12+X7.size:=by omega
 have z2:¬ 9223372036854775807 < 12+X7.size+2:=by omega
 have z3:¬ 9223372036854775807 < 12+X7.size+2+2:=by omega
 have z4:¬ 9223372036854775807 < 12+X7.size+4:=by omega
 rw [show flg true false=128 from rfl] at *
 obtain ⟨w0,hw0⟩:∃ w0,w0=w.alloc (.cells #[.int .i64 id,.bool true,.bool false,.int .i64 code,.string name,.int .i64 typ,.slice pa n cap] 38):=⟨_,rfl⟩
 have hg0:w0.heap[w.heap.size]?=some (.cells #[.int .i64 id,.bool true,.bool false,.int .i64 code,.string name,.int .i64 typ,.slice pa n cap] 38 (0,0)):=by rw [hw0];exact heap_alloc_new w _
 have HB0:Hid (Below w.heap.size w w0):=(show Below _ _ _ by rw [hw0];exact (Below.refl _ _).alloc (Nat.le_refl _) _)
 go_enter Tryz.func48,Tryz.ntmps48
 go_wp2_with fail
 rw [← hw0]
 clear hw0
 have F0:∀ d os,(Go.Sort.grow (redrawn w0 d) os).cell? ⟨w.heap.size,0,none⟩=some (.int .i64 id):=cell_regrown (cellsAt hg0 0)
 have F3:∀ d os,(Go.Sort.grow (redrawn w0 d) os).cell? ⟨w.heap.size,3,none⟩=some (.int .i64 code):=cell_regrown (cellsAt hg0 3)
 have F4:∀ d os,(Go.Sort.grow (redrawn w0 d) os).cell? ⟨w.heap.size,4,none⟩=some (.string name):=cell_regrown (cellsAt hg0 4)
 have F5:∀ d os,(Go.Sort.grow (redrawn w0 d) os).cell? ⟨w.heap.size,5,none⟩=some (.int .i64 typ):=cell_regrown (cellsAt hg0 5)
 have F6:∀ d os,(Go.Sort.grow (redrawn w0 d) os).cell? ⟨w.heap.size,6,none⟩=some (.slice pa n cap):=cell_regrown (cellsAt hg0 6)
 have h1:∀ d os,Calls Tryz.prog 80 #[.int .i64 id,.int .i64 2] (Go.Sort.grow (redrawn w0 d) os) fun e w''=>e=.returned (.string X1)∧∃ p:Regrown,w''=Go.Sort.grow (redrawn w0 p.d) p.os:=fun d os=>Calls.regrown_of (H1.out _)
 have h2:∀ d os,Calls Tryz.prog 80 #[.int .i64 128,.int .i64 1] (Go.Sort.grow (redrawn w0 d) os) fun e w''=>e=.returned (.string X2)∧∃ p:Regrown,w''=Go.Sort.grow (redrawn w0 p.d) p.os:=fun d os=>Calls.regrown_of (H2.out _)
 have h3:∀ d os,Calls Tryz.prog 80 #[.int .i64 code,.int .i64 1] (Go.Sort.grow (redrawn w0 d) os) fun e w''=>e=.returned (.string X3)∧∃ p:Regrown,w''=Go.Sort.grow (redrawn w0 p.d) p.os:=fun d os=>Calls.regrown_of (H3.out _)
 have h4:∀ d os,Calls Tryz.prog 80 #[.int .i64 1,.int .i64 2] (Go.Sort.grow (redrawn w0 d) os) fun e w''=>e=.returned (.string X4)∧∃ p:Regrown,w''=Go.Sort.grow (redrawn w0 p.d) p.os:=fun d os=>Calls.regrown_of (H4.out _)
 have h5:∀ d os,Calls Tryz.prog 80 #[.int .i64 n,.int .i64 2] (Go.Sort.grow (redrawn w0 d) os) fun e w''=>e=.returned (.string X5)∧∃ p:Regrown,w''=Go.Sort.grow (redrawn w0 p.d) p.os:=fun d os=>Calls.regrown_of (H5.out _)
 have h6:∀ d os,Calls Tryz.prog 80 #[.int .i64 0,.int .i64 4] (Go.Sort.grow (redrawn w0 d) os) fun e w''=>e=.returned (.string X6)∧∃ p:Regrown,w''=Go.Sort.grow (redrawn w0 p.d) p.os:=fun d os=>Calls.regrown_of (H6.out _)
 have h7:∀ d os,Calls Tryz.prog 81 #[.string name] (Go.Sort.grow (redrawn w0 d) os) fun e w''=>e=.returned (.string X7)∧∃ p:Regrown,w''=Go.Sort.grow (redrawn w0 p.d) p.os:=fun d os=>Calls.regrown_of (H7.out _)
 have h8:∀ d os,Calls Tryz.prog 80 #[.int .i64 typ,.int .i64 2] (Go.Sort.grow (redrawn w0 d) os) fun e w''=>e=.returned (.string X8)∧∃ p:Regrown,w''=Go.Sort.grow (redrawn w0 p.d) p.os:=fun d os=>Calls.regrown_of (H8.out _)
 have h9:∀ d os,Calls Tryz.prog 80 #[.int .i64 1,.int .i64 2] (Go.Sort.grow (redrawn w0 d) os) fun e w''=>e=.returned (.string X9)∧∃ p:Regrown,w''=Go.Sort.grow (redrawn w0 p.d) p.os:=fun d os=>Calls.regrown_of (H9.out _)
 refine wp_region_quiet_below (by kernel_rfl) (by kernel_rfl) ?_
 repeat (quiet_step (fail))
 quiet_step (exact h1 _ _)
 repeat (quiet_step (fail))
 quiet_step (exact h2 _ _)
 repeat (quiet_step (fail))
 quiet_step (exact h3 _ _)
 repeat (quiet_step (fail))
 quiet_step (exact h4 _ _)
 repeat (quiet_step (fail))
 quiet_step (exact h5 _ _)
 repeat (quiet_step (fail))
 quiet_step (exact h6 _ _)
 repeat (quiet_step (fail))
 quiet_step (exact h7 _ _)
 repeat (quiet_step (fail))
 quiet_step (exact h8 _ _)
 repeat (quiet_step (fail))
 quiet_step (exact h9 _ _)
 repeat (quiet_step (fail))
 refine wpQuiet_nil ?_
 intro _ hw'
 obtain ⟨⟨dq,osq⟩,hw''⟩:=hw'
 subst hw''
 have HBQ:Hid (Below w0.heap.size w0 (Go.Sort.grow (redrawn w0 dq) osq)):=below_regrown w0 dq osq
 clear F0 F3 F4 F5 F6 h1 h2 h3 h4 h5 h6 h7 h8 h9
 generalize Go.Sort.grow (redrawn w0 dq) osq=w1 at *
 go_wp2_with fail
 have HG1:Hid (w1.heap[w.heap.size]?=some (.cells #[.int .i64 id,.bool true,.bool false,.int .i64 code,.string name,.int .i64 typ,.slice pa n cap] 38 (0,0))):=(HBQ.out.block _ (Array.getElem?_eq_some_iff.1 hg0).1).trans hg0
 have HB1:Hid (Below w.heap.size w w1):=HB0.out.trans (HBQ.out.mono HB0.out.size)
 clear hg0 HBQ HB0 H1 H2 H3 H5 H7 H8 s1 s2 s3 s4 s5 s6 s8 s9 z1 z2 z3 z4
 go_loopw [4,5] (fun sv iv wr=>∃ k:Nat,k≤n∧sv=.string (HD++recsB (rs.take k))∧iv=.int .i64 k∧Hid (Below w.heap.size w wr)∧Hid (wr.heap[w.heap.size]?=some (.cells #[.int .i64 id,.bool true,.bool false,.int .i64 code,.string name,.int .i64 typ,.slice pa n cap] 38 (0,0)))) (fun _ i _=>n - (intOf i).toNat)
 case atStart=>exact ⟨0,Nat.zero_le _,by rw [HHD.out,HX9.out];exact congrArg Value.string (app_nil _).symm,rfl,HB1,HG1⟩
 case round=>
  obtain ⟨k,hk,rfl,rfl,HBR,HGR⟩:=hrel
  have hsz:=HBR.out.size
  have g6:wr.cell? ⟨w.heap.size,6,none⟩=some (.slice pa n cap):=cellsAt HGR.out 6
  have hlw:w.heap.size < wr.heap.size:=(Array.getElem?_eq_some_iff.1 HGR.out).1
  by_cases hlt:k < n
  ·obtain ⟨b,off,hpa,hbw,hr⟩:∃ b off,pa=some ⟨b,off,none⟩∧b < w.heap.size∧Rc.Row w b off rs:=by
    rcases HROW.out with h | h
    ·have:=HLN.out;rw [h] at this;simp at this;omega
    ·exact h
   subst hpa
   obtain ⟨g0,g1,g2,g3,g4,g5,g7⟩:=hr k (by rw [HLN.out];exact hlt)
   have c0:=(HBR.out.cell (p:=⟨b,off+k * 7,none⟩) hbw).trans g0
   have c1:=(HBR.out.cell (p:=⟨b,off+k * 7+1,none⟩) hbw).trans g1
   have c2:=(HBR.out.cell (p:=⟨b,off+k * 7+2,none⟩) hbw).trans g2
   have c3:=(HBR.out.cell (p:=⟨b,off+k * 7+3,none⟩) hbw).trans g3
   have c4:=(HBR.out.cell (p:=⟨b,off+k * 7+4,none⟩) hbw).trans g4
   have c5:=(HBR.out.cell (p:=⟨b,off+k * 7+5,none⟩) hbw).trans g5
   have c6:=(HBR.out.cell (p:=⟨b,off+k * 7+6,none⟩) hbw).trans g7
   clear g0 g1 g2 g3 g4 g5 g7 hr
   have HSTEP:=HSTEPS.out k hlt
   have HSTEP:Hid ((HD++recsB (rs.take k))++recB (rs.getD k Rc.dm)=HD++recsB (rs.take (k+1))):=HSTEP
   have hss:=HSZ.out k
   have hcr:=HCR.out k hlt
   generalize rs.getD k Rc.dm=r at *
   obtain ⟨n1,n2,n3,n4⟩:=chkRec_facts hcr
   obtain ⟨⟨m1,m2⟩,⟨m3,m4⟩,m5,m6⟩:=recFacts hcr
   have HA1:Hid (∀ W,Calls Tryz.prog 81 #[.string r.name] W fun e w'=>e=.returned (.string (nmB r.name))∧Below W.heap.size W w'):=fun W=>nameBytes_any r.name W n1
   have htt:r.typ=1∨r.typ=16∨r.typ=33:=by
    have h:=n2
    simp only [typB,Bool.or_eq_true,decide_eq_true_eq,or_assoc] at h
    exact h
   have HA2:Hid (∀ W,Calls Tryz.prog 80 #[.int .i64 r.typ,.int .i64 2] W fun e w'=>e=.returned (.string (numB r.typ 2))∧Below W.heap.size W w'):=fun W=>number_any r.typ 2 W (by omega) (by omega) (by omega)
   have HA3:=H4
   have HA4:Hid (∀ W,Calls Tryz.prog 80 #[.int .i64 r.lasts,.int .i64 4] W fun e w'=>e=.returned (.string (numB r.lasts 4))∧Below W.heap.size W w'):=fun W=>number_any r.lasts 4 W m1 (by omega) (by omega)
   have HN4:Hid (∀ W,Calls Tryz.prog 80 #[.int .i64 r.addr,.int .i64 4] W fun e w'=>e=.returned (.string (numB r.addr 4))∧Below W.heap.size W w'):=fun W=>number_any r.addr 4 W m3 (by omega) (by omega)
   have HN1:Hid (∀ W,Calls Tryz.prog 80 #[.int .i64 r.text.size,.int .i64 1] W fun e w'=>e=.returned (.string (numB r.text.size 1))∧Below W.heap.size W w'):=fun W=>number_any r.text.size 1 W (by omega) (by omega) (by omega)
   have HN2:Hid (∀ W,Calls Tryz.prog 80 #[.int .i64 r.port,.int .i64 2] W fun e w'=>e=.returned (.string (numB r.port 2))∧Below W.heap.size W w'):=fun W=>number_any r.port 2 W m5 (by omega) (by omega)
   have HNT:Hid (∀ W,Calls Tryz.prog 81 #[.string r.target] W fun e w'=>e=.returned (.string (nmB r.target))∧Below W.heap.size W w'):=fun W=>nameBytes_any r.target W n4
   have HRB:Hid (recB r=nmB r.name++numB r.typ 2++X4++numB r.lasts 4++numB (datB r).size 2++datB r):=(show _=_ by rw [← H4V.out];rfl)
   have a1:=nmB_size n1
   have a2:(numB r.typ 2).size≤8:=by rw [numB_size];omega
   have a3:X4.size≤8:=by rw [← H4V.out,numB_size];omega
   have a4:(numB r.lasts 4).size≤8:=by rw [numB_size];omega
   have tz:=nmB_size n4
   have b4:(numB r.addr 4).size≤8:=by rw [numB_size];omega
   have b1:(numB r.text.size 1).size≤8:=by rw [numB_size];omega
   have b2:(numB r.port 2).size≤8:=by rw [numB_size];omega
   have b0:X6.size≤8:=by rw [← H6V.out,numB_size];omega
   have HD1:Hid (r.typ=1→datB r=numB r.addr 4):=fun h=>by unfold datB;rw [if_pos h]
   have HD2:Hid (r.typ=16→datB r=numB r.text.size 1++r.text):=fun h=>by unfold datB;rw [if_neg (by omega),if_pos h]
   have HD3:Hid (r.typ=33→datB r=X6++numB r.port 2++nmB r.target):=fun h=>by rw [← H6V.out];unfold datB;rw [if_neg (by omega),if_neg (by omega),if_pos h]
   generalize datB r=DB at *
   obtain ⟨S,hS⟩:∃ S,S=HD++recsB (rs.take k):=⟨_,rfl⟩
   rw [← hS] at hss ⊢
   have HS:Hid (S=HD++recsB (rs.take k)):=hS
   clear hS n1 n2 n4 m1 m2 m3 m4 m5 m6 hcr
   generalize nmB r.name=A1 at *
   generalize numB r.typ 2=A2 at *
   obtain ⟨A3,hA3⟩:∃ A3,A3=X4:=⟨_,rfl⟩
   rw [← hA3] at HA3 HRB a3
   clear hA3
   generalize numB r.lasts 4=A4 at *
   generalize nmB r.target=U3 at *
   generalize numB r.port 2=U2 at *
   generalize numB r.text.size 1=Y at *
   generalize numB r.addr 4=V4 at *
   have hd:decide ((k:Int) < (n:Int))=true:=by simp;omega
   have hi0:(0:Int)≤(k:Int):=by omega
   have hi1:(k:Int) < (n:Int):=by omega
   have hi2:((k:Int)).toNat=k:=by omega
   obtain ⟨wx,hwx⟩:∃ wx,wx=wr.alloc (.cells #[.string r.name,.int .i64 r.typ,.int .i64 r.lasts,.int .i64 r.addr,.string r.text,.int .i64 r.port,.string r.target] 59):=⟨_,rfl⟩
   have hgX:wx.heap[wr.heap.size]?=some (.cells #[.string r.name,.int .i64 r.typ,.int .i64 r.lasts,.int .i64 r.addr,.string r.text,.int .i64 r.port,.string r.target] 59 (0,0)):=by rw [hwx];exact heap_alloc_new wr _
   have HBX:Hid (Below w.heap.size w wx):=(show Below _ _ _ by rw [hwx];exact HBR.out.alloc hsz _)
   have HGX:Hid (wx.heap[w.heap.size]?=some (.cells #[.int .i64 id,.bool true,.bool false,.int .i64 code,.string name,.int .i64 typ,.slice (some ⟨b,off,none⟩) n cap] 38 (0,0))):=(show _=_ by rw [hwx];exact (Lib.alloc_old wr _ _ hlw).trans HGR.out)
   have hXs:wr.heap.size≤wx.heap.size:=by rw [hwx];simp
   rcases htt with ht | ht | ht
   ·have t1:(r.typ == 1)=true:=by rw [ht];rfl
    have HDE:Hid (DB=V4):=HD1.out ht
    clear ht HD1 HD2 HD3
    go_wp2_with fail
    rw [← hwx]
    clear hwx c0 c1 c2 c3 c4 c5 c6 g6
    refine (HN4.out _).mono ?_
    rintro e w2 ⟨rfl,hb2⟩
    have hgX:w2.heap[wr.heap.size]?=some (.cells #[.string r.name,.int .i64 r.typ,.int .i64 r.lasts,.int .i64 r.addr,.string r.text,.int .i64 r.port,.string r.target] 59 (0,0)):=(hb2.block _ (Array.getElem?_eq_some_iff.1 hgX).1).trans hgX
    have HGX:Hid (w2.heap[w.heap.size]?=some (.cells #[.int .i64 id,.bool true,.bool false,.int .i64 code,.string name,.int .i64 typ,.slice (some ⟨b,off,none⟩) n cap] 38 (0,0))):=(hb2.block _ (Nat.lt_of_lt_of_le hlw hXs)).trans HGX.out
    have HBX:Hid (Below w.heap.size w w2):=HBX.out.trans (hb2.mono (Nat.le_trans hsz hXs))
    have hXs:wr.heap.size≤w2.heap.size:=Nat.le_trans hXs hb2.size
    clear hb2
    have HZN:Hid (∀ W,Calls Tryz.prog 80 #[.int .i64 V4.size,.int .i64 2] W fun e w'=>e=.returned (.string (numB V4.size 2))∧Below W.heap.size W w'):=fun W=>number_any V4.size 2 W (by omega) (by omega) (by omega)
    have HR5:Hid (S++(A1++A2++A3++A4++numB V4.size 2++V4)=HD++recsB (rs.take (k+1))):=(show _=_ by rw [← HSTEP.out,HRB.out,HDE.out,HS.out])
    have z5:(numB V4.size 2).size≤8:=by rw [numB_size];omega
    generalize numB V4.size 2=A5 at *
    have y1:¬ 9223372036854775807 < A1.size+A2.size:=by omega
    have y2:¬ 9223372036854775807 < A1.size+A2.size+A3.size:=by omega
    have y3:¬ 9223372036854775807 < A1.size+A2.size+A3.size+A4.size:=by omega
    have y4:¬ 9223372036854775807 < A1.size+A2.size+A3.size+A4.size+A5.size:=by omega
    have y5:¬ 9223372036854775807 < A1.size+A2.size+A3.size+A4.size+A5.size+V4.size:=by omega
    have y6:¬ 9223372036854775807 < S.size+(A1.size+A2.size+A3.size+A4.size+A5.size+V4.size):=by omega
    go_wp2_with fail
    have F0:∀ d os,(Go.Sort.grow (redrawn w2 d) os).cell? ⟨wr.heap.size,0,none⟩=some (.string r.name):=cell_regrown (cellsAt hgX 0)
    have F1:∀ d os,(Go.Sort.grow (redrawn w2 d) os).cell? ⟨wr.heap.size,1,none⟩=some (.int .i64 r.typ):=cell_regrown (cellsAt hgX 1)
    have F2:∀ d os,(Go.Sort.grow (redrawn w2 d) os).cell? ⟨wr.heap.size,2,none⟩=some (.int .i64 r.lasts):=cell_regrown (cellsAt hgX 2)
    have q1:∀ d os,Calls Tryz.prog 81 #[.string r.name] (Go.Sort.grow (redrawn w2 d) os) fun e w''=>e=.returned (.string A1)∧∃ p:Regrown,w''=Go.Sort.grow (redrawn w2 p.d) p.os:=fun d os=>Calls.regrown_of (HA1.out _)
    have q2:∀ d os,Calls Tryz.prog 80 #[.int .i64 r.typ,.int .i64 2] (Go.Sort.grow (redrawn w2 d) os) fun e w''=>e=.returned (.string A2)∧∃ p:Regrown,w''=Go.Sort.grow (redrawn w2 p.d) p.os:=fun d os=>Calls.regrown_of (HA2.out _)
    have q3:∀ d os,Calls Tryz.prog 80 #[.int .i64 1,.int .i64 2] (Go.Sort.grow (redrawn w2 d) os) fun e w''=>e=.returned (.string A3)∧∃ p:Regrown,w''=Go.Sort.grow (redrawn w2 p.d) p.os:=fun d os=>Calls.regrown_of (HA3.out _)
    have q4:∀ d os,Calls Tryz.prog 80 #[.int .i64 r.lasts,.int .i64 4] (Go.Sort.grow (redrawn w2 d) os) fun e w''=>e=.returned (.string A4)∧∃ p:Regrown,w''=Go.Sort.grow (redrawn w2 p.d) p.os:=fun d os=>Calls.regrown_of (HA4.out _)
    have q5:∀ d os,Calls Tryz.prog 80 #[.int .i64 V4.size,.int .i64 2] (Go.Sort.grow (redrawn w2 d) os) fun e w''=>e=.returned (.string A5)∧∃ p:Regrown,w''=Go.Sort.grow (redrawn w2 p.d) p.os:=fun d os=>Calls.regrown_of (HZN.out _)
    refine wp_region_quiet_below (by kernel_rfl) (by kernel_rfl) ?_
    repeat (quiet_step (fail))
    quiet_step (exact q1 _ _)
    repeat (quiet_step (fail))
    quiet_step (exact q2 _ _)
    repeat (quiet_step (fail))
    quiet_step (exact q3 _ _)
    repeat (quiet_step (fail))
    quiet_step (exact q4 _ _)
    repeat (quiet_step (fail))
    quiet_step (exact q5 _ _)
    repeat (quiet_step (fail))
    refine wpQuiet_nil ?_
    intro _ hw'
    obtain ⟨⟨dq,osq⟩,hw''⟩:=hw'
    subst hw''
    have HBQ:Hid (Below w2.heap.size w2 (Go.Sort.grow (redrawn w2 dq) osq)):=below_regrown w2 dq osq
    clear F0 F1 F2 q1 q2 q3 q4 q5
    generalize Go.Sort.grow (redrawn w2 dq) osq=wz at *
    have HBF:Hid (Below w.heap.size w wz):=HBX.out.trans (HBQ.out.mono (Nat.le_trans hsz hXs))
    have HGF:Hid (wz.heap[w.heap.size]?=some (.cells #[.int .i64 id,.bool true,.bool false,.int .i64 code,.string name,.int .i64 typ,.slice (some ⟨b,off,none⟩) n cap] 38 (0,0))):=(HBQ.out.block _ (Nat.lt_of_lt_of_le hlw hXs)).trans HGX.out
    clear HBQ
    go_wp2_with fail
    exact ⟨⟨k+1,by omega,by rw [HR5.out],by go_num,HBF,HGF⟩,by simp [intOf];omega⟩
   ·have t1:(r.typ == 1)=false:=by rw [ht];rfl
    have t2:(r.typ == 16)=true:=by rw [ht];rfl
    have HDE:Hid (DB=Y++r.text):=HD2.out ht
    have y0:¬ 9223372036854775807 < Y.size+r.text.size:=by omega
    clear ht HD1 HD2 HD3
    go_wp2_with fail
    rw [← hwx]
    clear hwx c0 c1 c2 c3 c4 c5 c6 g6
    have F4:∀ d os,(Go.Sort.grow (redrawn wx d) os).cell? ⟨wr.heap.size,4,none⟩=some (.string r.text):=cell_regrown (cellsAt hgX 4)
    have q1:∀ d os,Calls Tryz.prog 80 #[.int .i64 r.text.size,.int .i64 1] (Go.Sort.grow (redrawn wx d) os) fun e w''=>e=.returned (.string Y)∧∃ p:Regrown,w''=Go.Sort.grow (redrawn wx p.d) p.os:=fun d os=>Calls.regrown_of (HN1.out _)
    refine wp_region_quiet_below (by kernel_rfl) (by kernel_rfl) ?_
    repeat (quiet_step (fail))
    quiet_step (exact q1 _ _)
    repeat (quiet_step (fail))
    refine wpQuiet_nil ?_
    intro _ hw'
    obtain ⟨⟨dq,osq⟩,hw''⟩:=hw'
    subst hw''
    have HBQ:Hid (Below wx.heap.size wx (Go.Sort.grow (redrawn wx dq) osq)):=below_regrown wx dq osq
    clear F4 q1
    generalize Go.Sort.grow (redrawn wx dq) osq=w2 at *
    have hgX:w2.heap[wr.heap.size]?=some (.cells #[.string r.name,.int .i64 r.typ,.int .i64 r.lasts,.int .i64 r.addr,.string r.text,.int .i64 r.port,.string r.target] 59 (0,0)):=(HBQ.out.block _ (Array.getElem?_eq_some_iff.1 hgX).1).trans hgX
    have HGX:Hid (w2.heap[w.heap.size]?=some (.cells #[.int .i64 id,.bool true,.bool false,.int .i64 code,.string name,.int .i64 typ,.slice (some ⟨b,off,none⟩) n cap] 38 (0,0))):=(HBQ.out.block _ (Nat.lt_of_lt_of_le hlw hXs)).trans HGX.out
    have HBX:Hid (Below w.heap.size w w2):=HBX.out.trans (HBQ.out.mono (Nat.le_trans hsz hXs))
    have hXs:wr.heap.size≤w2.heap.size:=Nat.le_trans hXs HBQ.out.size
    clear HBQ
    have zz:(Y++r.text).size≤300:=by rw [ByteArray.size_append];omega
    generalize Y++r.text=Z at *
    have HZN:Hid (∀ W,Calls Tryz.prog 80 #[.int .i64 Z.size,.int .i64 2] W fun e w'=>e=.returned (.string (numB Z.size 2))∧Below W.heap.size W w'):=fun W=>number_any Z.size 2 W (by omega) (by omega) (by omega)
    have HR5:Hid (S++(A1++A2++A3++A4++numB Z.size 2++Z)=HD++recsB (rs.take (k+1))):=(show _=_ by rw [← HSTEP.out,HRB.out,HDE.out,HS.out])
    have z5:(numB Z.size 2).size≤8:=by rw [numB_size];omega
    generalize numB Z.size 2=A5 at *
    have y1:¬ 9223372036854775807 < A1.size+A2.size:=by omega
    have y2:¬ 9223372036854775807 < A1.size+A2.size+A3.size:=by omega
    have y3:¬ 9223372036854775807 < A1.size+A2.size+A3.size+A4.size:=by omega
    have y4:¬ 9223372036854775807 < A1.size+A2.size+A3.size+A4.size+A5.size:=by omega
    have y5:¬ 9223372036854775807 < A1.size+A2.size+A3.size+A4.size+A5.size+Z.size:=by omega
    have y6:¬ 9223372036854775807 < S.size+(A1.size+A2.size+A3.size+A4.size+A5.size+Z.size):=by omega
    go_wp2_with fail
    have F0:∀ d os,(Go.Sort.grow (redrawn w2 d) os).cell? ⟨wr.heap.size,0,none⟩=some (.string r.name):=cell_regrown (cellsAt hgX 0)
    have F1:∀ d os,(Go.Sort.grow (redrawn w2 d) os).cell? ⟨wr.heap.size,1,none⟩=some (.int .i64 r.typ):=cell_regrown (cellsAt hgX 1)
    have F2:∀ d os,(Go.Sort.grow (redrawn w2 d) os).cell? ⟨wr.heap.size,2,none⟩=some (.int .i64 r.lasts):=cell_regrown (cellsAt hgX 2)
    have q1:∀ d os,Calls Tryz.prog 81 #[.string r.name] (Go.Sort.grow (redrawn w2 d) os) fun e w''=>e=.returned (.string A1)∧∃ p:Regrown,w''=Go.Sort.grow (redrawn w2 p.d) p.os:=fun d os=>Calls.regrown_of (HA1.out _)
    have q2:∀ d os,Calls Tryz.prog 80 #[.int .i64 r.typ,.int .i64 2] (Go.Sort.grow (redrawn w2 d) os) fun e w''=>e=.returned (.string A2)∧∃ p:Regrown,w''=Go.Sort.grow (redrawn w2 p.d) p.os:=fun d os=>Calls.regrown_of (HA2.out _)
    have q3:∀ d os,Calls Tryz.prog 80 #[.int .i64 1,.int .i64 2] (Go.Sort.grow (redrawn w2 d) os) fun e w''=>e=.returned (.string A3)∧∃ p:Regrown,w''=Go.Sort.grow (redrawn w2 p.d) p.os:=fun d os=>Calls.regrown_of (HA3.out _)
    have q4:∀ d os,Calls Tryz.prog 80 #[.int .i64 r.lasts,.int .i64 4] (Go.Sort.grow (redrawn w2 d) os) fun e w''=>e=.returned (.string A4)∧∃ p:Regrown,w''=Go.Sort.grow (redrawn w2 p.d) p.os:=fun d os=>Calls.regrown_of (HA4.out _)
    have q5:∀ d os,Calls Tryz.prog 80 #[.int .i64 Z.size,.int .i64 2] (Go.Sort.grow (redrawn w2 d) os) fun e w''=>e=.returned (.string A5)∧∃ p:Regrown,w''=Go.Sort.grow (redrawn w2 p.d) p.os:=fun d os=>Calls.regrown_of (HZN.out _)
    refine wp_region_quiet_below (by kernel_rfl) (by kernel_rfl) ?_
    repeat (quiet_step (fail))
    quiet_step (exact q1 _ _)
    repeat (quiet_step (fail))
    quiet_step (exact q2 _ _)
    repeat (quiet_step (fail))
    quiet_step (exact q3 _ _)
    repeat (quiet_step (fail))
    quiet_step (exact q4 _ _)
    repeat (quiet_step (fail))
    quiet_step (exact q5 _ _)
    repeat (quiet_step (fail))
    refine wpQuiet_nil ?_
    intro _ hw'
    obtain ⟨⟨dq,osq⟩,hw''⟩:=hw'
    subst hw''
    have HBQ:Hid (Below w2.heap.size w2 (Go.Sort.grow (redrawn w2 dq) osq)):=below_regrown w2 dq osq
    clear F0 F1 F2 q1 q2 q3 q4 q5
    generalize Go.Sort.grow (redrawn w2 dq) osq=wz at *
    have HBF:Hid (Below w.heap.size w wz):=HBX.out.trans (HBQ.out.mono (Nat.le_trans hsz hXs))
    have HGF:Hid (wz.heap[w.heap.size]?=some (.cells #[.int .i64 id,.bool true,.bool false,.int .i64 code,.string name,.int .i64 typ,.slice (some ⟨b,off,none⟩) n cap] 38 (0,0))):=(HBQ.out.block _ (Nat.lt_of_lt_of_le hlw hXs)).trans HGX.out
    clear HBQ
    go_wp2_with fail
    exact ⟨⟨k+1,by omega,by rw [HR5.out],by go_num,HBF,HGF⟩,by simp [intOf];omega⟩
   ·have t1:(r.typ == 1)=false:=by rw [ht];rfl
    have t2:(r.typ == 16)=false:=by rw [ht];rfl
    have t3:(r.typ == 33)=true:=by rw [ht];rfl
    have HDE:Hid (DB=X6++U2++U3):=HD3.out ht
    have y0:¬ 9223372036854775807 < X6.size+U2.size:=by omega
    have y9:¬ 9223372036854775807 < X6.size+U2.size+U3.size:=by omega
    clear ht HD1 HD2 HD3
    go_wp2_with fail
    rw [← hwx]
    clear hwx c0 c1 c2 c3 c4 c5 c6 g6
    have F5:∀ d os,(Go.Sort.grow (redrawn wx d) os).cell? ⟨wr.heap.size,5,none⟩=some (.int .i64 r.port):=cell_regrown (cellsAt hgX 5)
    have F6:∀ d os,(Go.Sort.grow (redrawn wx d) os).cell? ⟨wr.heap.size,6,none⟩=some (.string r.target):=cell_regrown (cellsAt hgX 6)
    have q1:∀ d os,Calls Tryz.prog 80 #[.int .i64 0,.int .i64 4] (Go.Sort.grow (redrawn wx d) os) fun e w''=>e=.returned (.string X6)∧∃ p:Regrown,w''=Go.Sort.grow (redrawn wx p.d) p.os:=fun d os=>Calls.regrown_of (H6.out _)
    have q2:∀ d os,Calls Tryz.prog 80 #[.int .i64 r.port,.int .i64 2] (Go.Sort.grow (redrawn wx d) os) fun e w''=>e=.returned (.string U2)∧∃ p:Regrown,w''=Go.Sort.grow (redrawn wx p.d) p.os:=fun d os=>Calls.regrown_of (HN2.out _)
    have q3:∀ d os,Calls Tryz.prog 81 #[.string r.target] (Go.Sort.grow (redrawn wx d) os) fun e w''=>e=.returned (.string U3)∧∃ p:Regrown,w''=Go.Sort.grow (redrawn wx p.d) p.os:=fun d os=>Calls.regrown_of (HNT.out _)
    refine wp_region_quiet_below (by kernel_rfl) (by kernel_rfl) ?_
    repeat (quiet_step (fail))
    quiet_step (exact q1 _ _)
    repeat (quiet_step (fail))
    quiet_step (exact q2 _ _)
    repeat (quiet_step (fail))
    quiet_step (exact q3 _ _)
    repeat (quiet_step (fail))
    refine wpQuiet_nil ?_
    intro _ hw'
    obtain ⟨⟨dq,osq⟩,hw''⟩:=hw'
    subst hw''
    have HBQ:Hid (Below wx.heap.size wx (Go.Sort.grow (redrawn wx dq) osq)):=below_regrown wx dq osq
    clear F5 F6 q1 q2 q3
    generalize Go.Sort.grow (redrawn wx dq) osq=w2 at *
    have hgX:w2.heap[wr.heap.size]?=some (.cells #[.string r.name,.int .i64 r.typ,.int .i64 r.lasts,.int .i64 r.addr,.string r.text,.int .i64 r.port,.string r.target] 59 (0,0)):=(HBQ.out.block _ (Array.getElem?_eq_some_iff.1 hgX).1).trans hgX
    have HGX:Hid (w2.heap[w.heap.size]?=some (.cells #[.int .i64 id,.bool true,.bool false,.int .i64 code,.string name,.int .i64 typ,.slice (some ⟨b,off,none⟩) n cap] 38 (0,0))):=(HBQ.out.block _ (Nat.lt_of_lt_of_le hlw hXs)).trans HGX.out
    have HBX:Hid (Below w.heap.size w w2):=HBX.out.trans (HBQ.out.mono (Nat.le_trans hsz hXs))
    have hXs:wr.heap.size≤w2.heap.size:=Nat.le_trans hXs HBQ.out.size
    clear HBQ
    have zz:(X6++U2++U3).size≤300:=by rw [ByteArray.size_append,ByteArray.size_append];omega
    generalize X6++U2++U3=Z at *
    have HZN:Hid (∀ W,Calls Tryz.prog 80 #[.int .i64 Z.size,.int .i64 2] W fun e w'=>e=.returned (.string (numB Z.size 2))∧Below W.heap.size W w'):=fun W=>number_any Z.size 2 W (by omega) (by omega) (by omega)
    have HR5:Hid (S++(A1++A2++A3++A4++numB Z.size 2++Z)=HD++recsB (rs.take (k+1))):=(show _=_ by rw [← HSTEP.out,HRB.out,HDE.out,HS.out])
    have z5:(numB Z.size 2).size≤8:=by rw [numB_size];omega
    generalize numB Z.size 2=A5 at *
    have y1:¬ 9223372036854775807 < A1.size+A2.size:=by omega
    have y2:¬ 9223372036854775807 < A1.size+A2.size+A3.size:=by omega
    have y3:¬ 9223372036854775807 < A1.size+A2.size+A3.size+A4.size:=by omega
    have y4:¬ 9223372036854775807 < A1.size+A2.size+A3.size+A4.size+A5.size:=by omega
    have y5:¬ 9223372036854775807 < A1.size+A2.size+A3.size+A4.size+A5.size+Z.size:=by omega
    have y6:¬ 9223372036854775807 < S.size+(A1.size+A2.size+A3.size+A4.size+A5.size+Z.size):=by omega
    go_wp2_with fail
    have F0:∀ d os,(Go.Sort.grow (redrawn w2 d) os).cell? ⟨wr.heap.size,0,none⟩=some (.string r.name):=cell_regrown (cellsAt hgX 0)
    have F1:∀ d os,(Go.Sort.grow (redrawn w2 d) os).cell? ⟨wr.heap.size,1,none⟩=some (.int .i64 r.typ):=cell_regrown (cellsAt hgX 1)
    have F2:∀ d os,(Go.Sort.grow (redrawn w2 d) os).cell? ⟨wr.heap.size,2,none⟩=some (.int .i64 r.lasts):=cell_regrown (cellsAt hgX 2)
    have q1:∀ d os,Calls Tryz.prog 81 #[.string r.name] (Go.Sort.grow (redrawn w2 d) os) fun e w''=>e=.returned (.string A1)∧∃ p:Regrown,w''=Go.Sort.grow (redrawn w2 p.d) p.os:=fun d os=>Calls.regrown_of (HA1.out _)
    have q2:∀ d os,Calls Tryz.prog 80 #[.int .i64 r.typ,.int .i64 2] (Go.Sort.grow (redrawn w2 d) os) fun e w''=>e=.returned (.string A2)∧∃ p:Regrown,w''=Go.Sort.grow (redrawn w2 p.d) p.os:=fun d os=>Calls.regrown_of (HA2.out _)
    have q3:∀ d os,Calls Tryz.prog 80 #[.int .i64 1,.int .i64 2] (Go.Sort.grow (redrawn w2 d) os) fun e w''=>e=.returned (.string A3)∧∃ p:Regrown,w''=Go.Sort.grow (redrawn w2 p.d) p.os:=fun d os=>Calls.regrown_of (HA3.out _)
    have q4:∀ d os,Calls Tryz.prog 80 #[.int .i64 r.lasts,.int .i64 4] (Go.Sort.grow (redrawn w2 d) os) fun e w''=>e=.returned (.string A4)∧∃ p:Regrown,w''=Go.Sort.grow (redrawn w2 p.d) p.os:=fun d os=>Calls.regrown_of (HA4.out _)
    have q5:∀ d os,Calls Tryz.prog 80 #[.int .i64 Z.size,.int .i64 2] (Go.Sort.grow (redrawn w2 d) os) fun e w''=>e=.returned (.string A5)∧∃ p:Regrown,w''=Go.Sort.grow (redrawn w2 p.d) p.os:=fun d os=>Calls.regrown_of (HZN.out _)
    refine wp_region_quiet_below (by kernel_rfl) (by kernel_rfl) ?_
    repeat (quiet_step (fail))
    quiet_step (exact q1 _ _)
    repeat (quiet_step (fail))
    quiet_step (exact q2 _ _)
    repeat (quiet_step (fail))
    quiet_step (exact q3 _ _)
    repeat (quiet_step (fail))
    quiet_step (exact q4 _ _)
    repeat (quiet_step (fail))
    quiet_step (exact q5 _ _)
    repeat (quiet_step (fail))
    refine wpQuiet_nil ?_
    intro _ hw'
    obtain ⟨⟨dq,osq⟩,hw''⟩:=hw'
    subst hw''
    have HBQ:Hid (Below w2.heap.size w2 (Go.Sort.grow (redrawn w2 dq) osq)):=below_regrown w2 dq osq
    clear F0 F1 F2 q1 q2 q3 q4 q5
    generalize Go.Sort.grow (redrawn w2 dq) osq=wz at *
    have HBF:Hid (Below w.heap.size w wz):=HBX.out.trans (HBQ.out.mono (Nat.le_trans hsz hXs))
    have HGF:Hid (wz.heap[w.heap.size]?=some (.cells #[.int .i64 id,.bool true,.bool false,.int .i64 code,.string name,.int .i64 typ,.slice (some ⟨b,off,none⟩) n cap] 38 (0,0))):=(HBQ.out.block _ (Nat.lt_of_lt_of_le hlw hXs)).trans HGX.out
    clear HBQ
    go_wp2_with fail
    exact ⟨⟨k+1,by omega,by rw [HR5.out],by go_num,HBF,HGF⟩,by simp [intOf];omega⟩
  ·have hkn:k=n:=by omega
   have HF:Hid (HD++recsB (rs.take k)=HD++recsB rs):=(show _=_ by rw [hkn,← HLN.out,List.take_length])
   have hd:decide ((k:Int) < (n:Int))=false:=by simp;omega
   clear hkn
   go_wp2_with fail
   go_ret
   exact ⟨by rw [← HF.out];rfl,HBR.out⟩
end Go.Proofs.YtignmeaeibaejaaGreatDoor
