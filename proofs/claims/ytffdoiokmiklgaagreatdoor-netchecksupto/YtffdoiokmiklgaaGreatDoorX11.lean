import Derived.Test.YtffdoiokmiklgaaGreatDoorX8
namespace Go.Proofs.YtffdoiokmiklgaaGreatDoor
open Go.RowKit
theorem stg_len {a b:List Mem} (hla:a.length≤20) (hlb:b.length≤20) (k:Nat):(stg a b k).length≤40:=by
 unfold stg
 split
 ·simp
 ·split
  ·omega
  ·have:=joinL_len b a;omega
structure Kth (w:World) (pb:Nat) (a b:List Mem) (k:Nat) (l:List Mem) (pk:Option Addr) (ck:Nat):Prop where
 cell:w.cell? ⟨pb,k,none⟩=some (.slice pk l.length ck)
 row:l=[]∨∃ b off,pk=some ⟨b,off,none⟩∧b < w.heap.size∧Row w b off l
 oks:∀ m∈l,(m).name.size≤maxLen
 len:l.length≤20
 len0:(stg a b k).length≤20
 rise0:Rise (stg a b k)
 oks0:∀ m∈stg a b k,(m).name.size≤maxLen
 step:stg a b (k+1)=joinL (stg a b k) l
theorem kth_of {a b:List Mem} {va vb:Value} {pb:Nat} {w:World} (ha:Sl w va a) (hb:Sl w vb b) (hc0:w.cell? ⟨pb,0,none⟩=some va) (hc1:w.cell? ⟨pb,1,none⟩=some vb) (hla:a.length≤20) (hlb:b.length≤20) (ra:Rise a) (k:Nat) (hk:k < 2) :
 ∃ l pk ck,Kth w pb a b k l pk ck:=by
 obtain ⟨pa,ca,rfl,nsa,ha⟩:=ha
 obtain ⟨pv,cb,rfl,nsb,hb⟩:=hb
 have hcases:k=0∨k=1:=by omega
 rcases hcases with rfl | rfl
 ·exact ⟨a,pa,ca,hc0,ha,ns_mem nsa,hla,by simp [stg],by simp [stg],by simp [stg],(joinL_nil a ra).symm⟩
 ·exact ⟨b,pv,cb,hc1,hb,ns_mem nsb,hlb,hla,ra,ns_mem nsa,rfl⟩
set_option maxHeartbeats 4000000 in
set_option maxRecDepth 100000 in
theorem rjoin_two (a b:List Mem) (va vb:Value) (pb cap:Nat) (w:World) (ha:Sl w va a) (hb:Sl w vb b) (hpb:pb < w.heap.size) (hc0:w.cell? ⟨pb,0,none⟩=some va) (hc1:w.cell? ⟨pb,1,none⟩=some vb)
 (hla:a.length≤20) (hlb:b.length≤20) (ra:Rise a) :
 Calls Tryz.prog 235 #[.func (.func 179) #[] #[],.func (.func 234) #[] #[],.slice (some ⟨pb,0,none⟩) 2 cap] w fun e w'=>∃ v',e=.returned v'∧Own w.heap.size w' v' (joinL a b)∧Below w.heap.size w w':=by
 have HK:Hid (∀ k,k < 2→∃ l pk ck,Kth w pb a b k l pk ck):=fun k hk=>kth_of ha hb hc0 hc1 hla hlb ra k hk
 have HL2:Hid (∀ k,(stg a b k).length≤40):=stg_len hla hlb
 clear ha hb hc0 hc1 hla hlb ra
 go_enter Tryz.func235,Tryz.ntmps235
 go_wp2_with fail
 go_loopw [7,16] (fun kn i w'=>∃ k:Nat,k≤2∧i=.int .i64 k∧Below w.heap.size w w'∧Hid (Own w.heap.size w' kn (stg a b k))) (fun _ i _=>2 - (intOf i).toNat)
 case atStart=>exact ⟨0,by omega,rfl,Below.refl _ _,own_nil _ _⟩
 case round=>
  obtain ⟨k,hk,rfl,hbl,HO⟩:=hrel
  obtain ⟨hbc,hbf⟩:=bcell hbl
  have hsz:=hbl.size
  by_cases hk2:k < 2
  ·obtain ⟨l,pk,ck,hKth⟩:=HK.out k hk2
   have HKT:Hid (Kth w pb a b k l pk ck):=hKth
   have hcell:=hKth.cell
   clear hKth
   generalize hnl:l.length=nl at *
   have HNL:Hid (l.length=nl):=hnl
   clear hnl
   have hnl40:nl≤20:=by have:=HKT.out.len;have:=HNL.out;omega
   have hk2':(k:Int) < 2:=by omega
   go_wp2_with fail
   go_loopw [7,22] (fun kn j w'=>∃ q:Nat,q≤nl∧j=.int .i64 q∧Below w.heap.size w w'∧Hid (Own w.heap.size w' kn (joinL (stg a b k) (l.take q)))) (fun _ j _=>nl - (intOf j).toNat)
   case atStart=>exact ⟨0,Nat.zero_le _,rfl,hbl,HO⟩
   case round=>
    clear hbc hbf hsz hbl HO hcell
    obtain ⟨q,hq,rfl,hbl,HO⟩:=hrel
    obtain ⟨hbc,hbf⟩:=bcell hbl
    have hsz:=hbl.size
    by_cases hlt:q < nl
    ·obtain ⟨b2,off,hptr,hpl,hrow⟩:∃ b_1 off,pk=some ⟨b_1,off,none⟩∧b_1 < w.heap.size∧Row w b_1 off l:=by
      rcases HKT.out.row with h | h
      ·have:=HNL.out;rw [h] at this;simp at this;omega
      ·exact h
     subst hptr
     obtain ⟨c0,c1,c2,c3,c4⟩:=hrow q (by rw [HNL.out];exact hlt)
     clear hrow
     have HJ:Hid (joinL (stg a b k) (l.take (q+1))=hearL (joinL (stg a b k) (l.take q)) (l.getD q dm)):=joinL_take (stg a b k) l q (by rw [HNL.out];exact hlt)
     have HR:Hid (Rise (joinL (stg a b k) (l.take q))):=joinL_rise _ _ HKT.out.rise0
     have HNs:Hid (∀ j,((joinL (stg a b k) (l.take q)).getD j dm).name.size≤maxLen):=ns_get (ns_join _ _ HKT.out.oks0 (fun x hx=>HKT.out.oks x (List.mem_of_mem_take hx)))
     have HL:Hid ((joinL (stg a b k) (l.take q)).length≤40):=by
      have h1:=joinL_len (l.take q) (stg a b k)
      have h2:(l.take q).length≤q:=List.length_take_le _ _
      have h3:=HKT.out.len0
      show (joinL (stg a b k) (l.take q)).length≤40
      omega
     generalize l.getD q dm=m at *
     generalize joinL (stg a b k) (l.take q)=known at *
     have hl40:known.length≤40:=HL.out
     obtain ⟨W1,hW1⟩:∃ W1,W1=wr.alloc (.cells #[.string m.name,.int .i64 m.state,.int .i64 m.life,.int .i64 m.addr,.bool m.server] 56):=⟨_,rfl⟩
     have hb1:Below wr.heap.size wr W1:=by rw [hW1];exact (Below.refl _ _).alloc (Nat.le_refl _) _
     have hs1:W1.heap.size=wr.heap.size+1:=by rw [hW1];simp
     have hg1:W1.heap[wr.heap.size]?=some (.cells #[.string m.name,.int .i64 m.state,.int .i64 m.life,.int .i64 m.addr,.bool m.server] 56 (0,0)):=by rw [hW1];exact heap_alloc_new wr _
     have HO1:Hid (Own w.heap.size W1 u7 known):=HO.out.below hb1
     have HF:Hid (Calls Tryz.prog 237 #[u7,.agg #[.string m.name,.int .i64 m.state,.int .i64 m.life,.int .i64 m.addr,.bool m.server],.func (.func 179) #[] #[]] W1 fun e w'=>∃ (p:Nat) (f:Bool),e=.returned (.tuple #[.int .i64 p,.bool f])∧Below W1.heap.size W1 w'∧At known m.name p f):=
      find_any known u7 m W1 (HO1.out.sl HNs.out) HL.out HR.out
     have HB1:Hid (Below w.heap.size w W1):=hbl.trans (hb1.mono hsz)
     have HT:Hid (∀ o,W1.cell? ⟨wr.heap.size,o,none⟩=#[.string m.name,.int .i64 m.state,.int .i64 m.life,.int .i64 m.addr,.bool m.server][o]?):=fun o=>cellsAt hg1 o
     have HW1:Hid (W1=wr.alloc (.cells #[.string m.name,.int .i64 m.state,.int .i64 m.life,.int .i64 m.addr,.bool m.server] 56)):=hW1
     have hs1':w.heap.size≤W1.heap.size:=by omega
     clear hg1 hb1 HO HL HR hW1
     go_wp2_with fail
     rw [← HW1.out]
     refine HF.out.mono ?_
     rintro e w2 ⟨p,f,rfl,hb2,hat⟩
     have HAT:Hid (At known m.name p f):=hat
     have hpl2:p≤known.length:=hat.le
     have hsz2:=hb2.size
     have HO2:Hid (Own w.heap.size w2 u7 known):=HO1.out.below hb2
     have HB2:Hid (Below w.heap.size w w2):=HB1.out.trans (hb2.mono hs1')
     have t0:w2.cell? ⟨wr.heap.size,0,none⟩=some (.string m.name):=(hb2.cell (p:=⟨wr.heap.size,0,none⟩) (by show wr.heap.size < W1.heap.size;omega)).trans (HT.out 0)
     have t1:w2.cell? ⟨wr.heap.size,1,none⟩=some (.int .i64 m.state):=(hb2.cell (p:=⟨wr.heap.size,1,none⟩) (by show wr.heap.size < W1.heap.size;omega)).trans (HT.out 1)
     have t2:w2.cell? ⟨wr.heap.size,2,none⟩=some (.int .i64 m.life):=(hb2.cell (p:=⟨wr.heap.size,2,none⟩) (by show wr.heap.size < W1.heap.size;omega)).trans (HT.out 2)
     have t3:w2.cell? ⟨wr.heap.size,3,none⟩=some (.int .i64 m.addr):=(hb2.cell (p:=⟨wr.heap.size,3,none⟩) (by show wr.heap.size < W1.heap.size;omega)).trans (HT.out 3)
     have t4:w2.cell? ⟨wr.heap.size,4,none⟩=some (.bool m.server):=(hb2.cell (p:=⟨wr.heap.size,4,none⟩) (by show wr.heap.size < W1.heap.size;omega)).trans (HT.out 4)
     have hs2:w.heap.size≤w2.heap.size:=by omega
     have hs2':wr.heap.size < w2.heap.size:=by omega
     clear hat HF hbc hbf c0 c1 c2 c3 c4 hb2 HO1 HB1 HT
     cases f
     ·have hne:Hid (u7.ownBlock≠some w2.heap.size):=fun e=>by have:=HO2.out.lt _ e;omega
      have HO3:Hid (Own w.heap.size (w2.alloc (.cells #[.string m.name,.int .i64 m.state,.int .i64 m.life,.int .i64 m.addr,.bool m.server] 56)) u7 known):=HO2.out.below ((Below.refl _ _).alloc (Nat.le_refl _) _)
      have hvb:Hid ((w2.alloc (.cells #[.string m.name,.int .i64 m.state,.int .i64 m.life,.int .i64 m.addr,.bool m.server] 56)).heap[w2.heap.size]?=some (.cells m.cs.toArray 56 (0,0))):=heap_alloc_new w2 _
      go_wp2_with (go_at_call 267;refine (insert_any w.heap.size p w2.heap.size u7 known m _ HO3.out HAT.out.le (by omega) (by simp;omega) hvb.out hne.out).mono ?_;rintro e w4 ⟨v',rfl,g1,g2⟩)
      go_roundw
      case rel=>
       have hfin:∃ q_1:Nat,q_1≤nl∧Value.int .i64 ((q:Int)+1)=.int .i64 q_1∧Below w.heap.size w w4∧Hid (Own w.heap.size w4 v' (joinL (stg a b k) (l.take q_1))):=⟨q+1,by omega,by go_num,below_grown (HB2.out.alloc hs2 _) HO3.out g2 (by simp;omega),by rw [HJ.out,hearL_at known m p false HAT.out];exact g1⟩
       first | exact hfin | ((repeat apply Exists.intro);exact ⟨hfin,rfl⟩)
      case measure=>simp [intOf];omega
     ·have hp:p < known.length:=(HAT.out.is.1 rfl).1
      obtain ⟨g,c,hu⟩:=own_form HO2.out p hp
      subst hu
      obtain ⟨c0,c1,c2,c3,c4⟩:=own_cells HO2.out p hp
      have hgl:=HO2.out.lt g rfl
      have hgl2:g < w2.heap.size:=hgl.2
      generalize hm:known.getD p dm=m2 at *
      have Hm:Hid (known.getD p dm=m2):=hm
      clear hm
      have hN:∀ d os,Calls Tryz.prog 234 #[.agg #[.string m.name,.int .i64 m.state,.int .i64 m.life,.int .i64 m.addr,.bool m.server],.agg #[.string m2.name,.int .i64 m2.state,.int .i64 m2.life,.int .i64 m2.addr,.bool m2.server]] (Go.Sort.grow (redrawn w2 d) os) fun e w''=>e=.returned (.bool (newM m m2))∧∃ p:Regrown,w''=Go.Sort.grow (redrawn w2 p.d) p.os:=fun d os=>Calls.regrown_of (newerE_any m m2 _)
      have F0:∀ d os,(Go.Sort.grow (redrawn w2 d) os).cell? ⟨g,p * 5,none⟩=some (.string m2.name):=cell_regrown c0
      have F1:∀ d os,(Go.Sort.grow (redrawn w2 d) os).cell? ⟨g,p * 5+1,none⟩=some (.int .i64 m2.state):=cell_regrown c1
      have F2:∀ d os,(Go.Sort.grow (redrawn w2 d) os).cell? ⟨g,p * 5+2,none⟩=some (.int .i64 m2.life):=cell_regrown c2
      have F3:∀ d os,(Go.Sort.grow (redrawn w2 d) os).cell? ⟨g,p * 5+3,none⟩=some (.int .i64 m2.addr):=cell_regrown c3
      have F4:∀ d os,(Go.Sort.grow (redrawn w2 d) os).cell? ⟨g,p * 5+4,none⟩=some (.bool m2.server):=cell_regrown c4
      have G0:∀ d os,(Go.Sort.grow (redrawn w2 d) os).cell? ⟨wr.heap.size,0,none⟩=some (.string m.name):=cell_regrown t0
      have G1:∀ d os,(Go.Sort.grow (redrawn w2 d) os).cell? ⟨wr.heap.size,1,none⟩=some (.int .i64 m.state):=cell_regrown t1
      have G2:∀ d os,(Go.Sort.grow (redrawn w2 d) os).cell? ⟨wr.heap.size,2,none⟩=some (.int .i64 m.life):=cell_regrown t2
      have G3:∀ d os,(Go.Sort.grow (redrawn w2 d) os).cell? ⟨wr.heap.size,3,none⟩=some (.int .i64 m.addr):=cell_regrown t3
      have G4:∀ d os,(Go.Sort.grow (redrawn w2 d) os).cell? ⟨wr.heap.size,4,none⟩=some (.bool m.server):=cell_regrown t4
      have hfz:∀ o,w2.frozen? ⟨g,o,none⟩=false:=fun o=>World.ownsRow.frozenAt HO2.out o
      have HFZ:Hid (∀ o,w2.frozen? ⟨g,o,none⟩=false):=hfz
      clear c0 c1 c2 c3 c4 hfz
      have HT:Hid (w2.cell? ⟨wr.heap.size,0,none⟩=some (.string m.name)∧w2.cell? ⟨wr.heap.size,1,none⟩=some (.int .i64 m.state)∧w2.cell? ⟨wr.heap.size,2,none⟩=some (.int .i64 m.life)∧w2.cell? ⟨wr.heap.size,3,none⟩=some (.int .i64 m.addr)∧w2.cell? ⟨wr.heap.size,4,none⟩=some (.bool m.server)):=⟨t0,t1,t2,t3,t4⟩
      clear t0 t1 t2 t3 t4
      generalize hnw:newM m m2=nw at *
      have Hnw:Hid (newM m m2=nw):=hnw
      clear hnw
      cases nw
      ·go_wp2_with fail
       refine wp_region_quiet_below (by kernel_rfl) (by kernel_rfl) ?_
       repeat (quiet_step (exact hN _ _))
       refine wpQuiet_nil ?_
       intro _ hw'
       obtain ⟨⟨dq,osq⟩,hw''⟩:=hw'
       subst hw''
       have HBQ:Hid (Below w2.heap.size w2 (Go.Sort.grow (redrawn w2 dq) osq)):=below_regrown w2 dq osq
       clear hN F0 F1 F2 F3 F4 G0 G1 G2 G3 G4
       go_wp2_with fail
       go_roundw
       case rel=>
        have hfin:∃ q_1:Nat,q_1≤nl∧Value.int .i64 ((q:Int)+1)=.int .i64 q_1∧Below w.heap.size w (Go.Sort.grow (redrawn w2 dq) osq)∧Hid (Own w.heap.size (Go.Sort.grow (redrawn w2 dq) osq) (.slice (some ⟨g,0,none⟩) known.length c) (joinL (stg a b k) (l.take q_1))):=⟨q+1,by omega,by go_num,HB2.out.trans (HBQ.out.mono hs2),by rw [HJ.out,hearL_at known m p true HAT.out,if_pos rfl,Hm.out,if_neg (fun h=>Bool.false_ne_true (Hnw.out.symm.trans h))];exact HO2.out.below HBQ.out⟩
        first | exact hfin | ((repeat apply Exists.intro);exact ⟨hfin,rfl⟩)
       case measure=>simp [intOf];omega
      ·go_wp2_with fail
       refine wp_region_quiet_below (by kernel_rfl) (by kernel_rfl) ?_
       repeat (quiet_step (exact hN _ _))
       refine wpQuiet_nil ?_
       intro _ hw'
       obtain ⟨⟨dq,osq⟩,hw''⟩:=hw'
       subst hw''
       have HBQ:Hid (Below w2.heap.size w2 (Go.Sort.grow (redrawn w2 dq) osq)):=below_regrown w2 dq osq
       clear hN F0 F1 F2 F3 F4 G0 G1 G2 G3 G4
       generalize Go.Sort.grow (redrawn w2 dq) osq=w3 at *
       have HO3:Hid (Own w.heap.size w3 (.slice (some ⟨g,0,none⟩) known.length c) known):=HO2.out.below HBQ.out
       obtain ⟨c0,c1,c2,c3,c4⟩:=own_cells HO3.out p hp
       rw [Hm.out] at c0 c1 c2 c3 c4
       have hg3:g < w3.heap.size:=(HO3.out.lt g rfl).2
       have hfz:∀ o,w3.frozen? ⟨g,o,none⟩=false:=fun o=>World.ownsRow.frozenAt HO3.out o
       obtain ⟨t0,t1,t2,t3,t4⟩:=HT.out
       have s0:w3.cell? ⟨wr.heap.size,0,none⟩=some (.string m.name):=(HBQ.out.cell (p:=⟨wr.heap.size,0,none⟩) hs2').trans t0
       have s1:w3.cell? ⟨wr.heap.size,1,none⟩=some (.int .i64 m.state):=(HBQ.out.cell (p:=⟨wr.heap.size,1,none⟩) hs2').trans t1
       have s2:w3.cell? ⟨wr.heap.size,2,none⟩=some (.int .i64 m.life):=(HBQ.out.cell (p:=⟨wr.heap.size,2,none⟩) hs2').trans t2
       have s3:w3.cell? ⟨wr.heap.size,3,none⟩=some (.int .i64 m.addr):=(HBQ.out.cell (p:=⟨wr.heap.size,3,none⟩) hs2').trans t3
       have s4:w3.cell? ⟨wr.heap.size,4,none⟩=some (.bool m.server):=(HBQ.out.cell (p:=⟨wr.heap.size,4,none⟩) hs2').trans t4
       clear t0 t1 t2 t3 t4
       go_wp2_with fail
       refine ⟨⟨q+1,by omega,by go_num,?_,?_⟩,by simp [intOf];omega⟩
       ·exact ((((((HB2.out.trans (HBQ.out.mono hs2)).setCell (p:=⟨g,p * 5,none⟩) hgl.1 (.string m.name)).setCell (p:=⟨g,p * 5+1,none⟩) hgl.1 (.int .i64 m.state)).setCell (p:=⟨g,p * 5+2,none⟩) hgl.1 (.int .i64 m.life)).setCell (p:=⟨g,p * 5+3,none⟩) hgl.1 (.int .i64 m.addr)).setCell (p:=⟨g,p * 5+4,none⟩) hgl.1 (.bool m.server))
       ·rw [HJ.out,hearL_at known m p true HAT.out,if_pos rfl,Hm.out,if_pos Hnw.out]
        exact own_set HO3.out hp m
    ·have hqn:q=nl:=by omega
     subst hqn
     have HO3:Hid (Own w.heap.size wr u7 (stg a b (k+1))):=by
      have h:=HO.out
      rw [List.take_of_length_le (by rw [HNL.out];exact Nat.le_refl _)] at h
      rw [HKT.out.step];exact h
     go_wp2_with fail
     go_roundw
     case rel=>exact ⟨k+1,by omega,by go_num,hbl,HO3⟩
     case measure=>simp [intOf];omega
  ·have hk3:k=2:=by omega
   subst hk3
   go_wp2_with fail
   go_ret
   exact ⟨_,rfl,HO.out,hbl⟩
theorem checkOneE_any (m:Mem) (w:World) (hm:m.name.size≤maxLen) :
 Calls Tryz.prog 177 #[.agg #[.string m.name,.int .i64 m.state,.int .i64 m.life,.int .i64 m.addr,.bool m.server]] w fun e w'=>e=.returned (.int .i64 m.e)∧Below w.heap.size w w':=by
 refine (checkOne_any m.name m.state m.life m.addr m.server w hm).mono ?_
 rintro e w' ⟨rfl,rfl⟩
 exact ⟨rfl,(Below.refl _ _).alloc (Nat.le_refl _) _⟩
set_option maxHeartbeats 800000 in
theorem check_row (ms:List Mem) (b off cap:Nat) (w:World) (hr:Row w b off ms) (hb:b < w.heap.size) (hn:ms.length≤20) (hs:∀ j,(ms.getD j dm).name.size≤maxLen) :
 Calls Tryz.prog 125 #[.slice (some ⟨b,off,none⟩) ms.length cap] w fun e w'=>e=.returned (.int .i64 (chk ms))∧Below w.heap.size w w':=by
 have HR:Hid (Row w b off ms):=hr
 have HE:Hid (∀ k,k < ms.length→(∀ j,j < k→(ms.getD j dm).e=0)→(ms.getD k dm).e≠0→chk ms=(ms.getD k dm).e):=fun k h1 h2 h3=>chk_e ms k hn h1 h2 h3
 have H4:Hid ((∀ j,j < ms.length→(ms.getD j dm).e=0)→chk ms=if risesB ms=true then 0 else 4):=fun h1=>chk_r ms hn h1
 have HSl:Hid (∀ w',Below w.heap.size w w'→Calls Tryz.prog 178 #[.slice (some ⟨b,off,none⟩) ms.length cap,.func (.func 179) #[] #[]] w' fun e w''=>e=.returned (.bool (risesB ms))∧Below w'.heap.size w' w''):=fun w' hbw=>rises_row ms b off cap w' (hr.later hbw hb) (Nat.lt_of_lt_of_le hb hbw.size) hn
 clear hr
 generalize hN:ms.length=n at *
 have HN:Hid (ms.length=n):=hN
 clear hN
 have HS:Hid (∀ j,(ms.getD j dm).name.size≤maxLen):=hs
 clear hs
 generalize hC:chk ms=res at *
 have HC:Hid (chk ms=res):=hC
 clear hC
 generalize hRB:risesB ms=rb at *
 have HRB:Hid (risesB ms=rb):=hRB
 clear hRB
 go_enter Tryz.func125,Tryz.ntmps125
 go_wp2_with fail
 go_loopw [11] (fun i w'=>∃ k:Nat,k≤n∧i=.int .i64 k∧Below w.heap.size w w'∧Hid (∀ j,j < k→(ms.getD j dm).e=0)) (fun i _=>n - (intOf i).toNat)
 case atStart=>exact ⟨0,Nat.zero_le _,rfl,Below.refl _ _,fun j h=>absurd h (Nat.not_lt_zero _)⟩
 case round=>
  obtain ⟨k,hk,rfl,hbl,hz⟩:=hrel
  obtain ⟨hbc,hbf⟩:=bcell hbl
  have hsz:=hbl.size
  by_cases hlt:k < n
  ·obtain ⟨c0,c1,c2,c3,c4⟩:=HR.out k (by rw [HN.out];exact hlt)
   have HSK:Hid ((ms.getD k dm).name.size≤maxLen):=HS.out k
   have HK:Hid ((ms.getD k dm).e≠0→res=(ms.getD k dm).e):=fun h=>HE.out k hlt hz.out h
   have HZ:Hid ((ms.getD k dm).e=0→∀ j,j < k+1→(ms.getD j dm).e=0):=fun h j hj=>by
    rcases Nat.lt_succ_iff_lt_or_eq.1 hj with h2 | rfl
    ·exact hz.out j h2
    ·exact h
   generalize ms.getD k dm=m at *
   have HO:Hid (∀ w,Calls Tryz.prog 177 #[.agg #[.string m.name,.int .i64 m.state,.int .i64 m.life,.int .i64 m.addr,.bool m.server]] w fun e w'=>e=.returned (.int .i64 m.e)∧Below w.heap.size w w'):=fun w=>checkOneE_any m w HSK.out
   generalize m.e=me at *
   rcases he:decide (me=0) with _ | _
   ·have he':(me != 0)=true:=by simpa using he
    clear he
    go_wp2_with (go_at_call 177;refine (HO.out _).mono ?_;rintro e w' ⟨rfl,hb2⟩)
    go_ret
    have hne:me≠0:=by simpa using he'
    have hres:res=me:=HK.out hne
    exact ⟨ret_int hres.symm,(hbl.alloc hsz _).trans (hb2.mono (by simp;omega))⟩
   ·have he':(me != 0)=false:=by simpa using he
    clear he
    go_wp2_with (go_at_call 177;refine (HO.out _).mono ?_;rintro e w' ⟨rfl,hb2⟩)
    go_roundw
    case rel=>
     have he0:me=0:=by simpa using he'
     exact ⟨k+1,by omega,by go_num,(hbl.alloc hsz _).trans (hb2.mono (by simp;omega)),HZ.out he0⟩
    case measure=>simp [intOf];omega
  ·have hall:Hid (∀ j,j < n→(ms.getD j dm).e=0):=fun j hj=>hz.out j (by omega)
   have HRes:Hid (res=if rb=true then 0 else 4):=H4.out hall.out
   clear hz hall H4 HE HC HRB
   cases rb
   ·go_wp2_with (go_at_call 178;refine (HSl.out _ hbl).mono ?_;rintro e w' ⟨rfl,hb2⟩)
    go_ret
    exact ⟨ret_int (by rw [HRes.out];rfl),hbl.trans (hb2.mono hsz)⟩
   ·go_wp2_with (go_at_call 178;refine (HSl.out _ hbl).mono ?_;rintro e w' ⟨rfl,hb2⟩)
    go_ret
    exact ⟨ret_int (by rw [HRes.out];rfl),hbl.trans (hb2.mono hsz)⟩
set_option maxHeartbeats 400000 in
theorem check_many (a:Option Addr) (n cap:Nat) (w:World) (hn:20 < n) :
 Calls Tryz.prog 125 #[.slice a n cap] w fun e w'=>e=.returned (.int .i64 2)∧w'=w:=by
 go_enter Tryz.func125,Tryz.ntmps125
 go_wp2_with fail
 go_ret
 exact ⟨rfl,rfl⟩
set_option maxHeartbeats 400000 in
theorem check_none (a:Option Addr) (cap:Nat) (w:World) :
 Calls Tryz.prog 125 #[.slice a 0 cap] w fun e w'=>e=.returned (.int .i64 0)∧w'=w:=by
 go_enter Tryz.func125,Tryz.ntmps125
 go_wp2_with fail
 go_loop [11] (fun i=>i=.int .i64 0) (fun _=>0)
 case atStart=>rfl
 case round=>
  subst hrel
  go_wp2_with (go_at_call 178;refine (rises_none _ _ _ _).mono ?_;rintro e w' ⟨rfl,rfl⟩)
  go_ret
  exact ⟨rfl,rfl⟩
theorem check_any (ms:List Mem) (v:Value) (w:World) (h:Sl w v ms) :
 Calls Tryz.prog 125 #[v] w fun e w'=>e=.returned (.int .i64 (chk ms))∧Below w.heap.size w w':=by
 obtain ⟨a,cap,rfl,hs,h⟩:=h
 by_cases hn:20 < ms.length
 ·refine (check_many a ms.length cap w hn).mono ?_
  rintro e w' ⟨rfl,rfl⟩
  exact ⟨ret_int (by rw [chk,if_pos hn]),Below.refl _ _⟩
 ·rcases h with rfl | ⟨b,off,rfl,hb,hr⟩
  ·refine (check_none a cap w).mono ?_
   rintro e w' ⟨rfl,rfl⟩
   exact ⟨rfl,Below.refl _ _⟩
  ·exact check_row ms b off cap w hr hb (by omega) hs
set_option maxHeartbeats 800000 in
theorem checkAll_two (a b:List Mem) (va vb:Value) (pb cap:Nat) (w:World) (ha:Sl w va a) (hb:Sl w vb b) (hpb:pb < w.heap.size) (hc0:w.cell? ⟨pb,0,none⟩=some va) (hc1:w.cell? ⟨pb,1,none⟩=some vb) :
 Calls Tryz.prog 233 #[.slice (some ⟨pb,0,none⟩) 2 cap] w fun e w'=>e=.returned (.int .i64 (chkTwo a b))∧Below w.heap.size w w':=by
 have HA:Hid (Sl w va a):=ha
 have HB:Hid (Sl w vb b):=hb
 clear ha hb
 go_enter Tryz.func233,Tryz.ntmps233
 go_wp2_with fail
 go_loopw [8] (fun i w'=>∃ k:Nat,k≤2∧i=.int .i64 k∧Below w.heap.size w w'∧Hid (0 < k→chk a=0)∧Hid (1 < k→chk b=0)) (fun i _=>2 - (intOf i).toNat)
 case atStart=>exact ⟨0,by omega,rfl,Below.refl _ _,fun h=>by omega,fun h=>by omega⟩
 case round=>
  obtain ⟨k,hk,rfl,hbl,hz0,hz1⟩:=hrel
  obtain ⟨hbc,hbf⟩:=bcell hbl
  have hsz:=hbl.size
  have HA':Hid (Sl wr va a):=HA.out.below hbl
  have HB':Hid (Sl wr vb b):=HB.out.below hbl
  have hcases:k=0∨k=1∨k=2:=by omega
  rcases hcases with rfl | rfl | rfl
  ·rcases he:decide (chk a=0) with _ | _
   ·have he':(chk a != 0)=true:=by simpa using he
    clear he
    go_wp2_with (go_at_call 125;refine (check_any a _ _ HA'.out).mono ?_;rintro e w' ⟨rfl,hb2⟩)
    go_ret
    exact ⟨ret_int (by have h0:chk a≠0:=(by simpa using he');rw [chkTwo,if_neg h0]),hbl.trans (hb2.mono hsz)⟩
   ·have he':(chk a != 0)=false:=by simpa using he
    clear he
    go_wp2_with (go_at_call 125;refine (check_any a _ _ HA'.out).mono ?_;rintro e w' ⟨rfl,hb2⟩)
    go_roundw
    case rel=>exact ⟨1,by omega,by go_num,hbl.trans (hb2.mono hsz),fun _=>(by simpa using he'),fun h=>by omega⟩
    case measure=>simp [intOf]
  ·have h0:Hid (chk a=0):=hz0.out (by omega)
   rcases he:decide (chk b=0) with _ | _
   ·have he':(chk b != 0)=true:=by simpa using he
    clear he
    go_wp2_with (go_at_call 125;refine (check_any b _ _ HB'.out).mono ?_;rintro e w' ⟨rfl,hb2⟩)
    go_ret
    exact ⟨ret_int (by rw [chkTwo,if_pos h0.out]),hbl.trans (hb2.mono hsz)⟩
   ·have he':(chk b != 0)=false:=by simpa using he
    clear he
    go_wp2_with (go_at_call 125;refine (check_any b _ _ HB'.out).mono ?_;rintro e w' ⟨rfl,hb2⟩)
    go_roundw
    case rel=>exact ⟨2,by omega,by go_num,hbl.trans (hb2.mono hsz),fun _=>h0.out,fun _=>(by simpa using he')⟩
    case measure=>simp [intOf]
  ·go_wp2_with fail
   go_ret
   exact ⟨ret_int (by rw [chkTwo,if_pos (hz0.out (by omega)),hz1.out (by omega)]),hbl⟩
set_option maxHeartbeats 400000 in
theorem join_bad (a b:List Mem) (va vb:Value) (pb cap:Nat) (w:World) (ha:Sl w va a) (hb:Sl w vb b) (hpb:pb < w.heap.size) (hc0:w.cell? ⟨pb,0,none⟩=some va) (hc1:w.cell? ⟨pb,1,none⟩=some vb) (hne:chkTwo a b≠0) :
 Calls Tryz.prog 193 #[.slice (some ⟨pb,0,none⟩) 2 cap] w fun e w'=>e=.returned (.tuple #[.slice none 0 0,.int .i64 (joinE a b)])∧Below w.heap.size w w':=by
 have he:(chkTwo a b != 0)=true:=by simpa using hne
 have HE:Hid (joinE a b=chkTwo a b):=if_neg hne
 have hcon:=checkAll_two a b va vb pb cap w ha hb hpb hc0 hc1
 have HC:Hid (Calls Tryz.prog 233 #[.slice (some ⟨pb,0,none⟩) 2 cap] w fun e w'=>e=.returned (.int .i64 (chkTwo a b))∧Below w.heap.size w w'):=hcon
 clear hcon ha hb hne
 go_enter Tryz.func193,Tryz.ntmps193
 go_wp2_with (go_at_call 233;refine HC.out.mono ?_;rintro e w' ⟨rfl,hb2⟩)
 go_ret2
 exact ⟨by rw [HE.out];rfl,hb2⟩
set_option maxHeartbeats 1600000 in
set_option maxRecDepth 100000 in
theorem join_good (a b:List Mem) (va vb:Value) (pb cap:Nat) (w:World) (ha:Sl w va a) (hb:Sl w vb b) (hpb:pb < w.heap.size) (hc0:w.cell? ⟨pb,0,none⟩=some va) (hc1:w.cell? ⟨pb,1,none⟩=some vb) (h0:chkTwo a b=0) :
 Calls Tryz.prog 193 #[.slice (some ⟨pb,0,none⟩) 2 cap] w fun e w'=>∃ v',e=.returned (.tuple #[v',.int .i64 (joinE a b)])∧Below w.heap.size w w' ∧
  (20 < (joinL a b).length→v'=.slice none 0 0)∧((joinL a b).length≤20→Own w.heap.size w' v' (joinL a b)):=by
 have he:(chkTwo a b != 0)=false:=by simpa using h0
 have hca:chk a=0:=by unfold chkTwo at h0;split at h0<;>assumption
 have hcb:chk b=0:=by unfold chkTwo at h0;rw [if_pos hca] at h0;exact h0
 have za:=chk_zero hca
 have zb:=chk_zero hcb
 have HE:Hid (joinE a b=if 20 < (joinL a b).length then 2 else 0):=if_pos h0
 have HC:Hid (Calls Tryz.prog 233 #[.slice (some ⟨pb,0,none⟩) 2 cap] w fun e w'=>e=.returned (.int .i64 (chkTwo a b))∧Below w.heap.size w w'):=checkAll_two a b va vb pb cap w ha hb hpb hc0 hc1
 have HJ:Hid (∀ w1,Below w.heap.size w w1→Calls Tryz.prog 235 #[.func (.func 179) #[] #[],.func (.func 234) #[] #[],.slice (some ⟨pb,0,none⟩) 2 cap] w1 fun e w'=>∃ v',e=.returned v'∧Own w1.heap.size w' v' (joinL a b)∧Below w1.heap.size w1 w'):=fun w1 hb1=>
  rjoin_two a b va vb pb cap w1 (ha.below hb1) (hb.below hb1) (Nat.lt_of_lt_of_le hpb hb1.size) ((bcell hb1).1 pb 0 hpb |>.trans hc0) ((bcell hb1).1 pb 1 hpb |>.trans hc1) za.1 zb.1 za.2.1
 have hl40:(joinL a b).length≤40:=by have h1:=joinL_len b a;have h2:=za.1;have h3:=zb.1;omega
 clear h0 hca hcb za zb ha hb hc0 hc1
 generalize joinL a b=jl at *
 generalize hgn:jl.length=n at *
 have HGN:Hid (jl.length=n):=hgn
 clear hgn
 go_enter Tryz.func193,Tryz.ntmps193
 go_wp2_with (go_at_call 233;refine HC.out.mono ?_;rintro e w1 ⟨rfl,hb1⟩)
 refine (HJ.out w1 hb1).mono ?_
 rintro e w2 ⟨v',rfl,ho,hb2⟩
 have hform:∃ p c,v'=.slice p n c:=by
  have hn:=HGN.out
  rcases ho.2 with ⟨h,h0⟩ | ⟨g,c,cur,h,_⟩
  ·exact ⟨none,0,by rw [h];congr 1;omega⟩
  ·exact ⟨_,c,by rw [h,hn]⟩
 obtain ⟨p,c,rfl⟩:=hform
 have HBx:Hid (Below w.heap.size w w2):=hb1.trans (hb2.mono hb1.size)
 have HO3:Hid (Own w.heap.size w2 (.slice p n c) jl):=ho.mono hb1.size
 clear ho hb1 hb2 HC HJ
 by_cases hlt:20 < n
 ·go_wp2_with fail
  go_ret2
  refine ⟨_,by rw [HE.out,if_pos hlt];rfl,HBx.out,fun _=>rfl,fun h=>by omega⟩
 ·go_wp2_with fail
  go_ret2
  refine ⟨.slice p n c,by rw [HE.out,if_neg hlt];rfl,HBx.out,fun h=>by omega,fun _=>HO3.out⟩
set_option maxHeartbeats 800000 in
theorem checkMembers_row (ms:List Mem) (b off cap:Nat) (w:World) (hr:Row w b off ms) (hb:b < w.heap.size) (hn:ms.length≤20) (hs:∀ j,(ms.getD j dm).name.size≤maxLen) :
 Calls Tryz.prog 42 #[.slice (some ⟨b,off,none⟩) ms.length cap] w fun e w'=>e=.returned (.int .i64 (chk ms))∧Below w.heap.size w w':=by
 have HR:Hid (Row w b off ms):=hr
 clear hr
 have HE:Hid (∀ k,k < ms.length→(∀ j,j < k→(ms.getD j dm).e=0)→(ms.getD k dm).e≠0→chk ms=(ms.getD k dm).e):=fun k h1 h2 h3=>chk_e ms k hn h1 h2 h3
 have H4:Hid ((∀ j,j < ms.length→(ms.getD j dm).e=0)→∀ k,k+1 < ms.length→less (ms.getD k dm).name (ms.getD (k+1) dm).name=false→chk ms=4):=fun h1 k h2 h3=>chk_4 ms k hn h1 h2 h3
 have H0:Hid ((∀ j,j < ms.length→(ms.getD j dm).e=0)→(∀ j,j+1 < ms.length→less (ms.getD j dm).name (ms.getD (j+1) dm).name=true)→chk ms=0):=fun h1 h2=>chk_0 ms hn h1 h2
 generalize hN:ms.length=n at *
 have HN:Hid (ms.length=n):=hN
 clear hN
 have HS:Hid (∀ j,(ms.getD j dm).name.size≤maxLen):=hs
 clear hs
 generalize hC:chk ms=res at *
 go_enter Tryz.func42,Tryz.ntmps42
 go_wp2_with fail
 go_loopw [3] (fun i w'=>∃ k:Nat,k≤n∧i=.int .i64 k∧Below w.heap.size w w'∧Hid (∀ j,j < k→(ms.getD j dm).e=0)) (fun i _=>n - (intOf i).toNat)
 case atStart=>exact ⟨0,Nat.zero_le _,rfl,Below.refl _ _,fun j h=>absurd h (Nat.not_lt_zero _)⟩
 case round=>
  obtain ⟨k,hk,rfl,hbl,hz⟩:=hrel
  obtain ⟨hbc,hbf⟩:=bcell hbl
  have hsz:=hbl.size
  by_cases hlt:k < n
  ·obtain ⟨c0,c1,c2,c3,c4⟩:=HR.out k (by rw [HN.out];exact hlt)
   have hsk:=HS.out k
   have HK:Hid ((ms.getD k dm).e≠0→res=(ms.getD k dm).e):=fun h=>HE.out k hlt hz.out h
   have HZ:Hid ((ms.getD k dm).e=0→∀ j,j < k+1→(ms.getD j dm).e=0):=fun h j hj=>by
    rcases Nat.lt_succ_iff_lt_or_eq.1 hj with h2 | rfl
    ·exact hz.out j h2
    ·exact h
   generalize ms.getD k dm=m at *
   obtain ⟨nm,st,lf,ad,sv⟩:=m
   simp only at c0 c1 c2 c3 c4 hsk
   rcases he:decide (oneE nm st lf ad=0) with _ | _
   ·have he':(oneE nm st lf ad != 0)=true:=by simpa using he
    clear he
    go_wp2_with (go_at_call 79;refine (oneMember_any _ _ _ _ _ _ hsk).mono ?_;rintro e w' ⟨rfl,rfl⟩)
    go_ret
    have hne:oneE nm st lf ad≠0:=by simpa using he'
    have hres:res=oneE nm st lf ad:=HK.out hne
    exact ⟨ret_int hres.symm,hbl.alloc hsz _⟩
   ·have he':(oneE nm st lf ad != 0)=false:=by simpa using he
    clear he
    go_wp2_with (go_at_call 79;refine (oneMember_any _ _ _ _ _ _ hsk).mono ?_;rintro e w' ⟨rfl,rfl⟩)
    go_roundw
    case rel=>
     have he0:oneE nm st lf ad=0:=by simpa using he'
     exact ⟨k+1,by omega,by go_num,hbl.alloc hsz _,HZ.out he0⟩
    case measure=>simp [intOf];omega
  ·have hall:Hid (∀ j,j < n→(ms.getD j dm).e=0):=fun j hj=>hz.out j (by omega)
   clear hz
   go_wp2_with fail
   go_loopw [5] (fun i w'=>∃ k:Nat,(k+1≤n∨k=0)∧i=.int .i64 (k+1)∧Below w.heap.size w w'∧Hid (∀ j,j < k→less (ms.getD j dm).name (ms.getD (j+1) dm).name=true)) (fun i _=>n - (intOf i).toNat)
   case atStart=>exact ⟨0,.inr rfl,rfl,hbl,fun j h=>absurd h (Nat.not_lt_zero _)⟩
   case round=>
    clear hbc hbf hsz hbl
    obtain ⟨q,hq,rfl,hbl,hz⟩:=hrel
    obtain ⟨hbc,hbf⟩:=bcell hbl
    have hsz:=hbl.size
    by_cases hlt:q+1 < n
    ·obtain ⟨c0,_,_,_,_⟩:=HR.out q (by rw [HN.out];omega)
     obtain ⟨d0,_,_,_,_⟩:=HR.out (q+1) (by rw [HN.out];exact hlt)
     have HK:Hid (less (ms.getD q dm).name (ms.getD (q+1) dm).name=false→res=4):=fun h=>H4.out hall.out q hlt h
     have HZ:Hid (less (ms.getD q dm).name (ms.getD (q+1) dm).name=true→∀ j,j < q+1→less (ms.getD j dm).name (ms.getD (j+1) dm).name=true):=fun h j hj=>by
      rcases Nat.lt_succ_iff_lt_or_eq.1 hj with h2 | rfl
      ·exact hz.out j h2
      ·exact h
     generalize ms.getD q dm=m1 at *
     generalize ms.getD (q+1) dm=m2 at *
     rcases hl:Op.bytesLess m1.name.toList m2.name.toList with _ | _
     ·have h4:res=4:=HK.out hl
      clear hC
      have hl2:=bl_total m1.name.toList m2.name.toList
      rw [hl] at hl2
      have hl3:=hl2.symm
      clear hl2 hl
      go_wp2_with fail
      go_quiet (fail)
      go_wp2_with fail
      go_ret
      exact ⟨ret_int h4.symm,below_drewN hbl _⟩
     ·have hl2:=bl_total m1.name.toList m2.name.toList
      rw [hl] at hl2
      have hl3:=hl2.symm
      clear hl2
      have HL:Hid (Op.bytesLess m1.name.toList m2.name.toList=true):=hl
      clear hl
      go_wp2_with fail
      go_quiet (fail)
      go_wp2_with fail
      go_roundw
      case rel=>exact ⟨q+1,.inl (by omega),by go_num,below_drewN hbl _,HZ.out HL.out⟩
      case measure=>simp [intOf];omega
    ·have h0:res=0:=H0.out hall.out fun j hj=>hz.out j (by omega)
     clear hC
     go_wp2_with fail
     go_ret
     exact ⟨ret_int h0.symm,hbl⟩
set_option maxHeartbeats 400000 in
theorem checkMembers_many (a:Option Addr) (n cap:Nat) (w:World) (hn:20 < n) :
 Calls Tryz.prog 42 #[.slice a n cap] w fun e w'=>e=.returned (.int .i64 2)∧w'=w:=by
 go_enter Tryz.func42,Tryz.ntmps42
 go_wp2_with fail
 go_ret
 exact ⟨rfl,rfl⟩
set_option maxHeartbeats 400000 in
theorem checkMembers_none (a:Option Addr) (cap:Nat) (w:World) :
 Calls Tryz.prog 42 #[.slice a 0 cap] w fun e w'=>e=.returned (.int .i64 0)∧w'=w:=by
 go_enter Tryz.func42,Tryz.ntmps42
 go_wp2_with fail
 go_loop [3] (fun i=>i=.int .i64 0) (fun _=>0)
 case atStart=>rfl
 case round=>
  subst hrel
  go_wp2_with fail
  go_loop [5] (fun i=>i=.int .i64 1) (fun _=>0)
  case atStart=>rfl
  case round=>
   subst hrel
   go_wp2_with fail
   go_ret
   exact ⟨rfl,rfl⟩
theorem checkMembers_any (ms:List Mem) (v:Value) (w:World) (h:Sl w v ms) :
 Calls Tryz.prog 42 #[v] w fun e w'=>e=.returned (.int .i64 (chk ms))∧Below w.heap.size w w':=by
 obtain ⟨a,cap,rfl,hs,h⟩:=h
 by_cases hn:20 < ms.length
 ·refine (checkMembers_many a ms.length cap w hn).mono ?_
  rintro e w' ⟨rfl,rfl⟩
  exact ⟨ret_int (by rw [chk,if_pos hn]),Below.refl _ _⟩
 ·rcases h with rfl | ⟨b,off,rfl,hb,hr⟩
  ·refine (checkMembers_none a cap w).mono ?_
   rintro e w' ⟨rfl,rfl⟩
   exact ⟨rfl,Below.refl _ _⟩
  ·exact checkMembers_row ms b off cap w hr hb (by omega) hs
set_option maxHeartbeats 400000 in
theorem alone_any (nm:ByteArray) (st lf ad:Int) (sv:Bool) (w:World) :
 Calls Tryz.prog 194 #[.agg #[.string nm,.int .i64 st,.int .i64 lf,.int .i64 ad,.bool sv]] w fun e w'=>e=.returned (.slice (some ⟨w.heap.size+1,0,none⟩) 1 1)∧w'=(w.alloc (.cells #[.string nm,.int .i64 st,.int .i64 lf,.int .i64 ad,.bool sv] 56)).alloc (.cells #[.string nm,.int .i64 st,.int .i64 lf,.int .i64 ad,.bool sv] 56):=by
 go_enter Tryz.func194,Tryz.ntmps194
 go_wp2
 go_ret
 exact ⟨rfl,rfl⟩
end Go.Proofs.YtffdoiokmiklgaaGreatDoor
