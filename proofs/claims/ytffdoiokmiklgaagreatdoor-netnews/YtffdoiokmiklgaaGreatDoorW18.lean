import Derived.Test.YtffdoiokmiklgaaGreatDoorW13
import Derived.Test.YtffdoiokmiklgaaGreatDoorW17
namespace Go.Proofs.YtffdoiokmiklgaaGreatDoor
namespace Sv
open Go.RowKit
theorem stg_len {a b:List Svc} (hla:a.length≤40) (hlb:b.length≤40) (k:Nat):(stg a b k).length≤80:=by
 unfold stg
 split
 ·simp
 ·split
  ·omega
  ·have:=joinL_len b a;omega
structure Kth (w:World) (pb:Nat) (a b:List Svc) (k:Nat) (l:List Svc) (pk:Option Addr) (ck:Nat):Prop where
 cell:w.cell? ⟨pb,k,none⟩=some (.slice pk l.length ck)
 row:l=[]∨∃ b off,pk=some ⟨b,off,none⟩∧b < w.heap.size∧Row w b off l
 oks:∀ m∈l,(m).ok
 len:l.length≤40
 len0:(stg a b k).length≤40
 rise0:Rise (stg a b k)
 oks0:∀ m∈stg a b k,(m).ok
 step:stg a b (k+1)=joinL (stg a b k) l
theorem kth_of {a b:List Svc} {va vb:Value} {pb:Nat} {w:World} (ha:Sl w va a) (hb:Sl w vb b) (hc0:w.cell? ⟨pb,0,none⟩=some va) (hc1:w.cell? ⟨pb,1,none⟩=some vb) (hla:a.length≤40) (hlb:b.length≤40) (ra:Rise a) (k:Nat) (hk:k < 2) :
 ∃ l pk ck,Kth w pb a b k l pk ck:=by
 obtain ⟨pa,ca,rfl,nsa,ha⟩:=ha
 obtain ⟨pv,cb,rfl,nsb,hb⟩:=hb
 have hcases:k=0∨k=1:=by omega
 rcases hcases with rfl | rfl
 ·exact ⟨a,pa,ca,hc0,ha,ns_mem nsa,hla,by simp [stg],by simp [stg],by simp [stg],(joinL_nil a ra).symm⟩
 ·exact ⟨b,pv,cb,hc1,hb,ns_mem nsb,hlb,hla,ra,ns_mem nsa,rfl⟩
set_option maxHeartbeats 4000000 in
set_option maxRecDepth 100000 in
theorem rjoin_two (a b:List Svc) (va vb:Value) (pb cap:Nat) (w:World) (ha:Sl w va a) (hb:Sl w vb b) (hpb:pb < w.heap.size) (hc0:w.cell? ⟨pb,0,none⟩=some va) (hc1:w.cell? ⟨pb,1,none⟩=some vb)
 (hla:a.length≤40) (hlb:b.length≤40) (ra:Rise a) :
 Calls Tryz.prog 198 #[.func (.func 184) #[] #[],.func (.func 199) #[] #[],.slice (some ⟨pb,0,none⟩) 2 cap] w fun e w'=>∃ v',e=.returned v'∧Own w.heap.size w' v' (joinL a b)∧Below w.heap.size w w':=by
 have HK:Hid (∀ k,k < 2→∃ l pk ck,Kth w pb a b k l pk ck):=fun k hk=>kth_of ha hb hc0 hc1 hla hlb ra k hk
 have HL2:Hid (∀ k,(stg a b k).length≤80):=stg_len hla hlb
 clear ha hb hc0 hc1 hla hlb ra
 go_enter Tryz.func198,Tryz.ntmps198
 go_wp2_with fail
 go_loopw [7,16] (fun kn i w'=>∃ k:Nat,k≤2∧i=.int .i64 k∧Below w.heap.size w w'∧Hid (Own w.heap.size w' kn (stg a b k))) (fun _ i _=>2 - (intOf i).toNat)
 case atStart=>exact ⟨0,by omega,rfl,Below.refl _ _,own_nil _ _⟩
 case round=>
  obtain ⟨k,hk,rfl,hbl,HO⟩:=hrel
  obtain ⟨hbc,hbf⟩:=bcell hbl
  have hsz:=hbl.size
  by_cases hk2:k < 2
  ·obtain ⟨l,pk,ck,hKth⟩:=HK.out k hk2
   have HKT:Hid (Kth w pb a b k l pk ck):=hKth
   have hcell:=hKth.cell
   clear hKth
   generalize hnl:l.length=nl at *
   have HNL:Hid (l.length=nl):=hnl
   clear hnl
   have hnl40:nl≤40:=by have:=HKT.out.len;have:=HNL.out;omega
   have hk2':(k:Int) < 2:=by omega
   go_wp2_with fail
   go_loopw [7,22] (fun kn j w'=>∃ q:Nat,q≤nl∧j=.int .i64 q∧Below w.heap.size w w'∧Hid (Own w.heap.size w' kn (joinL (stg a b k) (l.take q)))) (fun _ j _=>nl - (intOf j).toNat)
   case atStart=>exact ⟨0,Nat.zero_le _,rfl,hbl,HO⟩
   case round=>
    clear hbc hbf hsz hbl HO hcell
    obtain ⟨q,hq,rfl,hbl,HO⟩:=hrel
    obtain ⟨hbc,hbf⟩:=bcell hbl
    have hsz:=hbl.size
    by_cases hlt:q < nl
    ·obtain ⟨b2,off,hptr,hpl,hrow⟩:∃ b_1 off,pk=some ⟨b_1,off,none⟩∧b_1 < w.heap.size∧Row w b_1 off l:=by
      rcases HKT.out.row with h | h
      ·have:=HNL.out;rw [h] at this;simp at this;omega
      ·exact h
     subst hptr
     obtain ⟨c0,c1,c2,c3,c4,c5,c6,c7,c8⟩:=hrow q (by rw [HNL.out];exact hlt)
     clear hrow
     have HJ:Hid (joinL (stg a b k) (l.take (q+1))=hearL (joinL (stg a b k) (l.take q)) (l.getD q dm)):=joinL_take (stg a b k) l q (by rw [HNL.out];exact hlt)
     have HR:Hid (Rise (joinL (stg a b k) (l.take q))):=joinL_rise _ _ HKT.out.rise0
     have HNs:Hid (∀ j,((joinL (stg a b k) (l.take q)).getD j dm).ok):=ns_get (ns_join _ _ HKT.out.oks0 (fun x hx=>HKT.out.oks x (List.mem_of_mem_take hx)))
     have HL:Hid ((joinL (stg a b k) (l.take q)).length≤80):=by
      have h1:=joinL_len (l.take q) (stg a b k)
      have h2:(l.take q).length≤q:=List.length_take_le _ _
      have h3:=HKT.out.len0
      show (joinL (stg a b k) (l.take q)).length≤80
      omega
     generalize l.getD q dm=m at *
     generalize joinL (stg a b k) (l.take q)=known at *
     have hl40:known.length≤80:=HL.out
     obtain ⟨W1,hW1⟩:∃ W1,W1=wr.alloc (.cells #[.string m.node,.string m.idn,.string m.name,.string m.tag,.int .i64 m.addr,.int .i64 m.port,.bool m.passing,.int .i64 m.version,.bool m.gone] 42):=⟨_,rfl⟩
     have hb1:Below wr.heap.size wr W1:=by rw [hW1];exact (Below.refl _ _).alloc (Nat.le_refl _) _
     have hs1:W1.heap.size=wr.heap.size+1:=by rw [hW1];simp
     have hg1:W1.heap[wr.heap.size]?=some (.cells #[.string m.node,.string m.idn,.string m.name,.string m.tag,.int .i64 m.addr,.int .i64 m.port,.bool m.passing,.int .i64 m.version,.bool m.gone] 42 (0,0)):=by rw [hW1];exact heap_alloc_new wr _
     have HO1:Hid (Own w.heap.size W1 u7 known):=HO.out.below hb1
     have HF:Hid (Calls Tryz.prog 239 #[u7,.agg #[.string m.node,.string m.idn,.string m.name,.string m.tag,.int .i64 m.addr,.int .i64 m.port,.bool m.passing,.int .i64 m.version,.bool m.gone],.func (.func 184) #[] #[]] W1 fun e w'=>∃ (p:Nat) (f:Bool),e=.returned (.tuple #[.int .i64 p,.bool f])∧Below W1.heap.size W1 w'∧At known m p f):=
      find_any known u7 m W1 (HO1.out.sl HNs.out) HL.out HR.out
     have HB1:Hid (Below w.heap.size w W1):=hbl.trans (hb1.mono hsz)
     have HT:Hid (∀ o,W1.cell? ⟨wr.heap.size,o,none⟩=#[.string m.node,.string m.idn,.string m.name,.string m.tag,.int .i64 m.addr,.int .i64 m.port,.bool m.passing,.int .i64 m.version,.bool m.gone][o]?):=fun o=>cellsAt hg1 o
     have HW1:Hid (W1=wr.alloc (.cells #[.string m.node,.string m.idn,.string m.name,.string m.tag,.int .i64 m.addr,.int .i64 m.port,.bool m.passing,.int .i64 m.version,.bool m.gone] 42)):=hW1
     have hs1':w.heap.size≤W1.heap.size:=by omega
     clear hg1 hb1 HO HL HR hW1
     go_wp2_with fail
     rw [← HW1.out]
     refine HF.out.mono ?_
     rintro e w2 ⟨p,f,rfl,hb2,hat⟩
     have HAT:Hid (At known m p f):=hat
     have hpl2:p≤known.length:=hat.le
     have hsz2:=hb2.size
     have HO2:Hid (Own w.heap.size w2 u7 known):=HO1.out.below hb2
     have HB2:Hid (Below w.heap.size w w2):=HB1.out.trans (hb2.mono hs1')
     have t0:w2.cell? ⟨wr.heap.size,0,none⟩=some (.string m.node):=(hb2.cell (p:=⟨wr.heap.size,0,none⟩) (by show wr.heap.size < W1.heap.size;omega)).trans (HT.out 0)
     have t1:w2.cell? ⟨wr.heap.size,1,none⟩=some (.string m.idn):=(hb2.cell (p:=⟨wr.heap.size,1,none⟩) (by show wr.heap.size < W1.heap.size;omega)).trans (HT.out 1)
     have t2:w2.cell? ⟨wr.heap.size,2,none⟩=some (.string m.name):=(hb2.cell (p:=⟨wr.heap.size,2,none⟩) (by show wr.heap.size < W1.heap.size;omega)).trans (HT.out 2)
     have t3:w2.cell? ⟨wr.heap.size,3,none⟩=some (.string m.tag):=(hb2.cell (p:=⟨wr.heap.size,3,none⟩) (by show wr.heap.size < W1.heap.size;omega)).trans (HT.out 3)
     have t4:w2.cell? ⟨wr.heap.size,4,none⟩=some (.int .i64 m.addr):=(hb2.cell (p:=⟨wr.heap.size,4,none⟩) (by show wr.heap.size < W1.heap.size;omega)).trans (HT.out 4)
     have t5:w2.cell? ⟨wr.heap.size,5,none⟩=some (.int .i64 m.port):=(hb2.cell (p:=⟨wr.heap.size,5,none⟩) (by show wr.heap.size < W1.heap.size;omega)).trans (HT.out 5)
     have t6:w2.cell? ⟨wr.heap.size,6,none⟩=some (.bool m.passing):=(hb2.cell (p:=⟨wr.heap.size,6,none⟩) (by show wr.heap.size < W1.heap.size;omega)).trans (HT.out 6)
     have t7:w2.cell? ⟨wr.heap.size,7,none⟩=some (.int .i64 m.version):=(hb2.cell (p:=⟨wr.heap.size,7,none⟩) (by show wr.heap.size < W1.heap.size;omega)).trans (HT.out 7)
     have t8:w2.cell? ⟨wr.heap.size,8,none⟩=some (.bool m.gone):=(hb2.cell (p:=⟨wr.heap.size,8,none⟩) (by show wr.heap.size < W1.heap.size;omega)).trans (HT.out 8)
     have hs2:w.heap.size≤w2.heap.size:=by omega
     have hs2':wr.heap.size < w2.heap.size:=by omega
     clear hat HF hbc hbf c0 c1 c2 c3 c4 c5 c6 c7 c8 hb2 HO1 HB1 HT
     cases f
     ·have hne:Hid (u7.ownBlock≠some w2.heap.size):=fun e=>by have:=HO2.out.lt _ e;omega
      have HO3:Hid (Own w.heap.size (w2.alloc (.cells #[.string m.node,.string m.idn,.string m.name,.string m.tag,.int .i64 m.addr,.int .i64 m.port,.bool m.passing,.int .i64 m.version,.bool m.gone] 42)) u7 known):=HO2.out.below ((Below.refl _ _).alloc (Nat.le_refl _) _)
      have hvb:Hid ((w2.alloc (.cells #[.string m.node,.string m.idn,.string m.name,.string m.tag,.int .i64 m.addr,.int .i64 m.port,.bool m.passing,.int .i64 m.version,.bool m.gone] 42)).heap[w2.heap.size]?=some (.cells m.cs.toArray 42 (0,0))):=heap_alloc_new w2 _
      go_wp2_with (go_at_call 240;refine (insert_any w.heap.size p w2.heap.size u7 known m _ HO3.out HAT.out.le (by omega) (by simp;omega) hvb.out hne.out).mono ?_;rintro e w4 ⟨v',rfl,g1,g2⟩)
      go_roundw
      case rel=>
       have hfin:∃ q_1:Nat,q_1≤nl∧Value.int .i64 ((q:Int)+1)=.int .i64 q_1∧Below w.heap.size w w4∧Hid (Own w.heap.size w4 v' (joinL (stg a b k) (l.take q_1))):=⟨q+1,by omega,by go_num,below_grown (HB2.out.alloc hs2 _) HO3.out g2 (by simp;omega),by rw [HJ.out,hearL_at known m p false HAT.out];exact g1⟩
       first | exact hfin | ((repeat apply Exists.intro);exact ⟨hfin,rfl⟩)
      case measure=>simp [intOf];omega
     ·have hp:p < known.length:=(HAT.out.is.1 rfl).1
      obtain ⟨g,c,hu⟩:=own_form HO2.out p hp
      subst hu
      obtain ⟨c0,c1,c2,c3,c4,c5,c6,c7,c8⟩:=own_cells HO2.out p hp
      have hgl:=HO2.out.lt g rfl
      have hgl2:g < w2.heap.size:=hgl.2
      generalize hm:known.getD p dm=m2 at *
      have Hm:Hid (known.getD p dm=m2):=hm
      clear hm
      have hN:∀ d os,Calls Tryz.prog 199 #[.agg #[.string m.node,.string m.idn,.string m.name,.string m.tag,.int .i64 m.addr,.int .i64 m.port,.bool m.passing,.int .i64 m.version,.bool m.gone],.agg #[.string m2.node,.string m2.idn,.string m2.name,.string m2.tag,.int .i64 m2.addr,.int .i64 m2.port,.bool m2.passing,.int .i64 m2.version,.bool m2.gone]] (Go.Sort.grow (redrawn w2 d) os) fun e w''=>e=.returned (.bool (newE m m2))∧∃ p:Regrown,w''=Go.Sort.grow (redrawn w2 p.d) p.os:=fun d os=>Calls.regrown_of (newerE_any m m2 _)
      have F0:∀ d os,(Go.Sort.grow (redrawn w2 d) os).cell? ⟨g,p * 9,none⟩=some (.string m2.node):=cell_regrown c0
      have F1:∀ d os,(Go.Sort.grow (redrawn w2 d) os).cell? ⟨g,p * 9+1,none⟩=some (.string m2.idn):=cell_regrown c1
      have F2:∀ d os,(Go.Sort.grow (redrawn w2 d) os).cell? ⟨g,p * 9+2,none⟩=some (.string m2.name):=cell_regrown c2
      have F3:∀ d os,(Go.Sort.grow (redrawn w2 d) os).cell? ⟨g,p * 9+3,none⟩=some (.string m2.tag):=cell_regrown c3
      have F4:∀ d os,(Go.Sort.grow (redrawn w2 d) os).cell? ⟨g,p * 9+4,none⟩=some (.int .i64 m2.addr):=cell_regrown c4
      have F5:∀ d os,(Go.Sort.grow (redrawn w2 d) os).cell? ⟨g,p * 9+5,none⟩=some (.int .i64 m2.port):=cell_regrown c5
      have F6:∀ d os,(Go.Sort.grow (redrawn w2 d) os).cell? ⟨g,p * 9+6,none⟩=some (.bool m2.passing):=cell_regrown c6
      have F7:∀ d os,(Go.Sort.grow (redrawn w2 d) os).cell? ⟨g,p * 9+7,none⟩=some (.int .i64 m2.version):=cell_regrown c7
      have F8:∀ d os,(Go.Sort.grow (redrawn w2 d) os).cell? ⟨g,p * 9+8,none⟩=some (.bool m2.gone):=cell_regrown c8
      have G0:∀ d os,(Go.Sort.grow (redrawn w2 d) os).cell? ⟨wr.heap.size,0,none⟩=some (.string m.node):=cell_regrown t0
      have G1:∀ d os,(Go.Sort.grow (redrawn w2 d) os).cell? ⟨wr.heap.size,1,none⟩=some (.string m.idn):=cell_regrown t1
      have G2:∀ d os,(Go.Sort.grow (redrawn w2 d) os).cell? ⟨wr.heap.size,2,none⟩=some (.string m.name):=cell_regrown t2
      have G3:∀ d os,(Go.Sort.grow (redrawn w2 d) os).cell? ⟨wr.heap.size,3,none⟩=some (.string m.tag):=cell_regrown t3
      have G4:∀ d os,(Go.Sort.grow (redrawn w2 d) os).cell? ⟨wr.heap.size,4,none⟩=some (.int .i64 m.addr):=cell_regrown t4
      have G5:∀ d os,(Go.Sort.grow (redrawn w2 d) os).cell? ⟨wr.heap.size,5,none⟩=some (.int .i64 m.port):=cell_regrown t5
      have G6:∀ d os,(Go.Sort.grow (redrawn w2 d) os).cell? ⟨wr.heap.size,6,none⟩=some (.bool m.passing):=cell_regrown t6
      have G7:∀ d os,(Go.Sort.grow (redrawn w2 d) os).cell? ⟨wr.heap.size,7,none⟩=some (.int .i64 m.version):=cell_regrown t7
      have G8:∀ d os,(Go.Sort.grow (redrawn w2 d) os).cell? ⟨wr.heap.size,8,none⟩=some (.bool m.gone):=cell_regrown t8
      have hfz:∀ o,w2.frozen? ⟨g,o,none⟩=false:=fun o=>World.ownsRow.frozenAt HO2.out o
      have HFZ:Hid (∀ o,w2.frozen? ⟨g,o,none⟩=false):=hfz
      clear c0 c1 c2 c3 c4 c5 c6 c7 c8 hfz
      have HT:Hid (w2.cell? ⟨wr.heap.size,0,none⟩=some (.string m.node)∧w2.cell? ⟨wr.heap.size,1,none⟩=some (.string m.idn)∧w2.cell? ⟨wr.heap.size,2,none⟩=some (.string m.name)∧w2.cell? ⟨wr.heap.size,3,none⟩=some (.string m.tag)∧w2.cell? ⟨wr.heap.size,4,none⟩=some (.int .i64 m.addr)∧w2.cell? ⟨wr.heap.size,5,none⟩=some (.int .i64 m.port)∧w2.cell? ⟨wr.heap.size,6,none⟩=some (.bool m.passing)∧w2.cell? ⟨wr.heap.size,7,none⟩=some (.int .i64 m.version)∧w2.cell? ⟨wr.heap.size,8,none⟩=some (.bool m.gone)):=⟨t0,t1,t2,t3,t4,t5,t6,t7,t8⟩
      clear t0 t1 t2 t3 t4 t5 t6 t7 t8
      generalize hnw:newE m m2=nw at *
      have Hnw:Hid (newE m m2=nw):=hnw
      clear hnw
      cases nw
      ·go_wp2_with fail
       refine wp_region_quiet_below (by kernel_rfl) (by kernel_rfl) ?_
       repeat (quiet_step (exact hN _ _))
       refine wpQuiet_nil ?_
       intro _ hw'
       obtain ⟨⟨dq,osq⟩,hw''⟩:=hw'
       subst hw''
       have HBQ:Hid (Below w2.heap.size w2 (Go.Sort.grow (redrawn w2 dq) osq)):=below_regrown w2 dq osq
       clear hN F0 F1 F2 F3 F4 F5 F6 F7 F8 G0 G1 G2 G3 G4 G5 G6 G7 G8
       go_wp2_with fail
       go_roundw
       case rel=>
        have hfin:∃ q_1:Nat,q_1≤nl∧Value.int .i64 ((q:Int)+1)=.int .i64 q_1∧Below w.heap.size w (Go.Sort.grow (redrawn w2 dq) osq)∧Hid (Own w.heap.size (Go.Sort.grow (redrawn w2 dq) osq) (.slice (some ⟨g,0,none⟩) known.length c) (joinL (stg a b k) (l.take q_1))):=⟨q+1,by omega,by go_num,HB2.out.trans (HBQ.out.mono hs2),by rw [HJ.out,hearL_at known m p true HAT.out,if_pos rfl,Hm.out,if_neg (fun h=>Bool.false_ne_true (Hnw.out.symm.trans h))];exact HO2.out.below HBQ.out⟩
        first | exact hfin | ((repeat apply Exists.intro);exact ⟨hfin,rfl⟩)
       case measure=>simp [intOf];omega
      ·go_wp2_with fail
       refine wp_region_quiet_below (by kernel_rfl) (by kernel_rfl) ?_
       repeat (quiet_step (exact hN _ _))
       refine wpQuiet_nil ?_
       intro _ hw'
       obtain ⟨⟨dq,osq⟩,hw''⟩:=hw'
       subst hw''
       have HBQ:Hid (Below w2.heap.size w2 (Go.Sort.grow (redrawn w2 dq) osq)):=below_regrown w2 dq osq
       clear hN F0 F1 F2 F3 F4 F5 F6 F7 F8 G0 G1 G2 G3 G4 G5 G6 G7 G8
       generalize Go.Sort.grow (redrawn w2 dq) osq=w3 at *
       have HO3:Hid (Own w.heap.size w3 (.slice (some ⟨g,0,none⟩) known.length c) known):=HO2.out.below HBQ.out
       obtain ⟨c0,c1,c2,c3,c4,c5,c6,c7,c8⟩:=own_cells HO3.out p hp
       rw [Hm.out] at c0 c1 c2 c3 c4 c5 c6 c7 c8
       have hg3:g < w3.heap.size:=(HO3.out.lt g rfl).2
       have hfz:∀ o,w3.frozen? ⟨g,o,none⟩=false:=fun o=>World.ownsRow.frozenAt HO3.out o
       obtain ⟨t0,t1,t2,t3,t4,t5,t6,t7,t8⟩:=HT.out
       have s0:w3.cell? ⟨wr.heap.size,0,none⟩=some (.string m.node):=(HBQ.out.cell (p:=⟨wr.heap.size,0,none⟩) hs2').trans t0
       have s1:w3.cell? ⟨wr.heap.size,1,none⟩=some (.string m.idn):=(HBQ.out.cell (p:=⟨wr.heap.size,1,none⟩) hs2').trans t1
       have s2:w3.cell? ⟨wr.heap.size,2,none⟩=some (.string m.name):=(HBQ.out.cell (p:=⟨wr.heap.size,2,none⟩) hs2').trans t2
       have s3:w3.cell? ⟨wr.heap.size,3,none⟩=some (.string m.tag):=(HBQ.out.cell (p:=⟨wr.heap.size,3,none⟩) hs2').trans t3
       have s4:w3.cell? ⟨wr.heap.size,4,none⟩=some (.int .i64 m.addr):=(HBQ.out.cell (p:=⟨wr.heap.size,4,none⟩) hs2').trans t4
       have s5:w3.cell? ⟨wr.heap.size,5,none⟩=some (.int .i64 m.port):=(HBQ.out.cell (p:=⟨wr.heap.size,5,none⟩) hs2').trans t5
       have s6:w3.cell? ⟨wr.heap.size,6,none⟩=some (.bool m.passing):=(HBQ.out.cell (p:=⟨wr.heap.size,6,none⟩) hs2').trans t6
       have s7:w3.cell? ⟨wr.heap.size,7,none⟩=some (.int .i64 m.version):=(HBQ.out.cell (p:=⟨wr.heap.size,7,none⟩) hs2').trans t7
       have s8:w3.cell? ⟨wr.heap.size,8,none⟩=some (.bool m.gone):=(HBQ.out.cell (p:=⟨wr.heap.size,8,none⟩) hs2').trans t8
       clear t0 t1 t2 t3 t4 t5 t6 t7 t8
       go_wp2_with fail
       refine ⟨⟨q+1,by omega,by go_num,?_,?_⟩,by simp [intOf];omega⟩
       ·exact ((((((((((HB2.out.trans (HBQ.out.mono hs2)).setCell (p:=⟨g,p * 9,none⟩) hgl.1 (.string m.node)).setCell (p:=⟨g,p * 9+1,none⟩) hgl.1 (.string m.idn)).setCell (p:=⟨g,p * 9+2,none⟩) hgl.1 (.string m.name)).setCell (p:=⟨g,p * 9+3,none⟩) hgl.1 (.string m.tag)).setCell (p:=⟨g,p * 9+4,none⟩) hgl.1 (.int .i64 m.addr)).setCell (p:=⟨g,p * 9+5,none⟩) hgl.1 (.int .i64 m.port)).setCell (p:=⟨g,p * 9+6,none⟩) hgl.1 (.bool m.passing)).setCell (p:=⟨g,p * 9+7,none⟩) hgl.1 (.int .i64 m.version)).setCell (p:=⟨g,p * 9+8,none⟩) hgl.1 (.bool m.gone))
       ·rw [HJ.out,hearL_at known m p true HAT.out,if_pos rfl,Hm.out,if_pos Hnw.out]
        exact own_set HO3.out hp m
    ·have hqn:q=nl:=by omega
     subst hqn
     have HO3:Hid (Own w.heap.size wr u7 (stg a b (k+1))):=by
      have h:=HO.out
      rw [List.take_of_length_le (by rw [HNL.out];exact Nat.le_refl _)] at h
      rw [HKT.out.step];exact h
     go_wp2_with fail
     go_roundw
     case rel=>exact ⟨k+1,by omega,by go_num,hbl,HO3⟩
     case measure=>simp [intOf];omega
  ·have hk3:k=2:=by omega
   subst hk3
   go_wp2_with fail
   go_ret
   exact ⟨_,rfl,HO.out,hbl⟩
end Sv
namespace Sv
open Go.RowKit
theorem tag_any (t:ByteArray) (W:World) (g:Nat) (hs:t.size≤maxLen) (hg:W.heap[g]?=some (.cells #[.string t] 9 (0,0))) :
 Calls Tryz.prog 231 #[.slice (some ⟨g,0,none⟩) 1 1] W fun e w'=>e=.returned (.bool (tagB t))∧w'=W:=labE_any t W g hs hg
def lab3 (m:Svc):Bool:=[m.node,m.idn,m.name].all labB
theorem Svc.e_def (m:Svc):m.e=if lab3 m=true then (if tagB m.tag=true then (if within m.addr 0 4294967295=true then (if within m.port 0 65535=true then (if within m.version 1 1000000=true then 0 else 3) else 3) else 3) else 1) else 1:=by
 unfold Svc.e lab3
 simp only [List.all_cons,List.all_nil,Bool.and_true]
 cases labB m.node<;>cases labB m.idn<;>cases labB m.name<;>cases tagB m.tag<;>cases within m.addr 0 4294967295<;>cases within m.port 0 65535<;>cases within m.version 1 1000000<;>rfl
theorem labels3_any (m:Svc) (hm:m.ok) (W:World) (g:Nat) (hg:W.heap[g]?=some (.cells #[.string m.node,.string m.idn,.string m.name] 9 (0,0))) :
 Calls Tryz.prog 38 #[.slice (some ⟨g,0,none⟩) 3 3] W fun e w'=>e=.returned (.bool (lab3 m))∧w'=W:=by
 refine labels_any [m.node,m.idn,m.name] g 3 W (fun j hj=>?_) (fun j=>?_) (by simp)
 ·rw [cellsAt hg]
  have:j=0∨j=1∨j=2:=by simp at hj;omega
  rcases this with rfl | rfl | rfl<;>rfl
 ·obtain ⟨h1,h2,h3,h4⟩:=hm
  match j with
  | 0=>exact h1
  | 1=>exact h2
  | 2=>exact h3
  | _+3=>simp [List.getD]
set_option maxHeartbeats 1600000 in
theorem checkOneE_any (m:Svc) (w:World) (hm:m.ok) :
 Calls Tryz.prog 182 #[.agg #[.string m.node,.string m.idn,.string m.name,.string m.tag,.int .i64 m.addr,.int .i64 m.port,.bool m.passing,.int .i64 m.version,.bool m.gone]] w fun e w'=>e=.returned (.int .i64 m.e)∧Below w.heap.size w w':=by
 have hs:m.tag.size≤maxLen:=hm.2.2.2
 have hB:Hid (Below w.heap.size w ((w.alloc (.cells #[.string m.node,.string m.idn,.string m.name,.string m.tag,.int .i64 m.addr,.int .i64 m.port,.bool m.passing,.int .i64 m.version,.bool m.gone] 42)).alloc (.cells #[.string m.node,.string m.idn,.string m.name] 9))):=((Below.refl _ _).alloc (Nat.le_refl _) _).alloc (by simp) _
 have hg:((w.alloc (.cells #[.string m.node,.string m.idn,.string m.name,.string m.tag,.int .i64 m.addr,.int .i64 m.port,.bool m.passing,.int .i64 m.version,.bool m.gone] 42)).alloc (.cells #[.string m.node,.string m.idn,.string m.name] 9)).heap[w.heap.size+1]?=some (.cells #[.string m.node,.string m.idn,.string m.name] 9 (0,0)):=by
  have h:=heap_alloc_new (w.alloc (.cells #[.string m.node,.string m.idn,.string m.name,.string m.tag,.int .i64 m.addr,.int .i64 m.port,.bool m.passing,.int .i64 m.version,.bool m.gone] 42)) (.cells #[.string m.node,.string m.idn,.string m.name] 9)
  simpa using h
 have HL:Hid (Calls Tryz.prog 38 #[.slice (some ⟨w.heap.size+1,0,none⟩) 3 3] ((w.alloc (.cells #[.string m.node,.string m.idn,.string m.name,.string m.tag,.int .i64 m.addr,.int .i64 m.port,.bool m.passing,.int .i64 m.version,.bool m.gone] 42)).alloc (.cells #[.string m.node,.string m.idn,.string m.name] 9)) fun e w'=>e=.returned (.bool (lab3 m))∧w'=(w.alloc (.cells #[.string m.node,.string m.idn,.string m.name,.string m.tag,.int .i64 m.addr,.int .i64 m.port,.bool m.passing,.int .i64 m.version,.bool m.gone] 42)).alloc (.cells #[.string m.node,.string m.idn,.string m.name] 9)):=labels3_any m hm _ _ hg
 clear hg
 have hB3:Hid (Below w.heap.size w (((w.alloc (.cells #[.string m.node,.string m.idn,.string m.name,.string m.tag,.int .i64 m.addr,.int .i64 m.port,.bool m.passing,.int .i64 m.version,.bool m.gone] 42)).alloc (.cells #[.string m.node,.string m.idn,.string m.name] 9)).alloc (.cells #[.string m.tag] 9))):=hB.out.alloc (by simp;omega) _
 have hg3:(((w.alloc (.cells #[.string m.node,.string m.idn,.string m.name,.string m.tag,.int .i64 m.addr,.int .i64 m.port,.bool m.passing,.int .i64 m.version,.bool m.gone] 42)).alloc (.cells #[.string m.node,.string m.idn,.string m.name] 9)).alloc (.cells #[.string m.tag] 9)).heap[w.heap.size+2]?=some (.cells #[.string m.tag] 9 (0,0)):=by
  have h:=heap_alloc_new ((w.alloc (.cells #[.string m.node,.string m.idn,.string m.name,.string m.tag,.int .i64 m.addr,.int .i64 m.port,.bool m.passing,.int .i64 m.version,.bool m.gone] 42)).alloc (.cells #[.string m.node,.string m.idn,.string m.name] 9)) (.cells #[.string m.tag] 9)
  simpa using h
 have HT:Hid (Calls Tryz.prog 231 #[.slice (some ⟨w.heap.size+2,0,none⟩) 1 1] (((w.alloc (.cells #[.string m.node,.string m.idn,.string m.name,.string m.tag,.int .i64 m.addr,.int .i64 m.port,.bool m.passing,.int .i64 m.version,.bool m.gone] 42)).alloc (.cells #[.string m.node,.string m.idn,.string m.name] 9)).alloc (.cells #[.string m.tag] 9)) fun e w'=>e=.returned (.bool (tagB m.tag))∧w'=(((w.alloc (.cells #[.string m.node,.string m.idn,.string m.name,.string m.tag,.int .i64 m.addr,.int .i64 m.port,.bool m.passing,.int .i64 m.version,.bool m.gone] 42)).alloc (.cells #[.string m.node,.string m.idn,.string m.name] 9)).alloc (.cells #[.string m.tag] 9))):=tag_any m.tag _ _ hs hg3
 clear hg3
 have HD:Hid (m.e=if lab3 m=true then (if tagB m.tag=true then (if within m.addr 0 4294967295=true then (if within m.port 0 65535=true then (if within m.version 1 1000000=true then 0 else 3) else 3) else 3) else 1) else 1):=m.e_def
 clear hm
 rcases h1:lab3 m with _ | _
 ·go_enter Tryz.func182,Tryz.ntmps182
  go_wp2_with (go_at_call 38;refine HL.out.mono ?_;rintro e w' ⟨rfl,rfl⟩;rw [h1])
  go_ret
  exact ⟨ret_int (by rw [HD.out];simp [h1]),hB.out⟩
 ·rcases h2:tagB m.tag with _ | _
  ·go_enter Tryz.func182,Tryz.ntmps182
   go_wp2_with (first | (go_at_call 38;refine HL.out.mono ?_;rintro e w' ⟨rfl,rfl⟩;rw [h1]) | (go_at_call 231;refine HT.out.mono ?_;rintro e w' ⟨rfl,rfl⟩;rw [h2]))
   go_ret
   exact ⟨ret_int (by rw [HD.out];simp [h1,h2]),hB3.out⟩
  ·rcases h3:within m.addr 0 4294967295 with _ | _
   ·go_enter Tryz.func182,Tryz.ntmps182
    go_wp2_with (first | (go_at_call 38;refine HL.out.mono ?_;rintro e w' ⟨rfl,rfl⟩;rw [h1]) | (go_at_call 231;refine HT.out.mono ?_;rintro e w' ⟨rfl,rfl⟩;rw [h2]) | (go_at_call 39;refine (address_any _ _).mono ?_;rintro e w' ⟨rfl,rfl⟩;rw [h3]))
    go_ret
    exact ⟨ret_int (by rw [HD.out];simp [h1,h2,h3]),hB3.out⟩
   ·rcases h4:within m.port 0 65535 with _ | _
    ·go_enter Tryz.func182,Tryz.ntmps182
     go_wp2_with (first | (go_at_call 38;refine HL.out.mono ?_;rintro e w' ⟨rfl,rfl⟩;rw [h1]) | (go_at_call 231;refine HT.out.mono ?_;rintro e w' ⟨rfl,rfl⟩;rw [h2]) | (go_at_call 39;refine (address_any _ _).mono ?_;rintro e w' ⟨rfl,rfl⟩;rw [h3]) | (go_at_call 76;refine (within_any _ _ _ _).mono ?_;rintro e w' ⟨rfl,rfl⟩;rw [h4]))
     go_ret
     exact ⟨ret_int (by rw [HD.out];simp [h1,h2,h3,h4]),hB3.out⟩
    ·rcases h5:within m.version 1 1000000 with _ | _
     all_goals
      go_enter Tryz.func182,Tryz.ntmps182
      go_wp2_with (first | (go_at_call 38;refine HL.out.mono ?_;rintro e w' ⟨rfl,rfl⟩;rw [h1]) | (go_at_call 231;refine HT.out.mono ?_;rintro e w' ⟨rfl,rfl⟩;rw [h2]) | (go_at_call 39;refine (address_any _ _).mono ?_;rintro e w' ⟨rfl,rfl⟩;rw [h3]) | (go_at_call 76;refine (within_any _ _ _ _).mono ?_;rintro e w' ⟨rfl,rfl⟩;first | rw [h4] | rw [h5]))
      go_ret
      exact ⟨ret_int (by rw [HD.out];simp [h1,h2,h3,h4,h5]),hB3.out⟩
set_option maxHeartbeats 800000 in
theorem check_row (ms:List Svc) (b off cap:Nat) (w:World) (hr:Row w b off ms) (hb:b < w.heap.size) (hn:ms.length≤40) (hs:∀ j,(ms.getD j dm).ok) :
 Calls Tryz.prog 127 #[.slice (some ⟨b,off,none⟩) ms.length cap] w fun e w'=>e=.returned (.int .i64 (chk ms))∧Below w.heap.size w w':=by
 have HR:Hid (Row w b off ms):=hr
 have HE:Hid (∀ k,k < ms.length→(∀ j,j < k→(ms.getD j dm).e=0)→(ms.getD k dm).e≠0→chk ms=(ms.getD k dm).e):=fun k h1 h2 h3=>chk_e ms k hn h1 h2 h3
 have H4:Hid ((∀ j,j < ms.length→(ms.getD j dm).e=0)→chk ms=if risesB ms=true then 0 else 4):=fun h1=>chk_r ms hn h1
 have HSl:Hid (∀ w',Below w.heap.size w w'→Calls Tryz.prog 183 #[.slice (some ⟨b,off,none⟩) ms.length cap,.func (.func 184) #[] #[]] w' fun e w''=>e=.returned (.bool (risesB ms))∧Below w'.heap.size w' w''):=fun w' hbw=>rises_row ms b off cap w' (hr.later hbw hb) (Nat.lt_of_lt_of_le hb hbw.size) hn
 clear hr
 generalize hN:ms.length=n at *
 have HN:Hid (ms.length=n):=hN
 clear hN
 have HS:Hid (∀ j,(ms.getD j dm).ok):=hs
 clear hs
 generalize hC:chk ms=res at *
 have HC:Hid (chk ms=res):=hC
 clear hC
 generalize hRB:risesB ms=rb at *
 have HRB:Hid (risesB ms=rb):=hRB
 clear hRB
 go_enter Tryz.func127,Tryz.ntmps127
 go_wp2_with fail
 go_loopw [11] (fun i w'=>∃ k:Nat,k≤n∧i=.int .i64 k∧Below w.heap.size w w'∧Hid (∀ j,j < k→(ms.getD j dm).e=0)) (fun i _=>n - (intOf i).toNat)
 case atStart=>exact ⟨0,Nat.zero_le _,rfl,Below.refl _ _,fun j h=>absurd h (Nat.not_lt_zero _)⟩
 case round=>
  obtain ⟨k,hk,rfl,hbl,hz⟩:=hrel
  obtain ⟨hbc,hbf⟩:=bcell hbl
  have hsz:=hbl.size
  by_cases hlt:k < n
  ·obtain ⟨c0,c1,c2,c3,c4,c5,c6,c7,c8⟩:=HR.out k (by rw [HN.out];exact hlt)
   have HSK:Hid ((ms.getD k dm).ok):=HS.out k
   have HK:Hid ((ms.getD k dm).e≠0→res=(ms.getD k dm).e):=fun h=>HE.out k hlt hz.out h
   have HZ:Hid ((ms.getD k dm).e=0→∀ j,j < k+1→(ms.getD j dm).e=0):=fun h j hj=>by
    rcases Nat.lt_succ_iff_lt_or_eq.1 hj with h2 | rfl
    ·exact hz.out j h2
    ·exact h
   generalize ms.getD k dm=m at *
   have HO:Hid (∀ w,Calls Tryz.prog 182 #[.agg #[.string m.node,.string m.idn,.string m.name,.string m.tag,.int .i64 m.addr,.int .i64 m.port,.bool m.passing,.int .i64 m.version,.bool m.gone]] w fun e w'=>e=.returned (.int .i64 m.e)∧Below w.heap.size w w'):=fun w=>checkOneE_any m w HSK.out
   generalize m.e=me at *
   rcases he:decide (me=0) with _ | _
   ·have he':(me != 0)=true:=by simpa using he
    clear he
    go_wp2_with (go_at_call 182;refine (HO.out _).mono ?_;rintro e w' ⟨rfl,hb2⟩)
    go_ret
    have hne:me≠0:=by simpa using he'
    have hres:res=me:=HK.out hne
    exact ⟨ret_int hres.symm,(hbl.alloc hsz _).trans (hb2.mono (by simp;omega))⟩
   ·have he':(me != 0)=false:=by simpa using he
    clear he
    go_wp2_with (go_at_call 182;refine (HO.out _).mono ?_;rintro e w' ⟨rfl,hb2⟩)
    go_roundw
    case rel=>
     have he0:me=0:=by simpa using he'
     exact ⟨k+1,by omega,by go_num,(hbl.alloc hsz _).trans (hb2.mono (by simp;omega)),HZ.out he0⟩
    case measure=>simp [intOf];omega
  ·have hall:Hid (∀ j,j < n→(ms.getD j dm).e=0):=fun j hj=>hz.out j (by omega)
   have HRes:Hid (res=if rb=true then 0 else 4):=H4.out hall.out
   clear hz hall H4 HE HC HRB
   cases rb
   ·go_wp2_with (go_at_call 183;refine (HSl.out _ hbl).mono ?_;rintro e w' ⟨rfl,hb2⟩)
    go_ret
    exact ⟨ret_int (by rw [HRes.out];rfl),hbl.trans (hb2.mono hsz)⟩
   ·go_wp2_with (go_at_call 183;refine (HSl.out _ hbl).mono ?_;rintro e w' ⟨rfl,hb2⟩)
    go_ret
    exact ⟨ret_int (by rw [HRes.out];rfl),hbl.trans (hb2.mono hsz)⟩
set_option maxHeartbeats 400000 in
theorem check_many (a:Option Addr) (n cap:Nat) (w:World) (hn:40 < n) :
 Calls Tryz.prog 127 #[.slice a n cap] w fun e w'=>e=.returned (.int .i64 2)∧w'=w:=by
 go_enter Tryz.func127,Tryz.ntmps127
 go_wp2_with fail
 go_ret
 exact ⟨rfl,rfl⟩
set_option maxHeartbeats 400000 in
theorem check_none (a:Option Addr) (cap:Nat) (w:World) :
 Calls Tryz.prog 127 #[.slice a 0 cap] w fun e w'=>e=.returned (.int .i64 0)∧w'=w:=by
 go_enter Tryz.func127,Tryz.ntmps127
 go_wp2_with fail
 go_loop [11] (fun i=>i=.int .i64 0) (fun _=>0)
 case atStart=>rfl
 case round=>
  subst hrel
  go_wp2_with (go_at_call 183;refine (rises_none _ _ _ _).mono ?_;rintro e w' ⟨rfl,rfl⟩)
  go_ret
  exact ⟨rfl,rfl⟩
theorem check_any (ms:List Svc) (v:Value) (w:World) (h:Sl w v ms) :
 Calls Tryz.prog 127 #[v] w fun e w'=>e=.returned (.int .i64 (chk ms))∧Below w.heap.size w w':=by
 obtain ⟨a,cap,rfl,hs,h⟩:=h
 by_cases hn:40 < ms.length
 ·refine (check_many a ms.length cap w hn).mono ?_
  rintro e w' ⟨rfl,rfl⟩
  exact ⟨ret_int (by rw [chk,if_pos hn]),Below.refl _ _⟩
 ·rcases h with rfl | ⟨b,off,rfl,hb,hr⟩
  ·refine (check_none a cap w).mono ?_
   rintro e w' ⟨rfl,rfl⟩
   exact ⟨rfl,Below.refl _ _⟩
  ·exact check_row ms b off cap w hr hb (by omega) hs
set_option maxHeartbeats 800000 in
theorem checkAll_two (a b:List Svc) (va vb:Value) (pb cap:Nat) (w:World) (ha:Sl w va a) (hb:Sl w vb b) (hpb:pb < w.heap.size) (hc0:w.cell? ⟨pb,0,none⟩=some va) (hc1:w.cell? ⟨pb,1,none⟩=some vb) :
 Calls Tryz.prog 197 #[.slice (some ⟨pb,0,none⟩) 2 cap] w fun e w'=>e=.returned (.int .i64 (chkTwo a b))∧Below w.heap.size w w':=by
 have HA:Hid (Sl w va a):=ha
 have HB:Hid (Sl w vb b):=hb
 clear ha hb
 go_enter Tryz.func197,Tryz.ntmps197
 go_wp2_with fail
 go_loopw [8] (fun i w'=>∃ k:Nat,k≤2∧i=.int .i64 k∧Below w.heap.size w w'∧Hid (0 < k→chk a=0)∧Hid (1 < k→chk b=0)) (fun i _=>2 - (intOf i).toNat)
 case atStart=>exact ⟨0,by omega,rfl,Below.refl _ _,fun h=>by omega,fun h=>by omega⟩
 case round=>
  obtain ⟨k,hk,rfl,hbl,hz0,hz1⟩:=hrel
  obtain ⟨hbc,hbf⟩:=bcell hbl
  have hsz:=hbl.size
  have HA':Hid (Sl wr va a):=HA.out.below hbl
  have HB':Hid (Sl wr vb b):=HB.out.below hbl
  have hcases:k=0∨k=1∨k=2:=by omega
  rcases hcases with rfl | rfl | rfl
  ·rcases he:decide (chk a=0) with _ | _
   ·have he':(chk a != 0)=true:=by simpa using he
    clear he
    go_wp2_with (go_at_call 127;refine (check_any a _ _ HA'.out).mono ?_;rintro e w' ⟨rfl,hb2⟩)
    go_ret
    exact ⟨ret_int (by have h0:chk a≠0:=(by simpa using he');rw [chkTwo,if_neg h0]),hbl.trans (hb2.mono hsz)⟩
   ·have he':(chk a != 0)=false:=by simpa using he
    clear he
    go_wp2_with (go_at_call 127;refine (check_any a _ _ HA'.out).mono ?_;rintro e w' ⟨rfl,hb2⟩)
    go_roundw
    case rel=>exact ⟨1,by omega,by go_num,hbl.trans (hb2.mono hsz),fun _=>(by simpa using he'),fun h=>by omega⟩
    case measure=>simp [intOf]
  ·have h0:Hid (chk a=0):=hz0.out (by omega)
   rcases he:decide (chk b=0) with _ | _
   ·have he':(chk b != 0)=true:=by simpa using he
    clear he
    go_wp2_with (go_at_call 127;refine (check_any b _ _ HB'.out).mono ?_;rintro e w' ⟨rfl,hb2⟩)
    go_ret
    exact ⟨ret_int (by rw [chkTwo,if_pos h0.out]),hbl.trans (hb2.mono hsz)⟩
   ·have he':(chk b != 0)=false:=by simpa using he
    clear he
    go_wp2_with (go_at_call 127;refine (check_any b _ _ HB'.out).mono ?_;rintro e w' ⟨rfl,hb2⟩)
    go_roundw
    case rel=>exact ⟨2,by omega,by go_num,hbl.trans (hb2.mono hsz),fun _=>h0.out,fun _=>(by simpa using he')⟩
    case measure=>simp [intOf]
  ·go_wp2_with fail
   go_ret
   exact ⟨ret_int (by rw [chkTwo,if_pos (hz0.out (by omega)),hz1.out (by omega)]),hbl⟩
set_option maxHeartbeats 400000 in
theorem join_bad (a b:List Svc) (va vb:Value) (pb cap:Nat) (w:World) (ha:Sl w va a) (hb:Sl w vb b) (hpb:pb < w.heap.size) (hc0:w.cell? ⟨pb,0,none⟩=some va) (hc1:w.cell? ⟨pb,1,none⟩=some vb) (hne:chkTwo a b≠0) :
 Calls Tryz.prog 137 #[.slice (some ⟨pb,0,none⟩) 2 cap] w fun e w'=>e=.returned (.tuple #[.slice none 0 0,.int .i64 (joinE a b)])∧Below w.heap.size w w':=by
 have he:(chkTwo a b != 0)=true:=by simpa using hne
 have HE:Hid (joinE a b=chkTwo a b):=if_neg hne
 have hcon:=checkAll_two a b va vb pb cap w ha hb hpb hc0 hc1
 have HC:Hid (Calls Tryz.prog 197 #[.slice (some ⟨pb,0,none⟩) 2 cap] w fun e w'=>e=.returned (.int .i64 (chkTwo a b))∧Below w.heap.size w w'):=hcon
 clear hcon ha hb hne
 go_enter Tryz.func137,Tryz.ntmps137
 go_wp2_with (go_at_call 197;refine HC.out.mono ?_;rintro e w' ⟨rfl,hb2⟩)
 go_ret2
 exact ⟨by rw [HE.out];rfl,hb2⟩
set_option maxHeartbeats 1600000 in
set_option maxRecDepth 100000 in
theorem join_good (a b:List Svc) (va vb:Value) (pb cap:Nat) (w:World) (ha:Sl w va a) (hb:Sl w vb b) (hpb:pb < w.heap.size) (hc0:w.cell? ⟨pb,0,none⟩=some va) (hc1:w.cell? ⟨pb,1,none⟩=some vb) (h0:chkTwo a b=0) :
 Calls Tryz.prog 137 #[.slice (some ⟨pb,0,none⟩) 2 cap] w fun e w'=>∃ v',e=.returned (.tuple #[v',.int .i64 (joinE a b)])∧Below w.heap.size w w' ∧
  (40 < (joinL a b).length→v'=.slice none 0 0)∧((joinL a b).length≤40→Own w.heap.size w' v' (joinL a b)):=by
 have he:(chkTwo a b != 0)=false:=by simpa using h0
 have hca:chk a=0:=by unfold chkTwo at h0;split at h0<;>assumption
 have hcb:chk b=0:=by unfold chkTwo at h0;rw [if_pos hca] at h0;exact h0
 have za:=chk_zero hca
 have zb:=chk_zero hcb
 have HE:Hid (joinE a b=if 40 < (joinL a b).length then 2 else 0):=if_pos h0
 have HC:Hid (Calls Tryz.prog 197 #[.slice (some ⟨pb,0,none⟩) 2 cap] w fun e w'=>e=.returned (.int .i64 (chkTwo a b))∧Below w.heap.size w w'):=checkAll_two a b va vb pb cap w ha hb hpb hc0 hc1
 have HJ:Hid (∀ w1,Below w.heap.size w w1→Calls Tryz.prog 198 #[.func (.func 184) #[] #[],.func (.func 199) #[] #[],.slice (some ⟨pb,0,none⟩) 2 cap] w1 fun e w'=>∃ v',e=.returned v'∧Own w1.heap.size w' v' (joinL a b)∧Below w1.heap.size w1 w'):=fun w1 hb1=>
  rjoin_two a b va vb pb cap w1 (ha.below hb1) (hb.below hb1) (Nat.lt_of_lt_of_le hpb hb1.size) ((bcell hb1).1 pb 0 hpb |>.trans hc0) ((bcell hb1).1 pb 1 hpb |>.trans hc1) za.1 zb.1 za.2.1
 have hl40:(joinL a b).length≤80:=by have h1:=joinL_len b a;have h2:=za.1;have h3:=zb.1;omega
 clear h0 hca hcb za zb ha hb hc0 hc1
 generalize joinL a b=jl at *
 generalize hgn:jl.length=n at *
 have HGN:Hid (jl.length=n):=hgn
 clear hgn
 go_enter Tryz.func137,Tryz.ntmps137
 go_wp2_with (go_at_call 197;refine HC.out.mono ?_;rintro e w1 ⟨rfl,hb1⟩)
 refine (HJ.out w1 hb1).mono ?_
 rintro e w2 ⟨v',rfl,ho,hb2⟩
 have hform:∃ p c,v'=.slice p n c:=by
  have hn:=HGN.out
  rcases ho.2 with ⟨h,h0⟩ | ⟨g,c,cur,h,_⟩
  ·exact ⟨none,0,by rw [h];congr 1;omega⟩
  ·exact ⟨_,c,by rw [h,hn]⟩
 obtain ⟨p,c,rfl⟩:=hform
 have HBx:Hid (Below w.heap.size w w2):=hb1.trans (hb2.mono hb1.size)
 have HO3:Hid (Own w.heap.size w2 (.slice p n c) jl):=ho.mono hb1.size
 clear ho hb1 hb2 HC HJ
 by_cases hlt:40 < n
 ·go_wp2_with fail
  go_ret2
  refine ⟨_,by rw [HE.out,if_pos hlt];rfl,HBx.out,fun _=>rfl,fun h=>by omega⟩
 ·go_wp2_with fail
  go_ret2
  refine ⟨.slice p n c,by rw [HE.out,if_neg hlt];rfl,HBx.out,fun h=>by omega,fun _=>HO3.out⟩
end Sv
end Go.Proofs.YtffdoiokmiklgaaGreatDoor
