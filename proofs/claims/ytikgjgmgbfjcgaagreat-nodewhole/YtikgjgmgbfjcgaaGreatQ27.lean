import Derived.Test.YtikgjgmgbfjcgaaGreatQ12
import Derived.Test.YtikgjgmgbfjcgaaGreatQ21
namespace Go.Proofs.YtikgjgmgbfjcgaaGreat
namespace Wh
open Go.RowKit
theorem stg_len {a b:List Whe} (hla:a.length≤20) (hlb:b.length≤20) (k:Nat):(stg a b k).length≤40:=by
 unfold stg
 split
 ·simp
 ·split
  ·omega
  ·have:=joinL_len b a;omega
structure Kth (w:World) (pb:Nat) (a b:List Whe) (k:Nat) (l:List Whe) (pk:Option Addr) (ck:Nat):Prop where
 cell:w.cell? ⟨pb,k,none⟩=some (.slice pk l.length ck)
 row:l=[]∨∃ b off,pk=some ⟨b,off,none⟩∧b < w.heap.size∧Row w b off l
 oks:∀ m∈l,(m).ok
 len:l.length≤20
 len0:(stg a b k).length≤20
 rise0:Rise (stg a b k)
 oks0:∀ m∈stg a b k,(m).ok
 step:stg a b (k+1)=joinL (stg a b k) l
theorem kth_of {a b:List Whe} {va vb:Value} {pb:Nat} {w:World} (ha:Sl w va a) (hb:Sl w vb b) (hc0:w.cell? ⟨pb,0,none⟩=some va) (hc1:w.cell? ⟨pb,1,none⟩=some vb) (hla:a.length≤20) (hlb:b.length≤20) (ra:Rise a) (k:Nat) (hk:k < 2) :
 ∃ l pk ck,Kth w pb a b k l pk ck:=by
 obtain ⟨pa,ca,rfl,nsa,ha⟩:=ha
 obtain ⟨pv,cb,rfl,nsb,hb⟩:=hb
 have hcases:k=0∨k=1:=by omega
 rcases hcases with rfl | rfl
 ·exact ⟨a,pa,ca,hc0,ha,ns_mem nsa,hla,by simp [stg],by simp [stg],by simp [stg],(joinL_nil a ra).symm⟩
 ·exact ⟨b,pv,cb,hc1,hb,ns_mem nsb,hlb,hla,ra,ns_mem nsa,rfl⟩
set_option maxHeartbeats 4000000 in
set_option maxRecDepth 100000 in
theorem rjoin_two (a b:List Whe) (va vb:Value) (pb cap:Nat) (w:World) (ha:Sl w va a) (hb:Sl w vb b) (hpb:pb < w.heap.size) (hc0:w.cell? ⟨pb,0,none⟩=some va) (hc1:w.cell? ⟨pb,1,none⟩=some vb)
 (hla:a.length≤20) (hlb:b.length≤20) (ra:Rise a) :
 Calls Tryz.prog 177 #[.func (.func 170) #[] #[],.func (.func 176) #[] #[],.slice (some ⟨pb,0,none⟩) 2 cap] w fun e w'=>∃ v',e=.returned v'∧Own w.heap.size w' v' (joinL a b)∧Below w.heap.size w w':=by
 have HK:Hid (∀ k,k < 2→∃ l pk ck,Kth w pb a b k l pk ck):=fun k hk=>kth_of ha hb hc0 hc1 hla hlb ra k hk
 have HL2:Hid (∀ k,(stg a b k).length≤40):=stg_len hla hlb
 clear ha hb hc0 hc1 hla hlb ra
 go_enter Tryz.func177,Tryz.ntmps177
 go_wp2_with fail
 go_loopw [7,16] (fun kn i w'=>∃ k:Nat,k≤2∧i=.int .i64 k∧Below w.heap.size w w'∧Hid (Own w.heap.size w' kn (stg a b k))) (fun _ i _=>2 - (intOf i).toNat)
 case atStart=>exact ⟨0,by omega,rfl,Below.refl _ _,own_nil _ _⟩
 case round=>
  obtain ⟨k,hk,rfl,hbl,HO⟩:=hrel
  obtain ⟨hbc,hbf⟩:=bcell hbl
  have hsz:=hbl.size
  by_cases hk2:k < 2
  ·obtain ⟨l,pk,ck,hKth⟩:=HK.out k hk2
   have HKT:Hid (Kth w pb a b k l pk ck):=hKth
   have hcell:=hKth.cell
   clear hKth
   generalize hnl:l.length=nl at *
   have HNL:Hid (l.length=nl):=hnl
   clear hnl
   have hnl40:nl≤20:=by have:=HKT.out.len;have:=HNL.out;omega
   have hk2':(k:Int) < 2:=by omega
   go_wp2_with fail
   go_loopw [7,22] (fun kn j w'=>∃ q:Nat,q≤nl∧j=.int .i64 q∧Below w.heap.size w w'∧Hid (Own w.heap.size w' kn (joinL (stg a b k) (l.take q)))) (fun _ j _=>nl - (intOf j).toNat)
   case atStart=>exact ⟨0,Nat.zero_le _,rfl,hbl,HO⟩
   case round=>
    clear hbc hbf hsz hbl HO hcell
    obtain ⟨q,hq,rfl,hbl,HO⟩:=hrel
    obtain ⟨hbc,hbf⟩:=bcell hbl
    have hsz:=hbl.size
    by_cases hlt:q < nl
    ·obtain ⟨b2,off,hptr,hpl,hrow⟩:∃ b_1 off,pk=some ⟨b_1,off,none⟩∧b_1 < w.heap.size∧Row w b_1 off l:=by
      rcases HKT.out.row with h | h
      ·have:=HNL.out;rw [h] at this;simp at this;omega
      ·exact h
     subst hptr
     obtain ⟨c0,c1,c2,c3,c4,c5⟩:=hrow q (by rw [HNL.out];exact hlt)
     clear hrow
     have HJ:Hid (joinL (stg a b k) (l.take (q+1))=hearL (joinL (stg a b k) (l.take q)) (l.getD q dm)):=joinL_take (stg a b k) l q (by rw [HNL.out];exact hlt)
     have HR:Hid (Rise (joinL (stg a b k) (l.take q))):=joinL_rise _ _ HKT.out.rise0
     have HNs:Hid (∀ j,((joinL (stg a b k) (l.take q)).getD j dm).ok):=ns_get (ns_join _ _ HKT.out.oks0 (fun x hx=>HKT.out.oks x (List.mem_of_mem_take hx)))
     have HL:Hid ((joinL (stg a b k) (l.take q)).length≤40):=by
      have h1:=joinL_len (l.take q) (stg a b k)
      have h2:(l.take q).length≤q:=List.length_take_le _ _
      have h3:=HKT.out.len0
      show (joinL (stg a b k) (l.take q)).length≤40
      omega
     generalize l.getD q dm=m at *
     generalize joinL (stg a b k) (l.take q)=known at *
     have hl40:known.length≤40:=HL.out
     obtain ⟨W1,hW1⟩:∃ W1,W1=wr.alloc (.cells #[.string m.node,.int .i64 m.x,.int .i64 m.y,.int .i64 m.z,.int .i64 m.h,.int .i64 m.s] 104):=⟨_,rfl⟩
     have hb1:Below wr.heap.size wr W1:=by rw [hW1];exact (Below.refl _ _).alloc (Nat.le_refl _) _
     have hs1:W1.heap.size=wr.heap.size+1:=by rw [hW1];simp
     have hg1:W1.heap[wr.heap.size]?=some (.cells #[.string m.node,.int .i64 m.x,.int .i64 m.y,.int .i64 m.z,.int .i64 m.h,.int .i64 m.s] 104 (0,0)):=by rw [hW1];exact heap_alloc_new wr _
     have HO1:Hid (Own w.heap.size W1 u7 known):=HO.out.below hb1
     have HF:Hid (Calls Tryz.prog 169 #[u7,.agg #[.string m.node,.int .i64 m.x,.int .i64 m.y,.int .i64 m.z,.int .i64 m.h,.int .i64 m.s],.func (.func 170) #[] #[]] W1 fun e w'=>∃ (p:Nat) (f:Bool),e=.returned (.tuple #[.int .i64 p,.bool f])∧Below W1.heap.size W1 w'∧At known m p f):=
      find_any known u7 m W1 (HO1.out.sl HNs.out) HL.out HR.out
     have HB1:Hid (Below w.heap.size w W1):=hbl.trans (hb1.mono hsz)
     have HT:Hid (∀ o,W1.cell? ⟨wr.heap.size,o,none⟩=#[.string m.node,.int .i64 m.x,.int .i64 m.y,.int .i64 m.z,.int .i64 m.h,.int .i64 m.s][o]?):=fun o=>cellsAt hg1 o
     have HW1:Hid (W1=wr.alloc (.cells #[.string m.node,.int .i64 m.x,.int .i64 m.y,.int .i64 m.z,.int .i64 m.h,.int .i64 m.s] 104)):=hW1
     have hs1':w.heap.size≤W1.heap.size:=by omega
     clear hg1 hb1 HO HL HR hW1
     go_wp2_with fail
     rw [← HW1.out]
     refine HF.out.mono ?_
     rintro e w2 ⟨p,f,rfl,hb2,hat⟩
     have HAT:Hid (At known m p f):=hat
     have hpl2:p≤known.length:=hat.le
     have hsz2:=hb2.size
     have HO2:Hid (Own w.heap.size w2 u7 known):=HO1.out.below hb2
     have HB2:Hid (Below w.heap.size w w2):=HB1.out.trans (hb2.mono hs1')
     have t0:w2.cell? ⟨wr.heap.size,0,none⟩=some (.string m.node):=(hb2.cell (p:=⟨wr.heap.size,0,none⟩) (by show wr.heap.size < W1.heap.size;omega)).trans (HT.out 0)
     have t1:w2.cell? ⟨wr.heap.size,1,none⟩=some (.int .i64 m.x):=(hb2.cell (p:=⟨wr.heap.size,1,none⟩) (by show wr.heap.size < W1.heap.size;omega)).trans (HT.out 1)
     have t2:w2.cell? ⟨wr.heap.size,2,none⟩=some (.int .i64 m.y):=(hb2.cell (p:=⟨wr.heap.size,2,none⟩) (by show wr.heap.size < W1.heap.size;omega)).trans (HT.out 2)
     have t3:w2.cell? ⟨wr.heap.size,3,none⟩=some (.int .i64 m.z):=(hb2.cell (p:=⟨wr.heap.size,3,none⟩) (by show wr.heap.size < W1.heap.size;omega)).trans (HT.out 3)
     have t4:w2.cell? ⟨wr.heap.size,4,none⟩=some (.int .i64 m.h):=(hb2.cell (p:=⟨wr.heap.size,4,none⟩) (by show wr.heap.size < W1.heap.size;omega)).trans (HT.out 4)
     have t5:w2.cell? ⟨wr.heap.size,5,none⟩=some (.int .i64 m.s):=(hb2.cell (p:=⟨wr.heap.size,5,none⟩) (by show wr.heap.size < W1.heap.size;omega)).trans (HT.out 5)
     have hs2:w.heap.size≤w2.heap.size:=by omega
     have hs2':wr.heap.size < w2.heap.size:=by omega
     clear hat HF hbc hbf c0 c1 c2 c3 c4 c5 hb2 HO1 HB1 HT
     cases f
     ·have hne:Hid (u7.ownBlock≠some w2.heap.size):=fun e=>by have:=HO2.out.lt _ e;omega
      have HO3:Hid (Own w.heap.size (w2.alloc (.cells #[.string m.node,.int .i64 m.x,.int .i64 m.y,.int .i64 m.z,.int .i64 m.h,.int .i64 m.s] 104)) u7 known):=HO2.out.below ((Below.refl _ _).alloc (Nat.le_refl _) _)
      have hvb:Hid ((w2.alloc (.cells #[.string m.node,.int .i64 m.x,.int .i64 m.y,.int .i64 m.z,.int .i64 m.h,.int .i64 m.s] 104)).heap[w2.heap.size]?=some (.cells m.cs.toArray 104 (0,0))):=heap_alloc_new w2 _
      go_wp2_with (go_at_call 171;refine (insert_any w.heap.size p w2.heap.size u7 known m _ HO3.out HAT.out.le (by omega) (by simp;omega) hvb.out hne.out).mono ?_;rintro e w4 ⟨v',rfl,g1,g2⟩)
      go_roundw
      case rel=>
       have hfin:∃ q_1:Nat,q_1≤nl∧Value.int .i64 ((q:Int)+1)=.int .i64 q_1∧Below w.heap.size w w4∧Hid (Own w.heap.size w4 v' (joinL (stg a b k) (l.take q_1))):=⟨q+1,by omega,by go_num,below_grown (HB2.out.alloc hs2 _) HO3.out g2 (by simp;omega),by rw [HJ.out,hearL_at known m p false HAT.out];exact g1⟩
       first | exact hfin | ((repeat apply Exists.intro);exact ⟨hfin,rfl⟩)
      case measure=>simp [intOf];omega
     ·have hp:p < known.length:=(HAT.out.is.1 rfl).1
      obtain ⟨g,c,hu⟩:=own_form HO2.out p hp
      subst hu
      obtain ⟨c0,c1,c2,c3,c4,c5⟩:=own_cells HO2.out p hp
      have hgl:=HO2.out.lt g rfl
      have hgl2:g < w2.heap.size:=hgl.2
      generalize hm:known.getD p dm=m2 at *
      have Hm:Hid (known.getD p dm=m2):=hm
      clear hm
      have hN:∀ d os,Calls Tryz.prog 176 #[.agg #[.string m.node,.int .i64 m.x,.int .i64 m.y,.int .i64 m.z,.int .i64 m.h,.int .i64 m.s],.agg #[.string m2.node,.int .i64 m2.x,.int .i64 m2.y,.int .i64 m2.z,.int .i64 m2.h,.int .i64 m2.s]] (Go.Sort.grow (redrawn w2 d) os) fun e w''=>e=.returned (.bool (newE m m2))∧∃ p:Regrown,w''=Go.Sort.grow (redrawn w2 p.d) p.os:=fun d os=>Calls.regrown_of (newerE_any m m2 _)
      have F0:∀ d os,(Go.Sort.grow (redrawn w2 d) os).cell? ⟨g,p * 6,none⟩=some (.string m2.node):=cell_regrown c0
      have F1:∀ d os,(Go.Sort.grow (redrawn w2 d) os).cell? ⟨g,p * 6+1,none⟩=some (.int .i64 m2.x):=cell_regrown c1
      have F2:∀ d os,(Go.Sort.grow (redrawn w2 d) os).cell? ⟨g,p * 6+2,none⟩=some (.int .i64 m2.y):=cell_regrown c2
      have F3:∀ d os,(Go.Sort.grow (redrawn w2 d) os).cell? ⟨g,p * 6+3,none⟩=some (.int .i64 m2.z):=cell_regrown c3
      have F4:∀ d os,(Go.Sort.grow (redrawn w2 d) os).cell? ⟨g,p * 6+4,none⟩=some (.int .i64 m2.h):=cell_regrown c4
      have F5:∀ d os,(Go.Sort.grow (redrawn w2 d) os).cell? ⟨g,p * 6+5,none⟩=some (.int .i64 m2.s):=cell_regrown c5
      have G0:∀ d os,(Go.Sort.grow (redrawn w2 d) os).cell? ⟨wr.heap.size,0,none⟩=some (.string m.node):=cell_regrown t0
      have G1:∀ d os,(Go.Sort.grow (redrawn w2 d) os).cell? ⟨wr.heap.size,1,none⟩=some (.int .i64 m.x):=cell_regrown t1
      have G2:∀ d os,(Go.Sort.grow (redrawn w2 d) os).cell? ⟨wr.heap.size,2,none⟩=some (.int .i64 m.y):=cell_regrown t2
      have G3:∀ d os,(Go.Sort.grow (redrawn w2 d) os).cell? ⟨wr.heap.size,3,none⟩=some (.int .i64 m.z):=cell_regrown t3
      have G4:∀ d os,(Go.Sort.grow (redrawn w2 d) os).cell? ⟨wr.heap.size,4,none⟩=some (.int .i64 m.h):=cell_regrown t4
      have G5:∀ d os,(Go.Sort.grow (redrawn w2 d) os).cell? ⟨wr.heap.size,5,none⟩=some (.int .i64 m.s):=cell_regrown t5
      have hfz:∀ o,w2.frozen? ⟨g,o,none⟩=false:=fun o=>World.ownsRow.frozenAt HO2.out o
      have HFZ:Hid (∀ o,w2.frozen? ⟨g,o,none⟩=false):=hfz
      clear c0 c1 c2 c3 c4 c5 hfz
      have HT:Hid (w2.cell? ⟨wr.heap.size,0,none⟩=some (.string m.node)∧w2.cell? ⟨wr.heap.size,1,none⟩=some (.int .i64 m.x)∧w2.cell? ⟨wr.heap.size,2,none⟩=some (.int .i64 m.y)∧w2.cell? ⟨wr.heap.size,3,none⟩=some (.int .i64 m.z)∧w2.cell? ⟨wr.heap.size,4,none⟩=some (.int .i64 m.h)∧w2.cell? ⟨wr.heap.size,5,none⟩=some (.int .i64 m.s)):=⟨t0,t1,t2,t3,t4,t5⟩
      clear t0 t1 t2 t3 t4 t5
      generalize hnw:newE m m2=nw at *
      have Hnw:Hid (newE m m2=nw):=hnw
      clear hnw
      cases nw
      ·go_wp2_with fail
       refine wp_region_quiet_below (by kernel_rfl) (by kernel_rfl) ?_
       repeat (quiet_step (exact hN _ _))
       refine wpQuiet_nil ?_
       intro _ hw'
       obtain ⟨⟨dq,osq⟩,hw''⟩:=hw'
       subst hw''
       have HBQ:Hid (Below w2.heap.size w2 (Go.Sort.grow (redrawn w2 dq) osq)):=below_regrown w2 dq osq
       clear hN F0 F1 F2 F3 F4 F5 G0 G1 G2 G3 G4 G5
       go_wp2_with fail
       go_roundw
       case rel=>
        have hfin:∃ q_1:Nat,q_1≤nl∧Value.int .i64 ((q:Int)+1)=.int .i64 q_1∧Below w.heap.size w (Go.Sort.grow (redrawn w2 dq) osq)∧Hid (Own w.heap.size (Go.Sort.grow (redrawn w2 dq) osq) (.slice (some ⟨g,0,none⟩) known.length c) (joinL (stg a b k) (l.take q_1))):=⟨q+1,by omega,by go_num,HB2.out.trans (HBQ.out.mono hs2),by rw [HJ.out,hearL_at known m p true HAT.out,if_pos rfl,Hm.out,if_neg (fun h=>Bool.false_ne_true (Hnw.out.symm.trans h))];exact HO2.out.below HBQ.out⟩
        first | exact hfin | ((repeat apply Exists.intro);exact ⟨hfin,rfl⟩)
       case measure=>simp [intOf];omega
      ·go_wp2_with fail
       refine wp_region_quiet_below (by kernel_rfl) (by kernel_rfl) ?_
       repeat (quiet_step (exact hN _ _))
       refine wpQuiet_nil ?_
       intro _ hw'
       obtain ⟨⟨dq,osq⟩,hw''⟩:=hw'
       subst hw''
       have HBQ:Hid (Below w2.heap.size w2 (Go.Sort.grow (redrawn w2 dq) osq)):=below_regrown w2 dq osq
       clear hN F0 F1 F2 F3 F4 F5 G0 G1 G2 G3 G4 G5
       generalize Go.Sort.grow (redrawn w2 dq) osq=w3 at *
       have HO3:Hid (Own w.heap.size w3 (.slice (some ⟨g,0,none⟩) known.length c) known):=HO2.out.below HBQ.out
       obtain ⟨c0,c1,c2,c3,c4,c5⟩:=own_cells HO3.out p hp
       rw [Hm.out] at c0 c1 c2 c3 c4 c5
       have hg3:g < w3.heap.size:=(HO3.out.lt g rfl).2
       have hfz:∀ o,w3.frozen? ⟨g,o,none⟩=false:=fun o=>World.ownsRow.frozenAt HO3.out o
       obtain ⟨t0,t1,t2,t3,t4,t5⟩:=HT.out
       have s0:w3.cell? ⟨wr.heap.size,0,none⟩=some (.string m.node):=(HBQ.out.cell (p:=⟨wr.heap.size,0,none⟩) hs2').trans t0
       have s1:w3.cell? ⟨wr.heap.size,1,none⟩=some (.int .i64 m.x):=(HBQ.out.cell (p:=⟨wr.heap.size,1,none⟩) hs2').trans t1
       have s2:w3.cell? ⟨wr.heap.size,2,none⟩=some (.int .i64 m.y):=(HBQ.out.cell (p:=⟨wr.heap.size,2,none⟩) hs2').trans t2
       have s3:w3.cell? ⟨wr.heap.size,3,none⟩=some (.int .i64 m.z):=(HBQ.out.cell (p:=⟨wr.heap.size,3,none⟩) hs2').trans t3
       have s4:w3.cell? ⟨wr.heap.size,4,none⟩=some (.int .i64 m.h):=(HBQ.out.cell (p:=⟨wr.heap.size,4,none⟩) hs2').trans t4
       have s5:w3.cell? ⟨wr.heap.size,5,none⟩=some (.int .i64 m.s):=(HBQ.out.cell (p:=⟨wr.heap.size,5,none⟩) hs2').trans t5
       clear t0 t1 t2 t3 t4 t5
       go_wp2_with fail
       refine ⟨⟨q+1,by omega,by go_num,?_,?_⟩,by simp [intOf];omega⟩
       ·exact (((((((HB2.out.trans (HBQ.out.mono hs2)).setCell (p:=⟨g,p * 6,none⟩) hgl.1 (.string m.node)).setCell (p:=⟨g,p * 6+1,none⟩) hgl.1 (.int .i64 m.x)).setCell (p:=⟨g,p * 6+2,none⟩) hgl.1 (.int .i64 m.y)).setCell (p:=⟨g,p * 6+3,none⟩) hgl.1 (.int .i64 m.z)).setCell (p:=⟨g,p * 6+4,none⟩) hgl.1 (.int .i64 m.h)).setCell (p:=⟨g,p * 6+5,none⟩) hgl.1 (.int .i64 m.s))
       ·rw [HJ.out,hearL_at known m p true HAT.out,if_pos rfl,Hm.out,if_pos Hnw.out]
        exact own_set HO3.out hp m
    ·have hqn:q=nl:=by omega
     subst hqn
     have HO3:Hid (Own w.heap.size wr u7 (stg a b (k+1))):=by
      have h:=HO.out
      rw [List.take_of_length_le (by rw [HNL.out];exact Nat.le_refl _)] at h
      rw [HKT.out.step];exact h
     go_wp2_with fail
     go_roundw
     case rel=>exact ⟨k+1,by omega,by go_num,hbl,HO3⟩
     case measure=>simp [intOf];omega
  ·have hk3:k=2:=by omega
   subst hk3
   go_wp2_with fail
   go_ret
   exact ⟨_,rfl,HO.out,hbl⟩
end Wh
end Go.Proofs.YtikgjgmgbfjcgaaGreat
namespace Go.Proofs.YtikgjgmgbfjcgaaGreat
open Go.RowKit
def lrn1 (wh:List Wh.Whe) (x:Wh.Whe):List Wh.Whe:=if (wh.any fun y=>decide (y.node=x.node))=true∨20≤wh.length then wh else Wh.hearL wh x
def lrn (wh l:List Wh.Whe):List Wh.Whe:=l.foldl lrn1 wh
theorem lrn_take (wh l:List Wh.Whe) (k:Nat) (hk:k < l.length):lrn wh (l.take (k+1))=lrn1 (lrn wh (l.take k)) (l.getD k Wh.dm):=by
 unfold lrn
 rw [List.take_succ_eq_append_getElem hk,List.foldl_append]
 simp [List.getD,List.getElem?_eq_getElem hk]
structure Wh.Fine (wh:List Wh.Whe):Prop where
 rise:Wh.Rise wh
 len:wh.length≤20
 ok:∀ m∈wh,m.ok
theorem fine_lrn1 {wh:List Wh.Whe} {x:Wh.Whe} (h:Wh.Fine wh) (hx:x.ok):Wh.Fine (lrn1 wh x):=by
 unfold lrn1
 split
 ·exact h
 ·rename_i hn
  have h2:=(Wh.hearL_len wh x).2
  exact ⟨Wh.hearL_rise wh x h.rise,by omega,Wh.ns_hear h.ok hx⟩
theorem fine_lrn {wh l:List Wh.Whe} (h:Wh.Fine wh) (hl:∀ m∈l,m.ok):Wh.Fine (lrn wh l):=by
 unfold lrn
 induction l generalizing wh with
 | nil=>exact h
 | cons x r ih=>exact ih (fine_lrn1 h (hl x (by simp))) (fun m hm=>hl m (by simp [hm]))
theorem any_at {wh:List Wh.Whe} {x:Wh.Whe} {p:Nat} {f:Bool} (hr:Wh.Rise wh) (h:Wh.At wh x p f):(wh.any fun y=>decide (y.node=x.node))=f:=by
 have ho:∀ y:Wh.Whe,Wh.ord y x=0↔y.node=x.node:=fun y=>cmpI_eq _ _
 cases f
 ·rcases hh:(wh.any fun y=>decide (y.node=x.node)) with _ | _
  ·rfl
  ·obtain ⟨y,hy,he⟩:=List.any_eq_true.1 hh
   obtain ⟨j,hj,rfl⟩:=List.getElem_of_mem hy
   have he:wh[j].node=x.node:=by simpa using he
   have e:wh.getD j Wh.dm=wh[j]:=by simp [List.getD,List.getElem?_eq_getElem hj]
   have h2:Wh.At wh x j true:=by
    refine ⟨by omega,fun i hi=>?_,fun i hi hl=>?_,⟨fun _=>⟨hj,by rw [e];exact (ho _).2 he⟩,fun _=>rfl⟩⟩
    ·have hp:=List.pairwise_iff_getElem.1 hr i j (by omega) hj hi
     rw [show wh.getD i Wh.dm=wh[i]'(by omega) by simp [List.getD,List.getElem?_eq_getElem (show i < wh.length by omega)]]
     show cmpI _ _ < 0
     rw [← he];exact hp
    ·rw [show wh.getD i Wh.dm=wh[i]'hl by simp [List.getD,List.getElem?_eq_getElem hl]]
     rcases Nat.lt_or_eq_of_le hi with h3 | rfl
     ·have hp:=List.pairwise_iff_getElem.1 hr j i hj hl h3
      have hp2:cmpI wh[j].node wh[i].node < 0:=hp
      have h4:0 < cmpI wh[i].node wh[j].node:=by rw [cmpI_gt];rw [cmpI_lt] at hp2;exact hp2
      show 0≤cmpI wh[i].node x.node
      rw [← he];omega
     ·show 0≤cmpI wh[j].node x.node
      rw [(cmpI_eq _ _).2 he];omega
   have:=(Wh.at_uniq h h2).2
   cases this
 ·obtain ⟨h1,h2⟩:=h.is.1 rfl
  rw [List.any_eq_true]
  refine ⟨wh[p],List.getElem_mem h1,?_⟩
  rw [show wh.getD p Wh.dm=wh[p] by simp [List.getD,List.getElem?_eq_getElem h1]] at h2
  simpa using (ho _).1 h2
theorem own_ne {B B' k k' n n':Nat} {T T':TypeId} {w:World} {v v':Value} {xs xs':List Value} (h:w.ownsRow B T k v n xs) (h':w.ownsRow B' T' k' v' n' xs') (hT:T≠T'):v.ownBlock=none∨v.ownBlock≠v'.ownBlock:=by
 rcases h.2 with ⟨rfl,_⟩ | ⟨g,c,cur,rfl,_,hg,_⟩
 ·exact .inl rfl
 ·refine .inr fun e=>?_
  rcases h'.2 with ⟨rfl,_⟩ | ⟨g',c',cur',rfl,_,hg',_⟩
  ·cases e
  ·have:g=g':=by simpa [Value.ownBlock] using e
   subst this
   rw [hg] at hg'
   injection hg' with e1
   injection e1 with _ e2
   exact hT e2
theorem own_block_ne {B k n b:Nat} {T T':TypeId} {w:World} {v:Value} {xs:List Value} {cs:Array Value} (h:w.ownsRow B T k v n xs) (hb:w.heap[b]?=some (.cells cs T' (0,0))) (hT:T≠T'):v.ownBlock≠some b:=by
 rcases h.2 with ⟨rfl,_⟩ | ⟨g,c,cur,rfl,_,hg,_⟩
 ·intro e;cases e
 ·intro e
  have:g=b:=by simpa [Value.ownBlock] using e
  subst this
  rw [hg] at hb
  injection hb with e1
  injection e1 with _ e2
  exact hT e2
theorem Wk.ins {L b:Nat} {W w1:World} {n:Nd} {vm vr vs vg vw v:Value} {l:List Wh.Whe} (h1:W.heap[b]?=some (.cells (ndA n vm vr vs vg vw) 72 (0,0))) (h2:NdOwn L W n vm vr vs vg vw) (h3:vm.ownBlock≠some b∧vr.ownBlock≠some b∧vs.ownBlock≠some b∧vg.ownBlock≠some b∧vw.ownBlock≠some b) (h4:NdOk n)
 (hg:W.grownBy w1 vw.ownBlock) (ho:Wh.Own L w1 v l) (hl:∀ m∈l,m.ok):Wk L (w1.setCell ⟨b,11,none⟩ v) b { n with wh:=l }:=by
 have hbl:b < W.heap.size:=(Array.getElem?_eq_some_iff.1 h1).1
 have hb1:w1.heap[b]?=some (.cells (ndA n vm vr vs vg vw) 72 (0,0)):=(hg.block b hbl (fun e=>h3.2.2.2.2 e.symm)).trans h1
 have hv:v.ownBlock≠some b:=own_block_ne ho hb1 (by decide)
 refine ⟨vm,vr,vs,vg,v,Joins.block_setCell (i:=11) hb1 v,⟨?_,?_,?_,?_,ownsRow_setCell_other ho hv _⟩,⟨h3.1,h3.2.1,h3.2.2.1,h3.2.2.2.1,hv⟩,⟨h4.ms,h4.rs,h4.sv,h4.gw,hl,h4.name,h4.centre⟩⟩
 ·exact ownsRow_setCell_other (h2.ms.kept hg (own_ne h2.ms h2.wh (by decide))) h3.1 _
 ·exact ownsRow_setCell_other (h2.rs.kept hg (own_ne h2.rs h2.wh (by decide))) h3.2.1 _
 ·exact ownsRow_setCell_other (h2.sv.kept hg (own_ne h2.sv h2.wh (by decide))) h3.2.2.1 _
 ·exact ownsRow_setCell_other (h2.gw.kept hg (own_ne h2.gw h2.wh (by decide))) h3.2.2.2.1 _
theorem Sh.grown {S:Nat→Prop} {a w w':World} {row:Option Nat} (h:Sh S a w) (hg:w.grownBy w' row) (hr:∀ k,row=some k→S k):Sh S a w':=
 h.trans ⟨hg.os,hg.tape,hg.output,hg.size,fun k hk hn=>hg.block k hk (fun e=>hn (hr k e.symm))⟩
set_option maxHeartbeats 25600000 in
set_option maxRecDepth 100000 in
theorem learn_any (L b:Nat) (n:Nd) (l:List Wh.Whe) (vx:Value) (w0 w:World) (h:Wk L w b n) (hL:L≤b) (hf:Wh.Fine n.wh) (hx:Wh.Sl w0 vx l) (hB:Below w0.heap.size w0 w) (hBL:w0.heap.size≤L) (hll:l.length≤1000) :
 Calls Tryz.prog 125 #[.pointer (some ⟨b,0,none⟩),vx] w fun e w'=>e=.returned (.tuple #[])∧Sh (fun k=>L≤k) w w'∧Wk L w' b { n with wh:=lrn n.wh l }:=by
 have HWK:Hid (Wk L w b n):=h
 have HB:Hid (Below w0.heap.size w0 w):=hB
 have HFI:Hid (Wh.Fine n.wh):=hf
 obtain ⟨px,cx,rfl,hxs,hxr⟩:=hx
 have HXR:Hid (l=[]∨∃ b off,px=some ⟨b,off,none⟩∧b < w0.heap.size∧Wh.Row w0 b off l):=hxr
 have HXS:Hid (∀ j,(l.getD j Wh.dm).ok):=hxs
 have HLO:Hid (∀ m∈l,m.ok):=Wh.ns_mem hxs
 clear h hB hf hxs hxr
 generalize hN:l.length=nl at *
 have HN:Hid (l.length=nl):=hN
 clear hN
 go_enter Tryz.func125,Tryz.ntmps125
 go_wp2_with fail
 go_loopw [10] (fun i wr=>∃ k:Nat,k≤nl∧i=.int .i64 k∧Hid (Sh (fun k=>L≤k) w wr)∧Hid (Wk L wr b { n with wh:=lrn n.wh (l.take k) })) (fun i _=>nl - (intOf i).toNat)
 case atStart=>exact ⟨0,Nat.zero_le _,rfl,Sh.refl _ _,HWK⟩
 case round=>
  obtain ⟨k,hk,rfl,HSH,HW⟩:=hrel
  by_cases hlt:k < nl
  ·obtain ⟨b2,o2,hp,hl2,hr⟩:∃ b off,px=some ⟨b,off,none⟩∧b < w0.heap.size∧Wh.Row w0 b off l:=by
    rcases HXR.out with h | h
    ·have:=HN.out;rw [h] at this;simp at this;omega
    ·exact h
   subst hp
   have HBR:Hid (Below w0.heap.size w0 wr):=HB.out.trans (HSH.out.below HB.out.size (fun k hk=>by omega))
   obtain ⟨c0,c1,c2,c3,c4,c5⟩:_∧_∧_∧_∧_∧_:=by
    have hk':k < l.length:=by rw [HN.out];exact hlt
    have hq:=hr k hk'
    have hc:∀ o,wr.cell? ⟨b2,o,none⟩=w0.cell? ⟨b2,o,none⟩:=fun o=>HBR.out.cell (p:=⟨b2,o,none⟩) hl2
    simp only [← hc] at hq
    exact hq
   clear hr
   have HFK:Hid (Wh.Fine (lrn n.wh (l.take k))):=fine_lrn HFI.out (fun m hm=>HLO.out m (List.mem_of_mem_take hm))
   have HST:Hid (lrn n.wh (l.take (k+1))=lrn1 (lrn n.wh (l.take k)) (l.getD k Wh.dm)):=lrn_take n.wh l k (by rw [HN.out];exact hlt)
   have hxo:=HXS.out k
   generalize l.getD k Wh.dm=x at *
   generalize hkn:lrn n.wh (l.take k)=known at *
   clear hkn
   obtain ⟨p,f,hat⟩:=Wh.at_any known HFK.out.rise x
   have HAT:Hid (Wh.At known x p f):=hat
   have HAN:Hid ((known.any fun y=>decide (y.node=x.node))=f):=any_at HFK.out.rise hat
   clear hat
   have hbr:=HW.out.lt
   obtain ⟨vm,vr,vs,vg,vw,h1,h2,h3,h4⟩:=HW.out
   have HOW:Hid (Wh.Own L wr vw known):=h2.wh
   have HH3:Hid (vm.ownBlock≠some b∧vr.ownBlock≠some b∧vs.ownBlock≠some b∧vg.ownBlock≠some b∧vw.ownBlock≠some b):=h3
   have HH4:Hid (NdOk { n with wh:=known }):=h4
   have HH2:Hid (NdOwn L wr { n with wh:=known } vm vr vs vg vw):=h2
   obtain ⟨aw,cw,hvw,hcw⟩:=own_slice h2.wh
   simp only at hvw hcw
   subst hvw
   have HSW:Hid (Wh.Sl wr (.slice aw known.length cw) known):=h2.wh.sl (Wh.ns_get HFK.out.ok)
   have HKL:Hid (known.length≤20):=HFK.out.len
   obtain ⟨W1,hW1⟩:∃ W1,W1=wr.alloc (.cells #[.string x.node,.int .i64 x.x,.int .i64 x.y,.int .i64 x.z,.int .i64 x.h,.int .i64 x.s] 104):=⟨_,rfl⟩
   have hb1:Below wr.heap.size wr W1:=by rw [hW1];exact (Below.refl _ _).alloc (Nat.le_refl _) _
   have hs1:W1.heap.size=wr.heap.size+1:=by rw [hW1];simp
   have hg1:W1.heap[wr.heap.size]?=some (.cells #[.string x.node,.int .i64 x.x,.int .i64 x.y,.int .i64 x.z,.int .i64 x.h,.int .i64 x.s] 104 (0,0)):=by rw [hW1];exact heap_alloc_new wr _
   have HG1:Hid (W1.heap[wr.heap.size]?=some (.cells #[.string x.node,.int .i64 x.x,.int .i64 x.y,.int .i64 x.z,.int .i64 x.h,.int .i64 x.s] 104 (0,0))):=hg1
   have HB1:Hid (Below wr.heap.size wr W1):=hb1
   have HX1:Hid (∀ W,Below wr.heap.size wr W→W.heap[b]?=some (.cells (ndA { n with wh:=known } vm vr vs vg (.slice aw known.length cw)) 72 (0,0))):=fun W hW=>(hW.block _ hbr).trans h1
   obtain ⟨x0,x1,x2,x3,x4,x5⟩:=cells6 hg1
   have y11:W1.cell? ⟨b,11,none⟩=some (.slice aw known.length cw):=cellsAt (HX1.out W1 hb1) 11
   have hFI:∀ d os,Calls Tryz.prog 169 #[.slice aw known.length cw,.agg #[.string x.node,.int .i64 x.x,.int .i64 x.y,.int .i64 x.z,.int .i64 x.h,.int .i64 x.s],.func (.func 170) #[] #[]] (Go.Sort.grow (redrawn W1 d) os) fun e w''=>e=.returned (.tuple #[.int .i64 p,.bool f])∧∃ q:Regrown,w''=Go.Sort.grow (redrawn W1 q.d) q.os:=fun d os=>Calls.regrown_of ((Wh.find_any known _ x _ (HSW.out.below (hb1.trans ((below_regrown W1 d os).mono (by omega)))) (by have:=HKL.out;omega) HFK.out.rise).mono (by
    rintro e w' ⟨p',f',rfl,hb,ha⟩
    obtain ⟨rfl,rfl⟩:=Wh.at_uniq ha HAT.out
    exact ⟨rfl,hb⟩))
   have F0:∀ d os,(Go.Sort.grow (redrawn W1 d) os).cell? ⟨wr.heap.size,0,none⟩=some (.string x.node):=cell_regrown x0
   have F1:∀ d os,(Go.Sort.grow (redrawn W1 d) os).cell? ⟨wr.heap.size,1,none⟩=some (.int .i64 x.x):=cell_regrown x1
   have F2:∀ d os,(Go.Sort.grow (redrawn W1 d) os).cell? ⟨wr.heap.size,2,none⟩=some (.int .i64 x.y):=cell_regrown x2
   have F3:∀ d os,(Go.Sort.grow (redrawn W1 d) os).cell? ⟨wr.heap.size,3,none⟩=some (.int .i64 x.z):=cell_regrown x3
   have F4:∀ d os,(Go.Sort.grow (redrawn W1 d) os).cell? ⟨wr.heap.size,4,none⟩=some (.int .i64 x.h):=cell_regrown x4
   have F5:∀ d os,(Go.Sort.grow (redrawn W1 d) os).cell? ⟨wr.heap.size,5,none⟩=some (.int .i64 x.s):=cell_regrown x5
   have G11:∀ d os,(Go.Sort.grow (redrawn W1 d) os).cell? ⟨b,11,none⟩=some (.slice aw known.length cw):=cell_regrown y11
   clear h1 h2 h3 h4 hg1 hb1 x0 x1 x2 x3 x4 x5 y11
   generalize hkl:known.length=kl at *
   have HKE:Hid (known.length=kl):=hkl
   clear hkl
   have hkl20:kl≤20:=HKL.out
   go_upto_region 3 with fail
   rw [← hW1]
   clear hW1 c0 c1 c2 c3 c4 c5
   refine wp_region_quiet_below (by kernel_rfl) (by kernel_rfl) ?_
   repeat (quiet_step (exact hFI _ _))
   refine wpQuiet_nil ?_
   intro _ hw'
   obtain ⟨⟨dq,osq⟩,hw''⟩:=hw'
   subst hw''
   have HB2:Hid (Below wr.heap.size wr (Go.Sort.grow (redrawn W1 dq) osq)):=HB1.out.trans ((below_regrown W1 dq osq).mono (by omega))
   have HG2:Hid ((Go.Sort.grow (redrawn W1 dq) osq).heap[wr.heap.size]?=some (.cells #[.string x.node,.int .i64 x.x,.int .i64 x.y,.int .i64 x.z,.int .i64 x.h,.int .i64 x.s] 104 (0,0))):=((below_regrown W1 dq osq).block _ (by omega)).trans HG1.out
   clear hFI F0 F1 F2 F3 F4 F5 G11 HG1 HB1
   generalize Go.Sort.grow (redrawn W1 dq) osq=W2 at *
   have y11:W2.cell? ⟨b,11,none⟩=some (.slice aw kl cw):=cellsAt (HX1.out W2 HB2.out) 11
   have HSH2:Hid (Sh (fun k=>L≤k) w W2):=HSH.out.next HB2.out
   have HWK2:Hid (Wk L W2 b { n with wh:=known }):=HW.out.below HB2.out
   cases f
   rotate_left
   ·have HEQ:Hid (lrn n.wh (l.take (k+1))=known):=HST.out.trans (by unfold lrn1;rw [if_pos (.inl HAN.out)])
    go_wp2_with fail
    go_roundw
    case rel=>exact ⟨k+1,by omega,by go_num,HSH2,by rw [HEQ.out];exact HWK2⟩
    case measure=>simp [intOf];omega
   ·by_cases hk20:kl < 20
    rotate_left
    ·have HEQ:Hid (lrn n.wh (l.take (k+1))=known):=HST.out.trans (by unfold lrn1;rw [if_pos (.inr (by rw [HKE.out];omega))])
     go_wp2_with fail
     go_roundw
     case rel=>exact ⟨k+1,by omega,by go_num,HSH2,by rw [HEQ.out];exact HWK2⟩
     case measure=>simp [intOf];omega
    ·have HEQ:Hid (lrn n.wh (l.take (k+1))=known.take p++x :: known.drop p):=HST.out.trans (by
      unfold lrn1
      rw [if_neg (by rw [HAN.out,HKE.out];intro h;rcases h with h | h;· cases h
                     ·omega),Wh.hearL_at known x p false HAT.out,if_neg (by simp)])
     have HOKN:Hid (∀ m∈known.take p++x :: known.drop p,m.ok):=fun m hm=>by
      rcases List.mem_append.1 hm with hm | hm
      ·exact HFK.out.ok m (List.mem_of_mem_take hm)
      ·rcases List.mem_cons.1 hm with rfl | hm
       ·exact hxo
       ·exact HFK.out.ok m (List.mem_of_mem_drop hm)
     have hpl:p≤kl:=by have:=HAT.out.le;rw [HKE.out] at this;exact this
     obtain ⟨v0,v1,v2,v3,v4,v5⟩:=cells6 HG2.out
     obtain ⟨W3,hW3⟩:∃ W3,W3=(W2.alloc (.cells #[.string x.node,.int .i64 x.x,.int .i64 x.y,.int .i64 x.z,.int .i64 x.h,.int .i64 x.s] 104)).drew:=⟨_,rfl⟩
     have hb3:Below wr.heap.size wr W3:=by rw [hW3];exact (HB2.out.alloc HB2.out.size _).drew
     have hs23:W3.heap.size=W2.heap.size+1:=by rw [hW3];simp
     have hsr2:wr.heap.size≤W2.heap.size:=HB2.out.size
     have hg3:W3.heap[W2.heap.size]?=some (.cells x.cs.toArray 104 (0,0)):=by rw [hW3];exact heap_alloc_new W2 _
     have HI:Hid (Calls Tryz.prog 171 #[.slice aw kl cw,.int .i64 p,.slice (some ⟨W2.heap.size,0,none⟩) 1 1] W3 fun e w'=>∃ a q c,e=.returned (.slice a q c)∧Wh.Own L w' (.slice a q c) (known.take p++x :: known.drop p)∧W3.grownBy w' (Value.slice aw kl cw).ownBlock):=by
      refine (Wh.insert_any L p W2.heap.size _ known x W3 (HOW.out.below hb3) HAT.out.le (by rw [HKE.out];omega) (by omega) hg3 (fun e=>by have:=((HOW.out.below HB2.out).lt _ e).2;omega)).mono ?_
      rintro e w' ⟨v',rfl,ho,hg⟩
      obtain ⟨a,c,rfl,_⟩:=own_slice ho
      exact ⟨a,_,c,rfl,ho,hg⟩
     have HG3:Hid (∀ w5 a q c,Wh.Own L w5 (.slice a q c) (known.take p++x :: known.drop p)→W3.grownBy w5 (Value.slice aw kl cw).ownBlock→Wk L (w5.setCell ⟨b,11,none⟩ (.slice a q c)) b { n with wh:=known.take p++x :: known.drop p }∧Sh (fun k=>L≤k) w (w5.setCell ⟨b,11,none⟩ (.slice a q c))∧w5.heap[b]?=some (.cells (ndA { n with wh:=known } vm vr vs vg (.slice aw kl cw)) 72 (0,0))):=fun w5 a q c ho hg=>
      ⟨Wk.ins (n:={ n with wh:=known }) (HX1.out W3 hb3) (HH2.out.below hb3) HH3.out HH4.out hg ho HOKN.out,
       ((HSH.out.next hb3).grown hg (fun g hgg=>((HOW.out.below hb3).lt g hgg).1)).setCell (S:=fun k=>L≤k) hL _,
       (hg.block b (by have:=hb3.size;omega) (fun e=>HH3.out.2.2.2.2 e.symm)).trans (HX1.out W3 hb3)⟩
     have hbW2:b < W2.heap.size:=by omega
     have hrW2:wr.heap.size < W2.heap.size:=(Array.getElem?_eq_some_iff.1 HG2.out).1
     have hne1:¬ b=W2.heap.size:=by omega
     have hne2:¬ wr.heap.size=W2.heap.size:=by omega
     clear hg3 hb3
     go_upto_region 5 with fail
     go_region_with (first | (go_at_call 171;refine (show Calls _ _ _ _ _ by first | (rw [← hW3];exact HI.out) | (have h:=HI.out;rw [hW3] at h;exact h)).mono ?_;rintro e w5 ⟨a,q,c,rfl,ho5,hg5⟩;obtain ⟨i1,i2,i3⟩:=HG3.out w5 a q c ho5 hg5;have HI1:Hid (Wk L (w5.setCell ⟨b,11,none⟩ (.slice a q c)) b { n with wh:=known.take p++x :: known.drop p }):=i1;have HI2:Hid (Sh (fun k=>L≤k) w (w5.setCell ⟨b,11,none⟩ (.slice a q c))):=i2;have z11:w5.cell? ⟨b,11,none⟩=some (.slice aw kl cw):=cellsAt i3 11;have zf:w5.frozen? ⟨b,11,none⟩=false:=frozen_of i3 11;clear ho5 hg5 i1 i2 i3))
     all_goals
      go_wp2_with fail
      go_roundw
      case rel=>exact ⟨k+1,by omega,by go_num,HI2,by rw [HEQ.out];exact HI1⟩
      case measure=>simp [intOf];omega
  ·have hkn:k=nl:=by omega
   subst hkn
   have HWE:Hid (Wk L wr b { n with wh:=lrn n.wh l }):=by
    have h:=HW.out
    rw [List.take_of_length_le (by rw [HN.out];exact Nat.le_refl _)] at h
    exact h
   go_wp2_with fail
   simp only [bodyPost,results,Tryz.results125]
   exact ⟨trivial,.tuple #[],by simp,rfl,HSH.out,HWE.out⟩
end Go.Proofs.YtikgjgmgbfjcgaaGreat
