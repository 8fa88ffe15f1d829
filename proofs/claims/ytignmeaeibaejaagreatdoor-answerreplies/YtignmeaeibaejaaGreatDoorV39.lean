import Derived.Test.YtignmeaeibaejaaGreatDoorV38
import Derived.Test.YtignmeaeibaejaaGreatDoorV27
namespace Go.Proofs.YtignmeaeibaejaaGreatDoor
open Go.RowKit
theorem find_sub {sv:List Sv.Svc} {name tag:ByteArray} (h:Sv.findL sv name tag≠[]):Sv.findL sv name ⟨#[]⟩≠[]:=fun h2=>by
 obtain ⟨x,hx⟩:=List.exists_mem_of_ne_nil _ h
 have h3:=List.mem_filter.1 hx
 have h4:x∈Sv.findL sv name ⟨#[]⟩:=List.mem_filter.2 ⟨h3.1,by
  have h5:=h3.2
  unfold Sv.keep at h5 ⊢
  simp only [Bool.and_eq_true] at h5 ⊢
  exact ⟨⟨⟨h5.1.1.1,by rw [Lib.toList_data];rfl⟩,h5.1.2⟩,h5.2⟩⟩
 rw [h2] at h4
 simp at h4
theorem ret3_post {w W:World} {A:Ans} {v:Value} {a:Act} (h:Ret3 v A.code A.e a) (ho:Rc.Own w.heap.size W v A.rs) (hb:Below w.heap.size w W):bodyPost Tryz.prog Tryz.f17 (fun e w'=>∃ v,e=.returned (.tuple #[v,.int .i64 A.code,.int .i64 A.e])∧Rc.Own w.heap.size w' v A.rs∧Below w.heap.size w w') .ret a W:=by
 obtain ⟨hd,h1,h2,h3⟩:=h
 refine bodyPost_ret (results_tmp3 rfl _ _ _) hd ⟨v,?_,ho,hb⟩
 rw [h1,h2,h3]
set_option maxHeartbeats 12800000 in
set_option maxRecDepth 1000000 in
theorem refRecords_any (here:ByteArray) (ps pm pw:Option Addr) (ns cs nm cm nw cw:Nat) (px py pz ph pq:Int) (q:Qu) (t:Int) (sv:List Sv.Svc) (ms:List Mem) (wh:List Wh.Whe) (w:World) (hq:q.ok) (hh:here.size≤maxLen) (hs:Sv.Sl w (.slice ps ns cs) sv) (hm:Sl w (.slice pm nm cm) ms) (hw:Wh.Sl w (.slice pw nw cw) wh) :
 Calls Tryz.prog 17 #[.agg #[.string q.service,.string q.tag,.string q.node,.string q.centre],.int .i64 t,.string here,.slice ps ns cs,.slice pm nm cm,.agg #[.int .i64 px,.int .i64 py,.int .i64 pz,.int .i64 ph,.int .i64 pq],.slice pw nw cw] w fun e w'=>∃ v,e=.returned (.tuple #[v,.int .i64 (anR q t here sv ms ⟨px,py,pz,ph,pq⟩ wh).code,.int .i64 (anR q t here sv ms ⟨px,py,pz,ph,pq⟩ wh).e])∧Rc.Own w.heap.size w' v (anR q t here sv ms ⟨px,py,pz,ph,pq⟩ wh).rs∧Below w.heap.size w w':=by
 have HS:Hid (Sv.Sl w (.slice ps ns cs) sv):=hs
 have HM:Hid (Sl w (.slice pm nm cm) ms):=hm
 have HW:Hid (Wh.Sl w (.slice pw nw cw) wh):=hw
 have HCQ:Hid (∀ W,Calls Tryz.prog 42 #[.agg #[.string q.service,.string q.tag,.string q.node,.string q.centre]] W fun e w'=>e=.returned (.int .i64 (chkQ q))∧Below W.heap.size W w'):=fun W=>rCheckQ_any q W hq
 have HCT:Hid (∀ W,Calls Tryz.prog 43 #[.int .i64 t] W fun e w'=>e=.returned (.bool (typB t))∧w'=W):=fun W=>isType_any t W
 have HCK:Hid (∀ W,Sv.Sl W (.slice ps ns cs) sv→Sl W (.slice pm nm cm) ms→Wh.Sl W (.slice pw nw cw) wh→Calls Tryz.prog 14 #[.string here,.slice ps ns cs,.slice pm nm cm,.agg #[.int .i64 px,.int .i64 py,.int .i64 pz,.int .i64 ph,.int .i64 pq],.slice pw nw cw] W fun e w'=>e=.returned (.int .i64 (knE here sv ms ⟨px,py,pz,ph,pq⟩ wh))∧Below W.heap.size W w'):=fun W a1 a2 a3=>refKnown_any here ps pm pw ns cs nm cm nw cw px py pz ph pq sv ms wh W hh a1 a2 a3
 have HCP:Hid (∀ W,Calls Tryz.prog 41 #[.agg #[.string q.service,.string q.tag,.string q.node,.string q.centre]] W fun e w'=>e=.returned (.tuple #[.string (prS q),.int .i64 (prE q)])∧Below W.heap.size W w'):=fun W=>printOf_any q W hq
 have HKO:Hid (knE here sv ms ⟨px,py,pz,ph,pq⟩ wh=0→KnOk here sv ms ⟨px,py,pz,ph,pq⟩ wh):=knOk
 have HR1:Hid (chkQ q≠0→anR q t here sv ms ⟨px,py,pz,ph,pq⟩ wh=⟨[],0,chkQ q⟩):=fun h=>by unfold anR asE;rw [if_neg h,if_neg h]
 have HR2:Hid (chkQ q=0→typB t=false→anR q t here sv ms ⟨px,py,pz,ph,pq⟩ wh=⟨[],0,7⟩):=fun h h2=>by unfold anR asE;rw [if_pos h,h2];rfl
 have HR3:Hid (chkQ q=0→typB t=true→knE here sv ms ⟨px,py,pz,ph,pq⟩ wh≠0→anR q t here sv ms ⟨px,py,pz,ph,pq⟩ wh=⟨[],0,knE here sv ms ⟨px,py,pz,ph,pq⟩ wh⟩):=fun h h2 h3=>by unfold anR asE;rw [if_pos h,if_pos h2,if_pos rfl,if_neg h3]
 have HR4:Hid (chkQ q=0→typB t=true→knE here sv ms ⟨px,py,pz,ph,pq⟩ wh=0→anR q t here sv ms ⟨px,py,pz,ph,pq⟩ wh=anS q t here sv ms ⟨px,py,pz,ph,pq⟩ wh):=fun h h2 h3=>by unfold anR asE;rw [if_pos h,if_pos h2,if_pos rfl,if_pos h3]
 have HS0:Hid (prE q≠0→anS q t here sv ms ⟨px,py,pz,ph,pq⟩ wh=⟨[],0,prE q⟩):=fun h=>by unfold anS;rw [if_neg h]
 have HS1:Hid (prE q=0→q.centre.size≠0→q.centre≠here→anS q t here sv ms ⟨px,py,pz,ph,pq⟩ wh=⟨[],3,0⟩):=fun h h1 h2=>by unfold anS;rw [if_pos h,if_pos ⟨h1,h2⟩]
 have HS2:Hid (prE q=0→¬ (q.centre.size≠0∧q.centre≠here)→q.node.size≠0→anS q t here sv ms ⟨px,py,pz,ph,pq⟩ wh=ofNd q t ms):=fun h h1 h2=>by unfold anS;rw [if_pos h,if_neg h1,if_pos h2]
 have HS3:Hid (prE q=0→¬ (q.centre.size≠0∧q.centre≠here)→q.node.size=0→anS q t here sv ms ⟨px,py,pz,ph,pq⟩ wh=ofSv q t here sv ms ⟨px,py,pz,ph,pq⟩ wh):=fun h h1 h2=>by unfold anS;rw [if_pos h,if_neg h1,if_neg (by omega)]
 clear hs hm hw
 generalize hAA:anR q t here sv ms ⟨px,py,pz,ph,pq⟩ wh=A at *
 clear hAA
 obtain ⟨qs,qt,qn,qc⟩:=q
 simp only at *
 have HPS:Hid (prS ⟨qs,qt,qn,qc⟩=prS ⟨qs,qt,qn,qc⟩):=rfl
 generalize hQQ:(⟨qs,qt,qn,qc⟩:Qu)=QQ at *
 have HQQ:Hid ((⟨qs,qt,qn,qc⟩:Qu)=QQ):=hQQ
 clear hQQ HPS hq
 generalize hce:chkQ QQ=ce at *
 generalize hke:knE here sv ms ⟨px,py,pz,ph,pq⟩ wh=ke at *
 generalize hpe:prE QQ=pe at *
 clear hce hke hpe
 go_enter Tryz.func17,Tryz.ntmps17
 go_wp2_with fail
 obtain ⟨X,hX⟩:∃ X,X=(w.alloc (.cells #[.string qs,.string qt,.string qn,.string qc] 50)).alloc (.cells #[.int .i64 px,.int .i64 py,.int .i64 pz,.int .i64 ph,.int .i64 pq] 25):=⟨_,rfl⟩
 rw [← hX]
 have HBX:Hid (Below w.heap.size w X):=by rw [hX];exact ((Below.refl _ _).alloc (Nat.le_refl _) _).alloc (by simp) _
 have HGQ:Hid (X.heap[w.heap.size]?=some (.cells #[.string qs,.string qt,.string qn,.string qc] 50 (0,0))):=by rw [hX,Below.heap_alloc _ _ _ (by simp)];exact heap_alloc_new w _
 have hG1:X.heap[w.heap.size+1]?=some (.cells #[.int .i64 px,.int .i64 py,.int .i64 pz,.int .i64 ph,.int .i64 pq] 25 (0,0)):=by
  rw [hX]
  have h:=heap_alloc_new (w.alloc (.cells #[.string qs,.string qt,.string qn,.string qc] 50)) (.cells #[.int .i64 px,.int .i64 py,.int .i64 pz,.int .i64 ph,.int .i64 pq] 25)
  simpa using h
 have HGP:Hid _:=hG1
 have hsX:w.heap.size+2≤X.heap.size:=by rw [hX];simp
 clear hX hG1
 refine (HCQ.out X).mono ?_
 rintro e w1 ⟨rfl,hb1⟩
 have hs1:=hb1.size
 have HB1:Hid (Below X.heap.size X w1):=hb1
 have HW1:Hid (Below w.heap.size w w1):=HBX.out.trans (hb1.mono (by omega))
 clear hb1
 by_cases h1:ce=0
 ·have HR2':Hid (typB t=false→A=⟨[],0,7⟩):=HR2.out h1
  have HR3':Hid (typB t=true→ke≠0→A=⟨[],0,ke⟩):=HR3.out h1
  have HR4':Hid (typB t=true→ke=0→A=anS QQ t here sv ms ⟨px,py,pz,ph,pq⟩ wh):=HR4.out h1
  clear HR1 HR2 HR3 HR4
  subst h1
  generalize typB t=tb at *
  go_wp2_with fail
  refine (HCT.out _).mono ?_
  rintro e w2 ⟨rfl,rfl⟩
  cases tb
  ·have HR:Hid (A=⟨[],0,7⟩):=HR2'.out rfl
   go_wp2_with fail
   go_ret3
   exact ⟨.slice none 0 0,by rw [HR.out];rfl,by rw [HR.out];exact Rc.own_nil _ _,HW1.out⟩
  ·have HR3'':Hid (ke≠0→A=⟨[],0,ke⟩):=HR3'.out rfl
   have HR4'':Hid (ke=0→A=anS QQ t here sv ms ⟨px,py,pz,ph,pq⟩ wh):=HR4'.out rfl
   clear HR2' HR3' HR4'
   have hgq:w2.heap[w.heap.size]?=some (.cells #[.string qs,.string qt,.string qn,.string qc] 50 (0,0)):=(HB1.out.block _ (by omega)).trans HGQ.out
   have hgp:w2.heap[w.heap.size+1]?=some (.cells #[.int .i64 px,.int .i64 py,.int .i64 pz,.int .i64 ph,.int .i64 pq] 25 (0,0)):=(HB1.out.block _ (by omega)).trans HGP.out
   have q0:w2.cell? ⟨w.heap.size,0,none⟩=some (.string qs):=cellsAt hgq 0
   have q1:w2.cell? ⟨w.heap.size,1,none⟩=some (.string qt):=cellsAt hgq 1
   have q2:w2.cell? ⟨w.heap.size,2,none⟩=some (.string qn):=cellsAt hgq 2
   have q3:w2.cell? ⟨w.heap.size,3,none⟩=some (.string qc):=cellsAt hgq 3
   have p0:w2.cell? ⟨w.heap.size+1,0,none⟩=some (.int .i64 px):=cellsAt hgp 0
   have p1:w2.cell? ⟨w.heap.size+1,1,none⟩=some (.int .i64 py):=cellsAt hgp 1
   have p2:w2.cell? ⟨w.heap.size+1,2,none⟩=some (.int .i64 pz):=cellsAt hgp 2
   have p3:w2.cell? ⟨w.heap.size+1,3,none⟩=some (.int .i64 ph):=cellsAt hgp 3
   have p4:w2.cell? ⟨w.heap.size+1,4,none⟩=some (.int .i64 pq):=cellsAt hgp 4
   clear hgq hgp
   go_wp2_with fail
   refine (HCK.out _ (HS.out.below HW1.out) (HM.out.below HW1.out) (HW.out.below HW1.out)).mono ?_
   rintro e w3 ⟨rfl,hb3⟩
   have hs3:=hb3.size
   have HB3:Hid (Below X.heap.size X w3):=HB1.out.trans (hb3.mono hs1)
   have HW3:Hid (Below w.heap.size w w3):=HW1.out.trans (hb3.mono (by omega))
   clear hb3
   clear q0 q1 q2 q3 p0 p1 p2 p3 p4
   by_cases h3:ke=0
   ·have HR:Hid (A=anS QQ t here sv ms ⟨px,py,pz,ph,pq⟩ wh):=HR4''.out h3
    have HK:Hid (KnOk here sv ms ⟨px,py,pz,ph,pq⟩ wh):=HKO.out h3
    clear HR3'' HR4'' HKO
    subst h3
    have hgq:w3.heap[w.heap.size]?=some (.cells #[.string qs,.string qt,.string qn,.string qc] 50 (0,0)):=(HB3.out.block _ (by omega)).trans HGQ.out
    have hgp:w3.heap[w.heap.size+1]?=some (.cells #[.int .i64 px,.int .i64 py,.int .i64 pz,.int .i64 ph,.int .i64 pq] 25 (0,0)):=(HB3.out.block _ (by omega)).trans HGP.out
    have q0:w3.cell? ⟨w.heap.size,0,none⟩=some (.string qs):=cellsAt hgq 0
    have q1:w3.cell? ⟨w.heap.size,1,none⟩=some (.string qt):=cellsAt hgq 1
    have q2:w3.cell? ⟨w.heap.size,2,none⟩=some (.string qn):=cellsAt hgq 2
    have q3:w3.cell? ⟨w.heap.size,3,none⟩=some (.string qc):=cellsAt hgq 3
    have p0:w3.cell? ⟨w.heap.size+1,0,none⟩=some (.int .i64 px):=cellsAt hgp 0
    have p1:w3.cell? ⟨w.heap.size+1,1,none⟩=some (.int .i64 py):=cellsAt hgp 1
    have p2:w3.cell? ⟨w.heap.size+1,2,none⟩=some (.int .i64 pz):=cellsAt hgp 2
    have p3:w3.cell? ⟨w.heap.size+1,3,none⟩=some (.int .i64 ph):=cellsAt hgp 3
    have p4:w3.cell? ⟨w.heap.size+1,4,none⟩=some (.int .i64 pq):=cellsAt hgp 4
    clear hgq hgp
    go_wp2_with fail
    refine Calls.mono (HCP.out w3) ?_
    rintro e w4 ⟨rfl,hb4⟩
    have hs4:=hb4.size
    have HB4:Hid (Below X.heap.size X w4):=HB3.out.trans (hb4.mono (by omega))
    have HW4:Hid (Below w.heap.size w w4):=HW3.out.trans (hb4.mono (by omega))
    clear hb4
    clear q0 q1 q2 q3 p0 p1 p2 p3 p4
    by_cases h4:pe=0
    ·have HS1':Hid (qc.size≠0→qc≠here→anS QQ t here sv ms ⟨px,py,pz,ph,pq⟩ wh=⟨[],3,0⟩):=by rw [← HQQ.out] at HS1 ⊢;exact HS1.out h4
     have HS2':Hid (¬ (qc.size≠0∧qc≠here)→qn.size≠0→anS QQ t here sv ms ⟨px,py,pz,ph,pq⟩ wh=ofNd QQ t ms):=by rw [← HQQ.out] at HS2 ⊢;exact HS2.out h4
     have HS3':Hid (¬ (qc.size≠0∧qc≠here)→qn.size=0→anS QQ t here sv ms ⟨px,py,pz,ph,pq⟩ wh=ofSv QQ t here sv ms ⟨px,py,pz,ph,pq⟩ wh):=by rw [← HQQ.out] at HS3 ⊢;exact HS3.out h4
     clear HS0 HS1 HS2 HS3
     subst h4
     have hgq:w4.heap[w.heap.size]?=some (.cells #[.string qs,.string qt,.string qn,.string qc] 50 (0,0)):=(HB4.out.block _ (by omega)).trans HGQ.out
     have hgp:w4.heap[w.heap.size+1]?=some (.cells #[.int .i64 px,.int .i64 py,.int .i64 pz,.int .i64 ph,.int .i64 pq] 25 (0,0)):=(HB4.out.block _ (by omega)).trans HGP.out
     have q0:w4.cell? ⟨w.heap.size,0,none⟩=some (.string qs):=cellsAt hgq 0
     have q1:w4.cell? ⟨w.heap.size,1,none⟩=some (.string qt):=cellsAt hgq 1
     have q2:w4.cell? ⟨w.heap.size,2,none⟩=some (.string qn):=cellsAt hgq 2
     have q3:w4.cell? ⟨w.heap.size,3,none⟩=some (.string qc):=cellsAt hgq 3
     have p0:w4.cell? ⟨w.heap.size+1,0,none⟩=some (.int .i64 px):=cellsAt hgp 0
     have p1:w4.cell? ⟨w.heap.size+1,1,none⟩=some (.int .i64 py):=cellsAt hgp 1
     have p2:w4.cell? ⟨w.heap.size+1,2,none⟩=some (.int .i64 pz):=cellsAt hgp 2
     have p3:w4.cell? ⟨w.heap.size+1,3,none⟩=some (.int .i64 ph):=cellsAt hgp 3
     have p4:w4.cell? ⟨w.heap.size+1,4,none⟩=some (.int .i64 pq):=cellsAt hgp 4
     clear hgq hgp
     generalize hps:prS QQ=name at *
     have HPS:Hid (prS QQ=name):=hps
     clear hps
     by_cases hc:qc.size≠0∧qc≠here
     ·have HR2:Hid (A=⟨[],3,0⟩):=HR.out.trans (HS1'.out hc.1 hc.2)
      obtain ⟨e1,e2⟩:=nempty hc.1
      obtain ⟨e3,e4⟩:=beq_name hc.2
      clear hc
      go_wp2_with fail
      go_ret3
      exact ⟨.slice none 0 0,by rw [HR2.out];rfl,by rw [HR2.out];exact Rc.own_nil _ _,HW4.out⟩
     ·have hcc:((qc.toList == [])=true∧qc.toList=[])∨((qc.toList == [])=false∧¬ qc.toList=[]∧(qc.toList == here.toList)=true∧qc.toList=here.toList):=by
       by_cases h:qc.size=0
       ·have e:=isempty h
        have h2:qc.toList=[]:=by rw [e,Lib.toList_data]
        exact .inl ⟨by rw [h2];rfl,h2⟩
       ·have e:qc=here:=by
         by_cases e:qc=here
         ·exact e
         ·exact absurd ⟨h,e⟩ hc
        exact .inr ⟨(nempty h).1,(nempty h).2,by rw [e];simp,by rw [e]⟩
      have HS2'':Hid (qn.size≠0→anS QQ t here sv ms ⟨px,py,pz,ph,pq⟩ wh=ofNd QQ t ms):=HS2'.out hc
      have HS3'':Hid (qn.size=0→anS QQ t here sv ms ⟨px,py,pz,ph,pq⟩ wh=ofSv QQ t here sv ms ⟨px,py,pz,ph,pq⟩ wh):=HS3'.out hc
      clear HS1' HS2' HS3' hc
      by_cases hnz:qn.size=0
      ·have HR2:Hid (A=ofSv QQ t here sv ms ⟨px,py,pz,ph,pq⟩ wh):=HR.out.trans (HS3''.out hnz)
       have g4:qn.toList=[]:=by rw [isempty hnz,Lib.toList_data]
       have g3:(qn.toList == [])=true:=by rw [g4];rfl
       clear g4 HS2'' HS3'' hnz
       have hsl:sv.length≤40:=(Sv.chk_zero HK.out.sv).1
       have HF2:Hid (∀ W,Sv.Sl W (.slice ps ns cs) sv→Calls Tryz.prog 45 #[.slice ps ns cs,.string qs,.string qt] W fun e w'=>∃ v',e=.returned v'∧Sv.Own W.heap.size w' v' (Sv.findL sv qs qt)∧Below W.heap.size W w'):=fun W h=>Sv.refFind_any sv _ qs qt W h hsl
       have HF0:Hid (∀ W,Sv.Sl W (.slice ps ns cs) sv→Calls Tryz.prog 45 #[.slice ps ns cs,.string qs,.string ⟨#[]⟩] W fun e w'=>∃ v',e=.returned v'∧Sv.Own W.heap.size w' v' (Sv.findL sv qs ⟨#[]⟩)∧Below W.heap.size W w'):=fun W h=>Sv.refFind_any sv _ qs ⟨#[]⟩ W h hsl
       have hfl:(Sv.findL sv qs qt).length≤40:=by have h1:=Sv.findL_len sv qs qt;omega
       have HFO:Hid (∀ x∈Sv.findL sv qs qt,x.ok):=Sv.findL_ok (by obtain ⟨_,_,_,h,_⟩:=HS.out;exact Sv.ns_mem h)
       have HUP:Hid (nodesR (liveL ms (Sv.findL sv qs qt))=nodesP (liveL ms (Sv.findL sv qs qt))):=nodes_eq _ (live_up (find_up _ _ HK.out.sv))
       have HNR:Hid (nearL ⟨px,py,pz,ph,pq⟩ wh ms (Sv.findL sv qs qt)=(allN (srt ⟨px,py,pz,ph,pq⟩ wh (nodesP (liveL ms (Sv.findL sv qs qt)))) (Sv.findL sv qs qt)).take 20):=near_found
       have HA1:Hid (Sv.findL sv qs ⟨#[]⟩=[]→ofSv QQ t here sv ms ⟨px,py,pz,ph,pq⟩ wh=⟨[],3,0⟩):=fun h=>by rw [← HQQ.out];unfold ofSv;rw [if_pos h]
       have HA2:Hid (Sv.findL sv qs ⟨#[]⟩≠[]→recsE here t (nearL ⟨px,py,pz,ph,pq⟩ wh ms (Sv.findL sv qs qt))=0→ofSv QQ t here sv ms ⟨px,py,pz,ph,pq⟩ wh=⟨(nearL ⟨px,py,pz,ph,pq⟩ wh ms (Sv.findL sv qs qt)).map (rec1 name here t),0,0⟩):=fun h h2=>by rw [← HPS.out,← HQQ.out];unfold ofSv;rw [if_neg h,if_pos h2]
       have HA3:Hid (Sv.findL sv qs ⟨#[]⟩≠[]→recsE here t (nearL ⟨px,py,pz,ph,pq⟩ wh ms (Sv.findL sv qs qt))≠0→ofSv QQ t here sv ms ⟨px,py,pz,ph,pq⟩ wh=⟨[],0,recsE here t (nearL ⟨px,py,pz,ph,pq⟩ wh ms (Sv.findL sv qs qt))⟩):=fun h h2=>by rw [← HQQ.out];unfold ofSv;rw [if_neg h,if_neg h2]
       have HSUB:Hid (Sv.findL sv qs qt≠[]→Sv.findL sv qs ⟨#[]⟩≠[]):=find_sub
       obtain ⟨hwl,hokp,hokw⟩:=HK.out.okP
       have HSO:Hid (∀ (vn:Value) W ns',ns'.length≤100→Wh.Sl W (.slice pw nw cw) wh→TSl W vn ns'→Calls Tryz.prog 46 #[.agg #[.int .i64 px,.int .i64 py,.int .i64 pz,.int .i64 ph,.int .i64 pq],.slice pw nw cw,vn] W fun e w'=>∃ v',e=.returned v'∧TSl w' v' (srt ⟨px,py,pz,ph,pq⟩ wh ns')∧Below W.heap.size W w'):=fun vn W ns' h1 h2 h3=>sortOf_any ⟨px,py,pz,ph,pq⟩ wh _ vn ns' W h2 h3 hwl h1 hokp hokw
       have HOKF:Hid (∀ s∈nodesP (liveL ms (Sv.findL sv qs qt)),s.size≤maxLen):=fun s hs=>by
        obtain ⟨x,hx,e⟩:=(nodesP_mem _ s).1 hs
        rw [← e]
        exact (HFO.out x (List.mem_filter.1 hx).1).1
       have hnl:(nodesP (liveL ms (Sv.findL sv qs qt))).length≤100:=by have h1:=nodesP_len (liveL ms (Sv.findL sv qs qt));have h2:=live_len ms (Sv.findL sv qs qt);omega
       have hsl2:(srt ⟨px,py,pz,ph,pq⟩ wh (nodesP (liveL ms (Sv.findL sv qs qt)))).length≤100:=by rw [srt_len];exact hnl
       clear hokp hokw hwl hsl
       generalize nearL ⟨px,py,pz,ph,pq⟩ wh ms (Sv.findL sv qs qt)=NL at *
       generalize Sv.findL sv qs qt=FL at *
       generalize Sv.findL sv qs ⟨#[]⟩=F0 at *
       rcases hcc with ⟨g1,-⟩ | ⟨g1,g2,g5,-⟩
       all_goals
        go_wp2_with fail
        refine Calls.mono (HF2.out w4 (HS.out.below HW4.out)) ?_
        rintro e w5 ⟨v5,rfl,ho5,hb5⟩
        obtain ⟨pf,cf,rfl⟩:=svown_slice ho5
        have hs5:=hb5.size
        have HB5:Hid (Below X.heap.size X w5):=HB4.out.trans (hb5.mono (by omega))
        have HW5:Hid (Below w.heap.size w w5):=HW4.out.trans (hb5.mono (by omega))
        have HFX:Hid (Sv.Sl w5 (.slice pf FL.length cf) FL):=Sv.own_names ho5 HFO.out
        clear ho5 hb5
        clear q0 q1 q2 q3 p0 p1 p2 p3 p4
        generalize hnn:FL.length=n at *
        have HNN:Hid (FL.length=n):=hnn
        clear hnn
        go_upto_block 0 with fail
        refine rloop1 ms FL pm pf nm cm n cf w5 HK.out.ms hfl HUP (HM.out.below HW5.out) HFX HNN _ ?_
        intro _ _ _ _ _ _ _ _ _ _ _ _ _ _ _ _ _ _ _ _ _ _ _ _ _ _ _ _ _ _ _ _ _ _ _ _ _ _ _ _ _ _ _ _ _ _ _ _ _ _ vn w6 ho6 hb6
        have hs6:=hb6.out.size
        have HB6:Hid (Below X.heap.size X w6):=HB5.out.trans (hb6.out.mono (by omega))
        have HW6:Hid (Below w.heap.size w w6):=HW5.out.trans (hb6.out.mono (by omega))
        have HF6:Hid (Sv.Sl w6 (.slice pf n cf) FL):=HFX.out.below hb6.out
        have HTS:Hid (TSl w6 vn (nodesP (liveL ms FL))):=own_tsl' ho6.out HOKF.out
        clear ho6 hb6
        have hgq:w6.heap[w.heap.size]?=some (.cells #[.string qs,.string qt,.string qn,.string qc] 50 (0,0)):=(HB6.out.block _ (by omega)).trans HGQ.out
        have hgp:w6.heap[w.heap.size+1]?=some (.cells #[.int .i64 px,.int .i64 py,.int .i64 pz,.int .i64 ph,.int .i64 pq] 25 (0,0)):=(HB6.out.block _ (by omega)).trans HGP.out
        have q0:w6.cell? ⟨w.heap.size,0,none⟩=some (.string qs):=cellsAt hgq 0
        have q1:w6.cell? ⟨w.heap.size,1,none⟩=some (.string qt):=cellsAt hgq 1
        have q2:w6.cell? ⟨w.heap.size,2,none⟩=some (.string qn):=cellsAt hgq 2
        have q3:w6.cell? ⟨w.heap.size,3,none⟩=some (.string qc):=cellsAt hgq 3
        have p0:w6.cell? ⟨w.heap.size+1,0,none⟩=some (.int .i64 px):=cellsAt hgp 0
        have p1:w6.cell? ⟨w.heap.size+1,1,none⟩=some (.int .i64 py):=cellsAt hgp 1
        have p2:w6.cell? ⟨w.heap.size+1,2,none⟩=some (.int .i64 pz):=cellsAt hgp 2
        have p3:w6.cell? ⟨w.heap.size+1,3,none⟩=some (.int .i64 ph):=cellsAt hgp 3
        have p4:w6.cell? ⟨w.heap.size+1,4,none⟩=some (.int .i64 pq):=cellsAt hgp 4
        clear hgq hgp
        go_wp2_with fail
        refine Calls.mono (HSO.out vn w6 (nodesP (liveL ms FL)) hnl (HW.out.below HW6.out) HTS.out) ?_
        rintro e Y ⟨v7,rfl,hts,hb7⟩
        have hs7:=hb7.size
        have HTY:Hid (TSl Y v7 (srt ⟨px,py,pz,ph,pq⟩ wh (nodesP (liveL ms FL)))):=hts
        obtain ⟨pn,cn,hv7,-,-⟩:=hts
        subst hv7
        have HB7:Hid (Below X.heap.size X Y):=HB6.out.trans (hb7.mono (by omega))
        have HW7:Hid (Below w.heap.size w Y):=HW6.out.trans (hb7.mono (by omega))
        have HF7:Hid (Sv.Sl Y (.slice pf n cf) FL):=HF6.out.below hb7
        clear hb7 HF6 HTS
        clear q0 q1 q2 q3 p0 p1 p2 p3 p4
        generalize hsr:srt ⟨px,py,pz,ph,pq⟩ wh (nodesP (liveL ms FL))=SL at *
        have HSR:Hid (NL=(allN SL FL).take 20):=HNR
        clear hsr
        generalize hmm:SL.length=m at *
        have HMM:Hid (SL.length=m):=hmm
        clear hmm
        go_upto_block 2 with fail
        refine rloop2 name here t FL NL SL pf pn n cf m cn Y hh hfl hsl2 HSR HF7 HTY HNN HMM _ ?hN ?hE
        case hE=>
         intro a W hret hz hne hb
         have HA:A=⟨[],0,recsE here t NL⟩:=HR2.out.trans (HA3.out (HSUB.out hne) hz)
         exact ret3_post (v:=.slice none 0 0) (by rw [HA];exact hret) (by rw [HA];exact Rc.own_nil _ _) (HW7.out.trans (hb.mono (by omega)))
        case hN=>
         intro _ _ _ _ _ _ _ _ _ _ _ _ _ _ _ _ _ _ _ _ _ _ _ _ _ _ _ _ _ _ _ _ _ _ _ _ _ _ _ _ _ _ _ _ _ _ _ _ _ _ _ _ _ _ _ _ _ _ _ _ _ _ _ _ _ _ _ _ _ _ _ _ _ _ _ _ _ _ _ _ vo w8 ho8 hz8 hb8
         have hs8:=hb8.out.size
         have HB8:Hid (Below X.heap.size X w8):=HB7.out.trans (hb8.out.mono (by omega))
         have HW8:Hid (Below w.heap.size w w8):=HW7.out.trans (hb8.out.mono (by omega))
         have HO8:Hid (Rc.Own w.heap.size w8 vo (NL.map (rec1 name here t))):=ho8.out.mono (by omega)
         clear ho8 hb8
         have hgq:w8.heap[w.heap.size]?=some (.cells #[.string qs,.string qt,.string qn,.string qc] 50 (0,0)):=(HB8.out.block _ (by omega)).trans HGQ.out
         have hgp:w8.heap[w.heap.size+1]?=some (.cells #[.int .i64 px,.int .i64 py,.int .i64 pz,.int .i64 ph,.int .i64 pq] 25 (0,0)):=(HB8.out.block _ (by omega)).trans HGP.out
         have q0:w8.cell? ⟨w.heap.size,0,none⟩=some (.string qs):=cellsAt hgq 0
         have q1:w8.cell? ⟨w.heap.size,1,none⟩=some (.string qt):=cellsAt hgq 1
         have q2:w8.cell? ⟨w.heap.size,2,none⟩=some (.string qn):=cellsAt hgq 2
         have q3:w8.cell? ⟨w.heap.size,3,none⟩=some (.string qc):=cellsAt hgq 3
         have p0:w8.cell? ⟨w.heap.size+1,0,none⟩=some (.int .i64 px):=cellsAt hgp 0
         have p1:w8.cell? ⟨w.heap.size+1,1,none⟩=some (.int .i64 py):=cellsAt hgp 1
         have p2:w8.cell? ⟨w.heap.size+1,2,none⟩=some (.int .i64 pz):=cellsAt hgp 2
         have p3:w8.cell? ⟨w.heap.size+1,3,none⟩=some (.int .i64 ph):=cellsAt hgp 3
         have p4:w8.cell? ⟨w.heap.size+1,4,none⟩=some (.int .i64 pq):=cellsAt hgp 4
         clear hgq hgp
         go_wp2_with fail
         refine Calls.mono (HF0.out w8 (HS.out.below HW8.out)) ?_
         rintro e w9 ⟨v9,rfl,ho9,hb9⟩
         obtain ⟨p9,c9,rfl⟩:=svown_slice ho9
         have HW9:Hid (Below w.heap.size w w9):=HW8.out.trans (hb9.mono (by omega))
         have HO9:Hid (Rc.Own w.heap.size w9 vo (NL.map (rec1 name here t))):=HO8.out.below hb9
         clear ho9 hb9 HO8
         by_cases he:F0=[]
         ·have HA:Hid (A=⟨[],3,0⟩):=HR2.out.trans (HA1.out he)
          have h00:F0.length=0:=by rw [he];rfl
          clear he
          generalize F0.length=n0 at *
          subst h00
          go_wp2_with fail
          go_ret3
          exact ⟨.slice none 0 0,by rw [HA.out];rfl,by rw [HA.out];exact Rc.own_nil _ _,HW9.out⟩
         ·have HA:Hid (A=⟨NL.map (rec1 name here t),0,0⟩):=HR2.out.trans (HA2.out he hz8.out)
          have h00:(((F0.length:Nat):Int) == 0)=false:=by
           have:F0.length≠0:=fun h=>he (List.eq_nil_of_length_eq_zero h)
           simpa using this
          clear he
          generalize F0.length=n0 at *
          go_wp2_with fail
          go_ret3
          exact ⟨vo,by rw [HA.out];rfl,by rw [HA.out];exact HO9.out,HW9.out⟩
      ·have HR2:Hid (A=ofNd QQ t ms):=HR.out.trans (HS2''.out hnz)
       obtain ⟨g3,g4⟩:=nempty hnz
       clear HS2'' HS3'' hnz
       have hml:ms.length≤1000:=by have:=(chk_zero HK.out.ms).1;omega
       have HAT:Hid (∀ W,Sl W (.slice pm nm cm) ms→Calls Tryz.prog 44 #[.slice pm nm cm,.string qn] W fun e w'=>∃ r:Int,e=.returned (.int .i64 r)∧Hid (AtF ms qn r)∧w'=W):=fun W h=>memAt_any ms _ _ W h hml
       have HN3:Hid (fstM ms qn=none→A=⟨[],3,0⟩):=fun h=>by rw [HR2.out,← HQQ.out];unfold ofNd;rw [if_neg];show ¬ ((mOf ms qn).state=1∨(mOf ms qn).state=2);rw [mOf_none h];decide
       have HN4:Hid (∀ j,j < ms.length→fstM ms qn=some (ms.getD j dm)→2 < (ms.getD j dm).state→A=⟨[],3,0⟩):=fun j hj h h2=>by rw [HR2.out,← HQQ.out];unfold ofNd;rw [if_neg];show ¬ ((mOf ms qn).state=1∨(mOf ms qn).state=2);rw [mOf_some h];omega
       have HN5:Hid (∀ j,j < ms.length→fstM ms qn=some (ms.getD j dm)→¬ 2 < (ms.getD j dm).state→t≠1→A=⟨[],0,0⟩):=fun j hj h h2 h3=>by
        have h4:=st_range HK.out.ms hj
        rw [HR2.out,← HQQ.out];unfold ofNd;rw [if_pos,if_neg h3];show (mOf ms qn).state=1∨(mOf ms qn).state=2;rw [mOf_some h];omega
       have HN6:Hid (∀ j,j < ms.length→fstM ms qn=some (ms.getD j dm)→¬ 2 < (ms.getD j dm).state→t=1→A=⟨[⟨name,1,0,(ms.getD j dm).addr,⟨#[]⟩,0,⟨#[]⟩⟩],0,0⟩):=fun j hj h h2 h3=>by
        have h4:=st_range HK.out.ms hj
        rw [HR2.out,← HPS.out,← HQQ.out];unfold ofNd;rw [if_pos,if_pos h3]
        ·show (⟨[⟨_,1,0,(mOf ms qn).addr,_,0,_⟩],0,0⟩:Ans)=_;rw [mOf_some h]
        ·show (mOf ms qn).state=1∨(mOf ms qn).state=2;rw [mOf_some h];omega
       obtain ⟨_,_,hme,-,hma⟩:=(HM.out.below HW4.out)
       simp only [Value.slice.injEq] at hme
       obtain ⟨rfl,hmn,rfl⟩:=hme
       have HML:Hid (nm=ms.length):=hmn
       have HMA:Hid (ms=[]∨∃ b off,pm=some ⟨b,off,none⟩∧b < w4.heap.size∧Row w4 b off ms):=hma
       have HM4:Hid (Sl w4 (.slice pm nm cm) ms):=HM.out.below HW4.out
       clear hma hmn hml
       rcases hcc with ⟨g1,-⟩ | ⟨g1,g2,g5,-⟩
       all_goals
        go_wp2_with fail
        refine Calls.mono (HAT.out w4 HM4.out) ?_
        rintro e w5 ⟨r,rfl,hat,hw5⟩
        subst hw5
        rcases hat.out with ⟨j,hj,rfl,hfj⟩ | ⟨rfl,hfj⟩
        ·obtain ⟨bm,om,hp2,hl2,hr2⟩:∃ b off,pm=some ⟨b,off,none⟩∧b < w5.heap.size∧Row w5 b off ms:=by
          rcases HMA.out with h | h
          ·rw [h] at hj;simp at hj
          ·exact h
         subst hp2
         obtain ⟨-,m1,-,m3,-⟩:=hr2 j hj
         have hjn:j < nm:=by rw [HML.out];exact hj
         have hj0:(0:Int)≤(j:Int):=Int.natCast_nonneg _
         have hj1:(j:Int) < (nm:Int):=by omega
         have HN4':Hid _:=HN4.out j hj hfj
         have HN5':Hid _:=HN5.out j hj hfj
         have HN6':Hid _:=HN6.out j hj hfj
         clear hr2 hfj hat HMA hj HN3 HN4 HN5 HN6
         generalize (ms.getD j dm).state=st at *
         generalize (ms.getD j dm).addr=ad at *
         by_cases hst:2 < st
         ·have HA:Hid (A=⟨[],3,0⟩):=HN4'.out hst
          go_wp2_with fail
          go_ret3
          exact ⟨.slice none 0 0,by rw [HA.out];rfl,by rw [HA.out];exact Rc.own_nil _ _,HW4.out⟩
         ·by_cases ht:t=1
          ·have HA:Hid (A=⟨[⟨name,1,0,ad,⟨#[]⟩,0,⟨#[]⟩⟩],0,0⟩):=HN6'.out (by omega) ht
           have ht':(t != 1)=false:=by simpa using ht
           clear ht
           go_wp2_with fail
           go_ret3
           refine ⟨_,by rw [HA.out];rfl,?_,HW4.out.alloc (by omega) _⟩
           rw [HA.out]
           refine Rc.own_of (G:=1) (cur:=#[.string name,.int .i64 1,.int .i64 0,.int .i64 ad,.string ⟨#[]⟩,.int .i64 0,.string ⟨#[]⟩]) ?_ (heap_alloc_new _ _) rfl (Nat.le_refl _) (by decide) rfl
           omega
          ·have HA:Hid (A=⟨[],0,0⟩):=HN5'.out (by omega) ht
           have ht':(t != 1)=true:=by simpa using ht
           go_wp2_with fail
           go_ret3
           exact ⟨.slice none 0 0,by rw [HA.out];rfl,by rw [HA.out];exact Rc.own_nil _ _,HW4.out⟩
        ·have HA:Hid (A=⟨[],3,0⟩):=HN3.out hfj
         clear hfj hat HN3 HN4 HN5 HN6
         go_wp2_with fail
         go_ret3
         exact ⟨.slice none 0 0,by rw [HA.out];rfl,by rw [HA.out];exact Rc.own_nil _ _,HW4.out⟩
    ·have HR2:Hid (A=⟨[],0,pe⟩):=HR.out.trans (HS0.out h4)
     have h4':(pe != 0)=true:=by simpa using h4
     go_wp2_with fail
     go_ret3
     exact ⟨.slice none 0 0,by rw [HR2.out];rfl,by rw [HR2.out];exact Rc.own_nil _ _,HW4.out⟩
   ·have HR:Hid (A=⟨[],0,ke⟩):=HR3''.out h3
    have h3':(ke != 0)=true:=by simpa using h3
    go_wp2_with fail
    go_ret3
    exact ⟨.slice none 0 0,by rw [HR.out];rfl,by rw [HR.out];exact Rc.own_nil _ _,HW3.out⟩
 ·have HR:Hid (A=⟨[],0,ce⟩):=HR1.out h1
  have h1':(ce == 0)=false:=by simpa using h1
  have h1'':(ce != 0)=true:=by simpa using h1
  go_wp2_with fail
  go_ret3
  exact ⟨.slice none 0 0,by rw [HR.out];rfl,by rw [HR.out];exact Rc.own_nil _ _,HW1.out⟩
end Go.Proofs.YtignmeaeibaejaaGreatDoor
