import Derived.Test.YtignmeaeibaejaaGreatDoorV24
namespace Go.Proofs.YtignmeaeibaejaaGreatDoor
open Go.RowKit
set_option maxHeartbeats 6400000 in
set_option maxRecDepth 100000 in
theorem ofNode_any (here:ByteArray) (ps pm pw:Option Addr) (ns cs nm cm nw cw:Nat) (px py pz ph pq:Int) (q:Qu) (name:ByteArray) (t:Int) (ms:List Mem) (w:World) (hn:nm≤1000) (hm:Sl w (.slice pm nm cm) ms) (hname:name=prS q) :
 Calls Tryz.prog 84 #[.agg (knA here (.slice ps ns cs) (.slice pm nm cm) px py pz ph pq (.slice pw nw cw)),.string q.node,.agg #[.string name,.int .i64 t,.int .i64 0,.int .i64 0,.string ⟨#[]⟩,.int .i64 0,.string ⟨#[]⟩]] w fun e w'=>∃ v,e=.returned (.tuple #[v,.int .i64 (ofNd q t ms).code])∧Rc.Own w.heap.size w' v (ofNd q t ms).rs∧Below w.heap.size w w':=by
 have HME:Hid (∀ W,Sl W (.slice pm nm cm) ms→Calls Tryz.prog 108 #[.agg (knA here (.slice ps ns cs) (.slice pm nm cm) px py pz ph pq (.slice pw nw cw)),.string q.node] W fun e w'=>e=.returned (.agg #[.string (mOf ms q.node).name,.int .i64 (mOf ms q.node).state,.int .i64 (mOf ms q.node).life,.int .i64 (mOf ms q.node).addr,.bool (mOf ms q.node).server])∧Below W.heap.size W w'):=fun W h=>kmember_any here ps pm pw ns cs nm cm nw cw px py pz ph pq ms q.node W h hn
 have HA1:Hid (¬ ((mOf ms q.node).state=1∨(mOf ms q.node).state=2)→ofNd q t ms=⟨[],3,0⟩):=fun h=>by unfold ofNd;rw [if_neg h]
 have HA2:Hid (((mOf ms q.node).state=1∨(mOf ms q.node).state=2)→t≠1→ofNd q t ms=⟨[],0,0⟩):=fun h h2=>by unfold ofNd;rw [if_pos h,if_neg h2]
 have HA3:Hid (((mOf ms q.node).state=1∨(mOf ms q.node).state=2)→t=1→ofNd q t ms=⟨[⟨name,1,0,(mOf ms q.node).addr,⟨#[]⟩,0,⟨#[]⟩⟩],0,0⟩):=fun h h2=>by unfold ofNd;rw [if_pos h,if_pos h2,hname]
 have HM:Hid (Sl w (.slice pm nm cm) ms):=hm
 clear hm hname
 generalize ofNd q t ms=A at *
 generalize mOf ms q.node=m at *
 generalize q.node=nd at *
 obtain ⟨mn,st,lf,ad,sb⟩:=m
 simp only at *
 go_enter Tryz.func84,Tryz.ntmps84
 go_wp2_with fail
 obtain ⟨W,hW⟩:∃ W,W=(w.alloc (.cells (knA here (.slice ps ns cs) (.slice pm nm cm) px py pz ph pq (.slice pw nw cw)) 45)).alloc (.cells #[.string name,.int .i64 t,.int .i64 0,.int .i64 0,.string ⟨#[]⟩,.int .i64 0,.string ⟨#[]⟩] 59):=⟨_,rfl⟩
 rw [← hW]
 have hbW:Below w.heap.size w W:=by rw [hW];exact ((Below.refl _ _).alloc (Nat.le_refl _) _).alloc (by simp) _
 have hG1:W.heap[w.heap.size+1]?=some (.cells #[.string name,.int .i64 t,.int .i64 0,.int .i64 0,.string ⟨#[]⟩,.int .i64 0,.string ⟨#[]⟩] 59 (0,0)):=by
  rw [hW]
  have h:=heap_alloc_new (w.alloc (.cells (knA here (.slice ps ns cs) (.slice pm nm cm) px py pz ph pq (.slice pw nw cw)) 45)) (.cells #[.string name,.int .i64 t,.int .i64 0,.int .i64 0,.string ⟨#[]⟩,.int .i64 0,.string ⟨#[]⟩] 59)
  simpa using h
 have hsW:w.heap.size+2≤W.heap.size:=by rw [hW];simp
 clear hW
 refine (HME.out W (HM.out.below hbW)).mono ?_
 rintro e w1 ⟨rfl,hb1⟩
 have hs1:=hb1.size
 have HB1:Hid (Below w.heap.size w w1):=hbW.trans (hb1.mono (by omega))
 have hg1:w1.heap[w.heap.size+1]?=_:=(hb1.block _ (by omega)).trans hG1
 have hd:∀ ob,(w1.alloc ob).heap[w.heap.size+1]?=some (.cells #[.string name,.int .i64 t,.int .i64 0,.int .i64 0,.string ⟨#[]⟩,.int .i64 0,.string ⟨#[]⟩] 59 (0,0)):=fun ob=>by rw [Below.heap_alloc _ _ _ (by omega)];exact hg1
 have l0:∀ ob,(w1.alloc ob).cell? ⟨w.heap.size+1,0,none⟩=some (.string name):=fun ob=>cellsAt (hd ob) 0
 have l1:∀ ob,(w1.alloc ob).cell? ⟨w.heap.size+1,1,none⟩=some (.int .i64 t):=fun ob=>cellsAt (hd ob) 1
 have l2:∀ ob,(w1.alloc ob).cell? ⟨w.heap.size+1,2,none⟩=some (.int .i64 0):=fun ob=>cellsAt (hd ob) 2
 have l3:∀ ob,(w1.alloc ob).cell? ⟨w.heap.size+1,3,none⟩=some (.int .i64 0):=fun ob=>cellsAt (hd ob) 3
 have l4:∀ ob,(w1.alloc ob).cell? ⟨w.heap.size+1,4,none⟩=some (.string ⟨#[]⟩):=fun ob=>cellsAt (hd ob) 4
 have l5:∀ ob,(w1.alloc ob).cell? ⟨w.heap.size+1,5,none⟩=some (.int .i64 0):=fun ob=>cellsAt (hd ob) 5
 have l6:∀ ob,(w1.alloc ob).cell? ⟨w.heap.size+1,6,none⟩=some (.string ⟨#[]⟩):=fun ob=>cellsAt (hd ob) 6
 have z3:∀ ob,(w1.alloc ob).frozen? ⟨w.heap.size+1,3,none⟩=false:=fun ob=>by simp [World.frozen?,hd ob]
 have HBA:Hid (∀ ob,Below w.heap.size w (w1.alloc ob)):=fun ob=>HB1.out.alloc (by omega) ob
 clear hbW hG1 hb1 hg1 hd
 by_cases hs:st=1∨st=2
 ·have HA2':Hid (t≠1→A=⟨[],0,0⟩):=HA2.out hs
  have HA3':Hid (t=1→A=⟨[⟨name,1,0,ad,⟨#[]⟩,0,⟨#[]⟩⟩],0,0⟩):=HA3.out hs
  clear HA1 HA2 HA3
  by_cases ht:t=1
  ·have HR:Hid (A=⟨[⟨name,1,0,ad,⟨#[]⟩,0,⟨#[]⟩⟩],0,0⟩):=HA3'.out ht
   clear HA2' HA3'
   subst ht
   rcases hs with hs | hs
   all_goals
    subst hs
    go_wp2_with fail
    go_ret2
    refine ⟨_,by rw [HR.out];rfl,?_,?_⟩
    ·rw [HR.out]
     refine Rc.own_of (G:=1) (cur:=#[.string name,.int .i64 1,.int .i64 0,.int .i64 ad,.string ⟨#[]⟩,.int .i64 0,.string ⟨#[]⟩]) ?_ ?_ rfl (Nat.le_refl _) (by decide) rfl
     rotate_left
     ·first | exact heap_alloc_new _ _ | (have h:=heap_alloc_new ((w1.alloc (.cells #[.string mn,.int .i64 1,.int .i64 lf,.int .i64 ad,.bool sb] 89)).setCell ⟨w.heap.size+1,3,none⟩ (.int .i64 ad)) (.cells #[.string name,.int .i64 1,.int .i64 0,.int .i64 ad,.string ⟨#[]⟩,.int .i64 0,.string ⟨#[]⟩] 59);simpa using h)  | (have h:=heap_alloc_new ((w1.alloc (.cells #[.string mn,.int .i64 2,.int .i64 lf,.int .i64 ad,.bool sb] 89)).setCell ⟨w.heap.size+1,3,none⟩ (.int .i64 ad)) (.cells #[.string name,.int .i64 1,.int .i64 0,.int .i64 ad,.string ⟨#[]⟩,.int .i64 0,.string ⟨#[]⟩] 59);simpa using h)
     ·(try simp)<;>omega
    ·exact ((HBA.out _).setCell (p:=⟨w.heap.size+1,3,none⟩) (by simp) _).alloc (by simp<;>omega) _
  ·have HR:Hid (A=⟨[],0,0⟩):=HA2'.out ht
   have ht':(t != 1)=true:=by simpa using ht
   clear HA2' HA3'
   rcases hs with hs | hs
   all_goals
    subst hs
    go_wp2_with fail
    go_ret2
    exact ⟨.slice none 0 0,by rw [HR.out];rfl,by rw [HR.out];exact Rc.own_nil _ _,HBA.out _⟩
 ·have HR:Hid (A=⟨[],3,0⟩):=HA1.out hs
  have g1:(st != 1)=true:=by simpa using fun h=>hs (.inl h)
  have g2:(st != 2)=true:=by simpa using fun h=>hs (.inr h)
  clear HA1 HA2 HA3 hs
  go_wp2_with fail
  go_ret2
  exact ⟨.slice none 0 0,by rw [HR.out];rfl,by rw [HR.out];exact Rc.own_nil _ _,HBA.out _⟩
set_option maxHeartbeats 6400000 in
set_option maxRecDepth 100000 in
theorem krecords_any (here:ByteArray) (ps pm pw:Option Addr) (ns cs nm cm nw cw:Nat) (px py pz ph pq:Int) (q:Qu) (t:Int) (sv:List Sv.Svc) (ms:List Mem) (wh:List Wh.Whe) (w:World) (hq:q.ok) (hk:KnOk here sv ms ⟨px,py,pz,ph,pq⟩ wh) (hs:Sv.Sl w (.slice ps ns cs) sv) (hm:Sl w (.slice pm nm cm) ms) (hw:Wh.Sl w (.slice pw nw cw) wh) :
 Calls Tryz.prog 50 #[.agg (knA here (.slice ps ns cs) (.slice pm nm cm) px py pz ph pq (.slice pw nw cw)),.agg #[.string q.service,.string q.tag,.string q.node,.string q.centre],.int .i64 t] w fun e w'=>∃ v,e=.returned (.tuple #[v,.int .i64 (anS q t here sv ms ⟨px,py,pz,ph,pq⟩ wh).code,.int .i64 (anS q t here sv ms ⟨px,py,pz,ph,pq⟩ wh).e])∧Rc.Own w.heap.size w' v (anS q t here sv ms ⟨px,py,pz,ph,pq⟩ wh).rs∧Below w.heap.size w w':=by
 have hn:nm≤1000:=by
  obtain ⟨_,_,he,_,_⟩:=id hm
  simp only [Value.slice.injEq] at he
  have:=(chk_zero hk.ms).1
  omega
 have HS:Hid (Sv.Sl w (.slice ps ns cs) sv):=hs
 have HM:Hid (Sl w (.slice pm nm cm) ms):=hm
 have HW:Hid (Wh.Sl w (.slice pw nw cw) wh):=hw
 have HP:Hid (∀ W,Calls Tryz.prog 83 #[.agg #[.string q.service,.string q.tag,.string q.node,.string q.centre]] W fun e w'=>e=.returned (.tuple #[.string (prS q),.int .i64 (prE q)])∧Below W.heap.size W w'):=fun W=>print_any q W hq
 have hPQ:prE q=0→chkQ q=0:=fun h=>by unfold prE at h;by_cases h2:chkQ q=0;exact h2;rw [if_neg h2] at h;exact absurd h h2
 have HND:Hid (∀ W,Sl W (.slice pm nm cm) ms→Calls Tryz.prog 84 #[.agg (knA here (.slice ps ns cs) (.slice pm nm cm) px py pz ph pq (.slice pw nw cw)),.string q.node,.agg #[.string (prS q),.int .i64 t,.int .i64 0,.int .i64 0,.string ⟨#[]⟩,.int .i64 0,.string ⟨#[]⟩]] W fun e w'=>∃ v,e=.returned (.tuple #[v,.int .i64 (ofNd q t ms).code])∧Rc.Own W.heap.size w' v (ofNd q t ms).rs∧Below W.heap.size W w'):=fun W h=>ofNode_any here ps pm pw ns cs nm cm nw cw px py pz ph pq q (prS q) t ms W hn h rfl
 have HSV:Hid (prE q=0→q.node.size=0→∀ W,Sv.Sl W (.slice ps ns cs) sv→Sl W (.slice pm nm cm) ms→Wh.Sl W (.slice pw nw cw) wh→Calls Tryz.prog 85 #[.agg (knA here (.slice ps ns cs) (.slice pm nm cm) px py pz ph pq (.slice pw nw cw)),.agg #[.string q.service,.string q.tag,.string q.node,.string q.centre],.agg #[.string (prS q),.int .i64 t,.int .i64 0,.int .i64 0,.string ⟨#[]⟩,.int .i64 0,.string ⟨#[]⟩]] W fun e w'=>∃ v,e=.returned (.tuple #[v,.int .i64 (ofSv q t here sv ms ⟨px,py,pz,ph,pq⟩ wh).code,.int .i64 (ofSv q t here sv ms ⟨px,py,pz,ph,pq⟩ wh).e])∧Rc.Own W.heap.size w' v (ofSv q t here sv ms ⟨px,py,pz,ph,pq⟩ wh).rs∧Below W.heap.size W w'):=fun h0 h1 W a1 a2 a3=>ofService_any here ps pm pw ns cs nm cm nw cw px py pz ph pq q (prS q) t sv ms wh W hq (hPQ h0) h1 hk a1 a2 a3 rfl
 have HNE:Hid ((ofNd q t ms).e=0):=by show (ofNd q t ms).e=0;unfold ofNd;(repeat' split)<;>rfl
 have HA0:Hid (prE q≠0→anS q t here sv ms ⟨px,py,pz,ph,pq⟩ wh=⟨[],0,prE q⟩):=fun h=>by unfold anS;rw [if_neg h]
 have HA1:Hid (prE q=0→q.centre.size≠0→q.centre≠here→anS q t here sv ms ⟨px,py,pz,ph,pq⟩ wh=⟨[],3,0⟩):=fun h h1 h2=>by unfold anS;rw [if_pos h,if_pos ⟨h1,h2⟩]
 have HA2:Hid (prE q=0→¬ (q.centre.size≠0∧q.centre≠here)→q.node.size≠0→anS q t here sv ms ⟨px,py,pz,ph,pq⟩ wh=ofNd q t ms):=fun h h1 h2=>by unfold anS;rw [if_pos h,if_neg h1,if_pos h2]
 have HA3:Hid (prE q=0→¬ (q.centre.size≠0∧q.centre≠here)→q.node.size=0→anS q t here sv ms ⟨px,py,pz,ph,pq⟩ wh=ofSv q t here sv ms ⟨px,py,pz,ph,pq⟩ wh):=fun h h1 h2=>by unfold anS;rw [if_pos h,if_neg h1,if_neg (by omega)]
 clear hs hm hw hk hPQ hq
 generalize anS q t here sv ms ⟨px,py,pz,ph,pq⟩ wh=A at *
 generalize ofNd q t ms=AN at *
 generalize ofSv q t here sv ms ⟨px,py,pz,ph,pq⟩ wh=AS at *
 generalize prE q=PE at *
 generalize prS q=name at *
 obtain ⟨qs,qt,qn,qc⟩:=q
 simp only at *
 go_enter Tryz.func50,Tryz.ntmps50
 go_wp2_with fail
 obtain ⟨W,hW⟩:∃ W,W=(w.alloc (.cells (knA here (.slice ps ns cs) (.slice pm nm cm) px py pz ph pq (.slice pw nw cw)) 45)).alloc (.cells #[.string qs,.string qt,.string qn,.string qc] 50):=⟨_,rfl⟩
 rw [← hW]
 have hbW:Below w.heap.size w W:=by rw [hW];exact ((Below.refl _ _).alloc (Nat.le_refl _) _).alloc (by simp) _
 have hG0:W.heap[w.heap.size]?=some (.cells (knA here (.slice ps ns cs) (.slice pm nm cm) px py pz ph pq (.slice pw nw cw)) 45 (0,0)):=by rw [hW,Below.heap_alloc _ _ _ (by simp)];exact heap_alloc_new w _
 have hG1:W.heap[w.heap.size+1]?=some (.cells #[.string qs,.string qt,.string qn,.string qc] 50 (0,0)):=by
  rw [hW]
  have h:=heap_alloc_new (w.alloc (.cells (knA here (.slice ps ns cs) (.slice pm nm cm) px py pz ph pq (.slice pw nw cw)) 45)) (.cells #[.string qs,.string qt,.string qn,.string qc] 50)
  simpa using h
 have hsW:w.heap.size+2≤W.heap.size:=by rw [hW];simp
 clear hW
 refine (HP.out _).mono ?_
 rintro e w1 ⟨rfl,hb1⟩
 have hs1:=hb1.size
 have HB1:Hid (Below w.heap.size w w1):=hbW.trans (hb1.mono (by omega))
 have k0:w1.heap[w.heap.size]?=_:=(hb1.block _ (by omega)).trans hG0
 have k1:w1.heap[w.heap.size+1]?=_:=(hb1.block _ (by omega)).trans hG1
 by_cases h0:PE=0
 ·have HA1':Hid (qc.size≠0→qc≠here→A=⟨[],3,0⟩):=HA1.out h0
  have HA2':Hid (¬ (qc.size≠0∧qc≠here)→qn.size≠0→A=AN):=HA2.out h0
  have HA3':Hid (¬ (qc.size≠0∧qc≠here)→qn.size=0→A=AS):=HA3.out h0
  have HSV':Hid _:=HSV.out h0
  have hd0:∀ ob,(w1.alloc ob).heap[w.heap.size]?=some (.cells (knA here (.slice ps ns cs) (.slice pm nm cm) px py pz ph pq (.slice pw nw cw)) 45 (0,0)):=fun ob=>by rw [Below.heap_alloc _ _ _ (by omega)];exact k0
  have hd1:∀ ob,(w1.alloc ob).heap[w.heap.size+1]?=some (.cells #[.string qs,.string qt,.string qn,.string qc] 50 (0,0)):=fun ob=>by rw [Below.heap_alloc _ _ _ (by omega)];exact k1
  have d0:∀ ob,(w1.alloc ob).cell? ⟨w.heap.size,0,none⟩=some (.string here):=fun ob=>cellsAt (hd0 ob) 0
  have d1:∀ ob,(w1.alloc ob).cell? ⟨w.heap.size,1,none⟩=some (.slice ps ns cs):=fun ob=>cellsAt (hd0 ob) 1
  have d2:∀ ob,(w1.alloc ob).cell? ⟨w.heap.size,2,none⟩=some (.slice pm nm cm):=fun ob=>cellsAt (hd0 ob) 2
  have d3:∀ ob,(w1.alloc ob).cell? ⟨w.heap.size,3,none⟩=some (.int .i64 px):=fun ob=>cellsAt (hd0 ob) 3
  have d4:∀ ob,(w1.alloc ob).cell? ⟨w.heap.size,4,none⟩=some (.int .i64 py):=fun ob=>cellsAt (hd0 ob) 4
  have d5:∀ ob,(w1.alloc ob).cell? ⟨w.heap.size,5,none⟩=some (.int .i64 pz):=fun ob=>cellsAt (hd0 ob) 5
  have d6:∀ ob,(w1.alloc ob).cell? ⟨w.heap.size,6,none⟩=some (.int .i64 ph):=fun ob=>cellsAt (hd0 ob) 6
  have d7:∀ ob,(w1.alloc ob).cell? ⟨w.heap.size,7,none⟩=some (.int .i64 pq):=fun ob=>cellsAt (hd0 ob) 7
  have d8:∀ ob,(w1.alloc ob).cell? ⟨w.heap.size,8,none⟩=some (.slice pw nw cw):=fun ob=>cellsAt (hd0 ob) 8
  have q0:∀ ob,(w1.alloc ob).cell? ⟨w.heap.size+1,0,none⟩=some (.string qs):=fun ob=>cellsAt (hd1 ob) 0
  have q1:∀ ob,(w1.alloc ob).cell? ⟨w.heap.size+1,1,none⟩=some (.string qt):=fun ob=>cellsAt (hd1 ob) 1
  have q2:∀ ob,(w1.alloc ob).cell? ⟨w.heap.size+1,2,none⟩=some (.string qn):=fun ob=>cellsAt (hd1 ob) 2
  have q3:∀ ob,(w1.alloc ob).cell? ⟨w.heap.size+1,3,none⟩=some (.string qc):=fun ob=>cellsAt (hd1 ob) 3
  have HBA:Hid (∀ ob,Below w.heap.size w (w1.alloc ob)):=fun ob=>HB1.out.alloc (by omega) ob
  clear HA0 HA1 HA2 HA3 HSV hd0 hd1 k0 k1 hG0 hG1 hbW hb1
  subst h0
  by_cases hc:qc.size≠0∧qc≠here
  ·have HR:Hid (A=⟨[],3,0⟩):=HA1'.out hc.1 hc.2
   obtain ⟨e1,e2⟩:=nempty hc.1
   obtain ⟨e3,e4⟩:=beq_name hc.2
   clear hc
   go_wp2_with fail
   go_ret3
   exact ⟨.slice none 0 0,by rw [HR.out];rfl,by rw [HR.out];exact Rc.own_nil _ _,HBA.out _⟩
  ·have HA2'':Hid (qn.size≠0→A=AN):=HA2'.out hc
   have HA3'':Hid (qn.size=0→A=AS):=HA3'.out hc
   have hcc:((qc.toList == [])=true∧qc.toList=[])∨((qc.toList == [])=false∧¬ qc.toList=[]∧(qc.toList == here.toList)=true∧qc.toList=here.toList):=by
    by_cases h:qc.size=0
    ·have e:=isempty h
     have h2:qc.toList=[]:=by rw [e,Lib.toList_data]
     exact .inl ⟨by rw [h2];rfl,h2⟩
    ·have e:qc=here:=by
      by_cases e:qc=here
      ·exact e
      ·exact absurd ⟨h,e⟩ hc
     exact .inr ⟨(nempty h).1,(nempty h).2,by rw [e];simp,by rw [e]⟩
   clear hc HA1' HA2' HA3'
   by_cases hnz:qn.size=0
   ·have HR:Hid (A=AS):=HA3''.out hnz
    have HSV2:Hid _:=HSV'.out hnz
    have g4:qn.toList=[]:=by rw [isempty hnz,Lib.toList_data]
    have g3:(qn.toList == [])=true:=by rw [g4];rfl
    clear g4
    clear HA2'' HA3'' HSV' hnz
    rcases hcc with ⟨g1,-⟩ | ⟨g1,g2,g5,-⟩
    all_goals
     go_wp2_with fail
     refine Calls.mono (HSV2.out _ (HS.out.below (HBA.out _)) (HM.out.below (HBA.out _)) (HW.out.below (HBA.out _))) ?_
     rintro e w2 ⟨v,rfl,ho,hb2⟩
     have HB2:Hid (Below w.heap.size w w2):=(HBA.out _).trans (hb2.mono (by simp<;>omega))
     have HO2:Hid (Rc.Own w.heap.size w2 v AS.rs):=ho.mono (by simp<;>omega)
     clear ho hb2
     go_wp2_with fail
     go_ret3
     exact ⟨v,by rw [HR.out];rfl,by rw [HR.out];exact HO2.out,HB2.out⟩
   ·have HR:Hid (A=AN):=HA2''.out hnz
    obtain ⟨g3,g4⟩:=nempty hnz
    clear HA2'' HA3'' HSV' hnz
    rcases hcc with ⟨g1,-⟩ | ⟨g1,g2,g5,-⟩
    all_goals
     go_wp2_with fail
     refine Calls.mono (HND.out _ (HM.out.below (HBA.out _))) ?_
     rintro e w2 ⟨v,rfl,ho,hb2⟩
     have HB2:Hid (Below w.heap.size w w2):=(HBA.out _).trans (hb2.mono (by simp<;>omega))
     have HO2:Hid (Rc.Own w.heap.size w2 v AN.rs):=ho.mono (by simp<;>omega)
     clear ho hb2
     go_wp2_with fail
     go_ret3
     exact ⟨v,by rw [HR.out,HNE.out];rfl,by rw [HR.out];exact HO2.out,HB2.out⟩
 ·have HR:Hid (A=⟨[],0,PE⟩):=HA0.out h0
  have h0':(PE != 0)=true:=by simpa using h0
  clear HA0 HA1 HA2 HA3 HSV k0 k1 hG0 hG1 hbW hb1
  go_wp2_with fail
  go_ret3
  exact ⟨.slice none 0 0,by rw [HR.out];rfl,by rw [HR.out];exact Rc.own_nil _ _,HB1.out⟩
def anR (q:Qu) (t:Int) (here:ByteArray) (sv:List Sv.Svc) (ms:List Mem) (p:Pl) (wh:List Wh.Whe):Ans:=
 if asE q t=0 then (if knE here sv ms p wh=0 then anS q t here sv ms p wh else ⟨[],0,knE here sv ms p wh⟩) else ⟨[],0,asE q t⟩
set_option maxHeartbeats 6400000 in
set_option maxRecDepth 100000 in
theorem Records_any (here:ByteArray) (ps pm pw:Option Addr) (ns cs nm cm nw cw:Nat) (px py pz ph pq:Int) (q:Qu) (t:Int) (sv:List Sv.Svc) (ms:List Mem) (wh:List Wh.Whe) (w:World) (hq:q.ok) (hh:here.size≤maxLen) (hs:Sv.Sl w (.slice ps ns cs) sv) (hm:Sl w (.slice pm nm cm) ms) (hw:Wh.Sl w (.slice pw nw cw) wh) :
 Calls Tryz.prog 19 #[.agg #[.string q.service,.string q.tag,.string q.node,.string q.centre],.int .i64 t,.string here,.slice ps ns cs,.slice pm nm cm,.agg #[.int .i64 px,.int .i64 py,.int .i64 pz,.int .i64 ph,.int .i64 pq],.slice pw nw cw] w fun e w'=>∃ v,e=.returned (.tuple #[v,.int .i64 (anR q t here sv ms ⟨px,py,pz,ph,pq⟩ wh).code,.int .i64 (anR q t here sv ms ⟨px,py,pz,ph,pq⟩ wh).e])∧Rc.Own w.heap.size w' v (anR q t here sv ms ⟨px,py,pz,ph,pq⟩ wh).rs∧Below w.heap.size w w':=by
 have HS:Hid (Sv.Sl w (.slice ps ns cs) sv):=hs
 have HM:Hid (Sl w (.slice pm nm cm) ms):=hm
 have HW:Hid (Wh.Sl w (.slice pw nw cw) wh):=hw
 have HC1:Hid (∀ W,Calls Tryz.prog 49 #[.agg #[.string q.service,.string q.tag,.string q.node,.string q.centre],.int .i64 t] W fun e w'=>e=.returned (.int .i64 (asE q t))∧Below W.heap.size W w'):=fun W=>asked_any q t W hq
 have HC2:Hid (∀ W,Sv.Sl W (.slice ps ns cs) sv→Sl W (.slice pm nm cm) ms→Wh.Sl W (.slice pw nw cw) wh→Calls Tryz.prog 12 #[.agg (knA here (.slice ps ns cs) (.slice pm nm cm) px py pz ph pq (.slice pw nw cw))] W fun e w'=>e=.returned (.int .i64 (knE here sv ms ⟨px,py,pz,ph,pq⟩ wh))∧Below W.heap.size W w'):=fun W a1 a2 a3=>kcheck_any here ps pm pw ns cs nm cm nw cw px py pz ph pq sv ms wh W hh a1 a2 a3
 have HC3:Hid (knE here sv ms ⟨px,py,pz,ph,pq⟩ wh=0→∀ W,Sv.Sl W (.slice ps ns cs) sv→Sl W (.slice pm nm cm) ms→Wh.Sl W (.slice pw nw cw) wh→Calls Tryz.prog 50 #[.agg (knA here (.slice ps ns cs) (.slice pm nm cm) px py pz ph pq (.slice pw nw cw)),.agg #[.string q.service,.string q.tag,.string q.node,.string q.centre],.int .i64 t] W fun e w'=>∃ v,e=.returned (.tuple #[v,.int .i64 (anS q t here sv ms ⟨px,py,pz,ph,pq⟩ wh).code,.int .i64 (anS q t here sv ms ⟨px,py,pz,ph,pq⟩ wh).e])∧Rc.Own W.heap.size w' v (anS q t here sv ms ⟨px,py,pz,ph,pq⟩ wh).rs∧Below W.heap.size W w'):=fun h W a1 a2 a3=>krecords_any here ps pm pw ns cs nm cm nw cw px py pz ph pq q t sv ms wh W hq (knOk h) a1 a2 a3
 have HR1:Hid (asE q t≠0→anR q t here sv ms ⟨px,py,pz,ph,pq⟩ wh=⟨[],0,asE q t⟩):=fun h=>by unfold anR;rw [if_neg h]
 have HR2:Hid (asE q t=0→knE here sv ms ⟨px,py,pz,ph,pq⟩ wh≠0→anR q t here sv ms ⟨px,py,pz,ph,pq⟩ wh=⟨[],0,knE here sv ms ⟨px,py,pz,ph,pq⟩ wh⟩):=fun h h2=>by unfold anR;rw [if_pos h,if_neg h2]
 have HR3:Hid (asE q t=0→knE here sv ms ⟨px,py,pz,ph,pq⟩ wh=0→anR q t here sv ms ⟨px,py,pz,ph,pq⟩ wh=anS q t here sv ms ⟨px,py,pz,ph,pq⟩ wh):=fun h h2=>by unfold anR;rw [if_pos h,if_pos h2]
 clear hs hm hw hq
 generalize anR q t here sv ms ⟨px,py,pz,ph,pq⟩ wh=A at *
 generalize anS q t here sv ms ⟨px,py,pz,ph,pq⟩ wh=AS at *
 generalize asE q t=e1 at *
 generalize knE here sv ms ⟨px,py,pz,ph,pq⟩ wh=e2 at *
 obtain ⟨qs,qt,qn,qc⟩:=q
 simp only at *
 go_enter Tryz.func19,Tryz.ntmps19
 go_wp2_with fail
 obtain ⟨W,hW⟩:∃ W,W=(w.alloc (.cells #[.string qs,.string qt,.string qn,.string qc] 50)).alloc (.cells #[.int .i64 px,.int .i64 py,.int .i64 pz,.int .i64 ph,.int .i64 pq] 25):=⟨_,rfl⟩
 rw [← hW]
 have hbW:Below w.heap.size w W:=by rw [hW];exact ((Below.refl _ _).alloc (Nat.le_refl _) _).alloc (by simp) _
 have HG0:Hid (W.heap[w.heap.size]?=some (.cells #[.string qs,.string qt,.string qn,.string qc] 50 (0,0))):=by rw [hW,Below.heap_alloc _ _ _ (by simp)];exact heap_alloc_new w _
 have hG1:W.heap[w.heap.size+1]?=some (.cells #[.int .i64 px,.int .i64 py,.int .i64 pz,.int .i64 ph,.int .i64 pq] 25 (0,0)):=by
  rw [hW]
  have h:=heap_alloc_new (w.alloc (.cells #[.string qs,.string qt,.string qn,.string qc] 50)) (.cells #[.int .i64 px,.int .i64 py,.int .i64 pz,.int .i64 ph,.int .i64 pq] 25)
  simpa using h
 have hsW:w.heap.size+2≤W.heap.size:=by rw [hW];simp
 clear hW
 refine (HC1.out W).mono ?_
 rintro e w1 ⟨rfl,hb1⟩
 have hs1:=hb1.size
 have HB1:Hid (Below w.heap.size w w1):=hbW.trans (hb1.mono (by omega))
 have K0:Hid (w1.heap[w.heap.size]?=some (.cells #[.string qs,.string qt,.string qn,.string qc] 50 (0,0))):=(hb1.block _ (by omega)).trans HG0.out
 have k1:w1.heap[w.heap.size+1]?=_:=(hb1.block _ (by omega)).trans hG1
 have p0:w1.cell? ⟨w.heap.size+1,0,none⟩=some (.int .i64 px):=cellsAt k1 0
 have p1:w1.cell? ⟨w.heap.size+1,1,none⟩=some (.int .i64 py):=cellsAt k1 1
 have p2:w1.cell? ⟨w.heap.size+1,2,none⟩=some (.int .i64 pz):=cellsAt k1 2
 have p3:w1.cell? ⟨w.heap.size+1,3,none⟩=some (.int .i64 ph):=cellsAt k1 3
 have p4:w1.cell? ⟨w.heap.size+1,4,none⟩=some (.int .i64 pq):=cellsAt k1 4
 clear k1 hG1 hb1 hbW HG0
 by_cases h1:e1=0
 ·have HR2':Hid (e2≠0→A=⟨[],0,e2⟩):=HR2.out h1
  have HR3':Hid (e2=0→A=AS):=HR3.out h1
  clear HR1 HR2 HR3
  subst h1
  have hBA:∀ ob,Below w.heap.size w (w1.alloc ob):=fun ob=>HB1.out.alloc (by omega) ob
  have HBA:Hid _:=hBA
  clear hBA
  go_wp2_with fail
  refine (HC2.out _ (HS.out.below (HBA.out _)) (HM.out.below (HBA.out _)) (HW.out.below (HBA.out _))).mono ?_
  rintro e w2 ⟨rfl,hb2⟩
  have hs2:w1.heap.size+1≤w2.heap.size:=by have:=hb2.size;simpa using this
  have HB2:Hid (Below w.heap.size w w2):=(HBA.out _).trans (hb2.mono (by simp<;>omega))
  have k0:w2.heap[w.heap.size]?=some (.cells #[.string qs,.string qt,.string qn,.string qc] 50 (0,0)):=(hb2.block _ (by simp<;>omega)).trans ((Below.heap_alloc _ _ _ (by omega)).trans K0.out)
  have k9:w2.heap[w1.heap.size]?=some (.cells (knA here (.slice ps ns cs) (.slice pm nm cm) px py pz ph pq (.slice pw nw cw)) 45 (0,0)):=(hb2.block _ (by simp)).trans (heap_alloc_new w1 _)
  have q0:w2.cell? ⟨w.heap.size,0,none⟩=some (.string qs):=cellsAt k0 0
  have q1:w2.cell? ⟨w.heap.size,1,none⟩=some (.string qt):=cellsAt k0 1
  have q2:w2.cell? ⟨w.heap.size,2,none⟩=some (.string qn):=cellsAt k0 2
  have q3:w2.cell? ⟨w.heap.size,3,none⟩=some (.string qc):=cellsAt k0 3
  have d0:w2.cell? ⟨w1.heap.size,0,none⟩=some (.string here):=cellsAt k9 0
  have d1:w2.cell? ⟨w1.heap.size,1,none⟩=some (.slice ps ns cs):=cellsAt k9 1
  have d2:w2.cell? ⟨w1.heap.size,2,none⟩=some (.slice pm nm cm):=cellsAt k9 2
  have d3:w2.cell? ⟨w1.heap.size,3,none⟩=some (.int .i64 px):=cellsAt k9 3
  have d4:w2.cell? ⟨w1.heap.size,4,none⟩=some (.int .i64 py):=cellsAt k9 4
  have d5:w2.cell? ⟨w1.heap.size,5,none⟩=some (.int .i64 pz):=cellsAt k9 5
  have d6:w2.cell? ⟨w1.heap.size,6,none⟩=some (.int .i64 ph):=cellsAt k9 6
  have d7:w2.cell? ⟨w1.heap.size,7,none⟩=some (.int .i64 pq):=cellsAt k9 7
  have d8:w2.cell? ⟨w1.heap.size,8,none⟩=some (.slice pw nw cw):=cellsAt k9 8
  clear k0 k9 hb2 p0 p1 p2 p3 p4
  by_cases h2:e2=0
  ·have HR:Hid (A=AS):=HR3'.out h2
   have HC3':Hid _:=HC3.out h2
   clear HR2' HR3' HC3
   subst h2
   go_wp2_with fail
   refine Calls.mono (HC3'.out _ (HS.out.below HB2.out) (HM.out.below HB2.out) (HW.out.below HB2.out)) ?_
   rintro e w3 ⟨v,rfl,ho,hb3⟩
   have HB3:Hid (Below w.heap.size w w3):=HB2.out.trans (hb3.mono (by omega))
   have HO3:Hid (Rc.Own w.heap.size w3 v AS.rs):=ho.mono (by omega)
   clear ho hb3
   go_wp2_with fail
   go_ret3
   exact ⟨v,by rw [HR.out];rfl,by rw [HR.out];exact HO3.out,HB3.out⟩
  ·have HR:Hid (A=⟨[],0,e2⟩):=HR2'.out h2
   have h2':(e2 != 0)=true:=by simpa using h2
   go_wp2_with fail
   go_ret3
   exact ⟨.slice none 0 0,by rw [HR.out];rfl,by rw [HR.out];exact Rc.own_nil _ _,HB2.out⟩
 ·have HR:Hid (A=⟨[],0,e1⟩):=HR1.out h1
  have h1':(e1 != 0)=true:=by simpa using h1
  go_wp2_with fail
  go_ret3
  exact ⟨.slice none 0 0,by rw [HR.out];rfl,by rw [HR.out];exact Rc.own_nil _ _,HB1.out⟩
end Go.Proofs.YtignmeaeibaejaaGreatDoor
