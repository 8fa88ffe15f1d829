import Derived.Test.YtignmeaeibaejaaGreatDoorV48
namespace Go.Proofs.YtignmeaeibaejaaGreatDoor
open Go.RowKit
set_option maxHeartbeats 6400000 in
set_option maxRecDepth 100000 in
theorem answerTo_any (here:ByteArray) (ps pm pw:Option Addr) (ns cs nm cm nw cw:Nat) (px py pz ph pq:Int) (name:ByteArray) (typ:Int) (sv:List Sv.Svc) (ms:List Mem) (wh:List Wh.Whe) (w:World) (hml:ML w) (hn:name.size≤maxLen) (hk:KnOk here sv ms ⟨px,py,pz,ph,pq⟩ wh) (hs:Sv.Sl w (.slice ps ns cs) sv) (hm:Sl w (.slice pm nm cm) ms) (hw:Wh.Sl w (.slice pw nw cw) wh) :
 Calls Tryz.prog 72 #[.agg (knA here (.slice ps ns cs) (.slice pm nm cm) px py pz ph pq (.slice pw nw cw)),.agg #[.string name,.int .i64 typ]] w fun e w'=>∃ v,e=.returned (.tuple #[v,.int .i64 (ansC name typ here sv ms ⟨px,py,pz,ph,pq⟩ wh)])∧Rc.Own w.heap.size w' v (ansL name typ here sv ms ⟨px,py,pz,ph,pq⟩ wh)∧Below w.heap.size w w':=by
 have HS:Hid (Sv.Sl w (.slice ps ns cs) sv):=hs
 have HM:Hid (Sl w (.slice pm nm cm) ms):=hm
 have HW:Hid (Wh.Sl w (.slice pw nw cw) wh):=hw
 have HP:Hid (∀ W,ML W→Calls Tryz.prog 103 #[.string name] W fun e w'=>e=.returned (.tuple #[.agg #[.string (prsQ name).service,.string (prsQ name).tag,.string (prsQ name).node,.string (prsQ name).centre],.int .i64 (prsE name)])∧Below W.heap.size W w'):=fun W h=>parse_any name W h hn
 have hR:=fun (W:World) (a1:Sv.Sl W (.slice ps ns cs) sv) (a2:Sl W (.slice pm nm cm) ms) (a3:Wh.Sl W (.slice pw nw cw) wh)=>krecords_any here ps pm pw ns cs nm cm nw cw px py pz ph pq (prsQ name) typ sv ms wh W (prsQ_ok name) hk a1 a2 a3
 have HR:Hid _:=hR
 have HA8:Hid (prsE name=8→ansL name typ here sv ms ⟨px,py,pz,ph,pq⟩ wh=[]∧ansC name typ here sv ms ⟨px,py,pz,ph,pq⟩ wh=4):=fun h=>by unfold ansL ansC;rw [if_neg (by omega),if_neg (by omega),if_pos h];exact ⟨rfl,rfl⟩
 have HA3:Hid (prsE name≠8→prsE name≠0→ansL name typ here sv ms ⟨px,py,pz,ph,pq⟩ wh=[]∧ansC name typ here sv ms ⟨px,py,pz,ph,pq⟩ wh=3):=fun h h2=>by unfold ansL ansC;rw [if_neg h2,if_neg h2,if_neg h];exact ⟨rfl,rfl⟩
 have HA2:Hid (prsE name=0→(anS (prsQ name) typ here sv ms ⟨px,py,pz,ph,pq⟩ wh).e≠0→ansL name typ here sv ms ⟨px,py,pz,ph,pq⟩ wh=[]∧ansC name typ here sv ms ⟨px,py,pz,ph,pq⟩ wh=2):=fun h h2=>by unfold ansL ansC;rw [if_pos h,if_pos h,if_neg h2,if_neg h2];exact ⟨rfl,rfl⟩
 have HA0:Hid (prsE name=0→(anS (prsQ name) typ here sv ms ⟨px,py,pz,ph,pq⟩ wh).e=0→ansL name typ here sv ms ⟨px,py,pz,ph,pq⟩ wh=(anS (prsQ name) typ here sv ms ⟨px,py,pz,ph,pq⟩ wh).rs∧ansC name typ here sv ms ⟨px,py,pz,ph,pq⟩ wh=(anS (prsQ name) typ here sv ms ⟨px,py,pz,ph,pq⟩ wh).code):=fun h h2=>by unfold ansL ansC;rw [if_pos h,if_pos h,if_pos h2,if_pos h2];exact ⟨rfl,rfl⟩
 have HML:Hid (ML w):=hml
 clear hs hm hw hR hk hml
 generalize ansL name typ here sv ms ⟨px,py,pz,ph,pq⟩ wh=AL at *
 generalize ansC name typ here sv ms ⟨px,py,pz,ph,pq⟩ wh=AC at *
 generalize anS (prsQ name) typ here sv ms ⟨px,py,pz,ph,pq⟩ wh=A at *
 generalize prsE name=PE at *
 generalize prsQ name=q at *
 obtain ⟨qs,qt,qn,qc⟩:=q
 simp only at *
 go_enter Tryz.func72,Tryz.ntmps72
 go_wp2_with fail
 obtain ⟨W,hW⟩:∃ W,W=(w.alloc (.cells (knA here (.slice ps ns cs) (.slice pm nm cm) px py pz ph pq (.slice pw nw cw)) 45)).alloc (.cells #[.string name,.int .i64 typ] 35):=⟨_,rfl⟩
 rw [← hW]
 have hbW:Below w.heap.size w W:=by rw [hW];exact ((Below.refl _ _).alloc (Nat.le_refl _) _).alloc (by simp) _
 have hG0:W.heap[w.heap.size]?=some (.cells (knA here (.slice ps ns cs) (.slice pm nm cm) px py pz ph pq (.slice pw nw cw)) 45 (0,0)):=by rw [hW,Below.heap_alloc _ _ _ (by simp)];exact heap_alloc_new w _
 have hG1:W.heap[w.heap.size+1]?=some (.cells #[.string name,.int .i64 typ] 35 (0,0)):=by
  rw [hW]
  have h:=heap_alloc_new (w.alloc (.cells (knA here (.slice ps ns cs) (.slice pm nm cm) px py pz ph pq (.slice pw nw cw)) 45)) (.cells #[.string name,.int .i64 typ] 35)
  simpa using h
 have hsW:w.heap.size+2≤W.heap.size:=by rw [hW];simp
 clear hW
 refine (HP.out W (HML.out.below hbW)).mono ?_
 rintro e w1 ⟨rfl,hb1⟩
 have hs1:=hb1.size
 have HB1:Hid (Below w.heap.size w w1):=hbW.trans (hb1.mono (by omega))
 have k0:w1.heap[w.heap.size]?=_:=(hb1.block _ (by omega)).trans hG0
 have k1:w1.heap[w.heap.size+1]?=_:=(hb1.block _ (by omega)).trans hG1
 have hd0:∀ ob,(w1.alloc ob).heap[w.heap.size]?=some (.cells (knA here (.slice ps ns cs) (.slice pm nm cm) px py pz ph pq (.slice pw nw cw)) 45 (0,0)):=fun ob=>by rw [Below.heap_alloc _ _ _ (by omega)];exact k0
 have hd1:∀ ob,(w1.alloc ob).heap[w.heap.size+1]?=some (.cells #[.string name,.int .i64 typ] 35 (0,0)):=fun ob=>by rw [Below.heap_alloc _ _ _ (by omega)];exact k1
 have d0:∀ ob,(w1.alloc ob).cell? ⟨w.heap.size,0,none⟩=some (.string here):=fun ob=>cellsAt (hd0 ob) 0
 have d1:∀ ob,(w1.alloc ob).cell? ⟨w.heap.size,1,none⟩=some (.slice ps ns cs):=fun ob=>cellsAt (hd0 ob) 1
 have d2:∀ ob,(w1.alloc ob).cell? ⟨w.heap.size,2,none⟩=some (.slice pm nm cm):=fun ob=>cellsAt (hd0 ob) 2
 have d3:∀ ob,(w1.alloc ob).cell? ⟨w.heap.size,3,none⟩=some (.int .i64 px):=fun ob=>cellsAt (hd0 ob) 3
 have d4:∀ ob,(w1.alloc ob).cell? ⟨w.heap.size,4,none⟩=some (.int .i64 py):=fun ob=>cellsAt (hd0 ob) 4
 have d5:∀ ob,(w1.alloc ob).cell? ⟨w.heap.size,5,none⟩=some (.int .i64 pz):=fun ob=>cellsAt (hd0 ob) 5
 have d6:∀ ob,(w1.alloc ob).cell? ⟨w.heap.size,6,none⟩=some (.int .i64 ph):=fun ob=>cellsAt (hd0 ob) 6
 have d7:∀ ob,(w1.alloc ob).cell? ⟨w.heap.size,7,none⟩=some (.int .i64 pq):=fun ob=>cellsAt (hd0 ob) 7
 have d8:∀ ob,(w1.alloc ob).cell? ⟨w.heap.size,8,none⟩=some (.slice pw nw cw):=fun ob=>cellsAt (hd0 ob) 8
 have q0:∀ ob,(w1.alloc ob).cell? ⟨w.heap.size+1,0,none⟩=some (.string name):=fun ob=>cellsAt (hd1 ob) 0
 have q1:∀ ob,(w1.alloc ob).cell? ⟨w.heap.size+1,1,none⟩=some (.int .i64 typ):=fun ob=>cellsAt (hd1 ob) 1
 have HBA:Hid (∀ ob,Below w.heap.size w (w1.alloc ob)):=fun ob=>HB1.out.alloc (by omega) ob
 clear hd0 hd1 k0 k1 hG0 hG1 hbW hb1
 by_cases h8:PE=8
 ·obtain ⟨r1,r2⟩:=HA8.out h8
  have H1:Hid (AL=[]):=r1
  have H2:Hid (AC=4):=r2
  clear r1 r2 HA8 HA3 HA2 HA0
  subst h8
  go_wp2_with fail
  go_ret2
  exact ⟨.slice none 0 0,by rw [H2.out];rfl,by rw [H1.out];exact Rc.own_nil _ _,HBA.out _⟩
 ·have g8:(PE == 8)=false:=by simpa using h8
  by_cases h0:PE=0
  ·have HA2':Hid _:=HA2.out h0
   have HA0':Hid _:=HA0.out h0
   clear HA8 HA3 HA2 HA0 g8 h8
   subst h0
   go_wp2_with fail
   refine Calls.mono (HR.out _ (HS.out.below (HBA.out _)) (HM.out.below (HBA.out _)) (HW.out.below (HBA.out _))) ?_
   rintro e w2 ⟨v,rfl,ho,hb2⟩
   have HB2:Hid (Below w.heap.size w w2):=(HBA.out _).trans (hb2.mono (by simp<;>omega))
   have HO2:Hid (Rc.Own w.heap.size w2 v A.rs):=ho.mono (by simp<;>omega)
   clear ho hb2
   obtain ⟨ars,acd,ae⟩:=A
   simp only at *
   by_cases he:ae=0
   ·obtain ⟨r1,r2⟩:=HA0'.out he
    have H1:Hid (AL=ars):=r1
    have H2:Hid (AC=acd):=r2
    clear r1 r2 HA2' HA0'
    subst he
    go_wp2_with fail
    go_ret2
    exact ⟨v,by rw [H2.out];rfl,by rw [H1.out];exact HO2.out,HB2.out⟩
   ·obtain ⟨r1,r2⟩:=HA2'.out he
    have H1:Hid (AL=[]):=r1
    have H2:Hid (AC=2):=r2
    have he':(ae != 0)=true:=by simpa using he
    clear r1 r2 HA2' HA0'
    go_wp2_with fail
    go_ret2
    exact ⟨.slice none 0 0,by rw [H2.out];rfl,by rw [H1.out];exact Rc.own_nil _ _,HB2.out⟩
  ·obtain ⟨r1,r2⟩:=HA3.out h8 h0
   have H1:Hid (AL=[]):=r1
   have H2:Hid (AC=3):=r2
   have g0:(PE != 0)=true:=by simpa using h0
   clear r1 r2 HA8 HA3 HA2 HA0
   go_wp2_with fail
   go_ret2
   exact ⟨.slice none 0 0,by rw [H2.out];rfl,by rw [H1.out];exact Rc.own_nil _ _,HBA.out _⟩
set_option maxHeartbeats 6400000 in
set_option maxRecDepth 100000 in
theorem kmessage_any (here:ByteArray) (ps pm pw:Option Addr) (ns cs nm cm nw cw:Nat) (px py pz ph pq:Int) (s:ByteArray) (sv:List Sv.Svc) (ms:List Mem) (wh:List Wh.Whe) (w:World) (hml:ML w) (hk:KnOk here sv ms ⟨px,py,pz,ph,pq⟩ wh) (hs:Sv.Sl w (.slice ps ns cs) sv) (hm:Sl w (.slice pm nm cm) ms) (hw:Wh.Sl w (.slice pw nw cw) wh) :
 Calls Tryz.prog 30 #[.agg (knA here (.slice ps ns cs) (.slice pm nm cm) px py pz ph pq (.slice pw nw cw)),.string s] w fun e w'=>∃ v,e=.returned (.agg #[.int .i64 0,.bool false,.bool false,.int .i64 (repM s here sv ms ⟨px,py,pz,ph,pq⟩ wh).code,.string (repM s here sv ms ⟨px,py,pz,ph,pq⟩ wh).R,.int .i64 (repM s here sv ms ⟨px,py,pz,ph,pq⟩ wh).typ,v])∧Rc.Own w.heap.size w' v (repM s here sv ms ⟨px,py,pz,ph,pq⟩ wh).rs∧Below w.heap.size w w':=by
 have HS:Hid (Sv.Sl w (.slice ps ns cs) sv):=hs
 have HM:Hid (Sl w (.slice pm nm cm) ms):=hm
 have HW:Hid (Wh.Sl w (.slice pw nw cw) wh):=hw
 have HRD:Hid (∀ W,Calls Tryz.prog 11 #[.string s] W (RdP s W)):=fun W=>read_b s W
 have hAT:=fun (name:ByteArray) (typ:Int) (W:World) (h:ML W) (h2:name.size≤maxLen) (a1:Sv.Sl W (.slice ps ns cs) sv) (a2:Sl W (.slice pm nm cm) ms) (a3:Wh.Sl W (.slice pw nw cw) wh)=>answerTo_any here ps pm pw ns cs nm cm nw cw px py pz ph pq name typ sv ms wh W h h2 hk a1 a2 a3
 have HAT:Hid _:=hAT
 have HML:Hid (ML w):=hml
 have HN:Hid (rdM s=none→repM s here sv ms ⟨px,py,pz,ph,pq⟩ wh=⟨1,1,⟨#[]⟩,[]⟩):=fun h=>by unfold repM;rw [h]
 have HF:Hid (∀ M,rdM s=some M→M.rs.length≠0→repM s here sv ms ⟨px,py,pz,ph,pq⟩ wh=⟨1,1,⟨#[]⟩,[]⟩):=fun M h h2=>by unfold repM;rw [h];simp only;rw [if_neg h2]
 have HY:Hid (∀ M,rdM s=some M→M.rs.length=0→repM s here sv ms ⟨px,py,pz,ph,pq⟩ wh=⟨ansC M.R M.typ here sv ms ⟨px,py,pz,ph,pq⟩ wh,M.typ,M.R,ansL M.R M.typ here sv ms ⟨px,py,pz,ph,pq⟩ wh⟩):=fun M h h2=>by unfold repM;rw [h];simp only;rw [if_pos h2]
 have HX:Hid (∀ M,rdM s=some M→rdX s=0∧M.R.size≤maxLen):=fun M h=>by
  have hc:=rdM_some h
  refine ⟨?_,by have:=(chkN_zero (chkMsg_facts hc).2.1).1;unfold maxLen;omega⟩
  unfold rdM at h
  by_cases h2:s.size≤512∧rdE s=0
  ·unfold rdX;rw [if_pos h2.1,if_pos h2.2]
  ·rw [if_neg h2] at h;cases h
 have HXN:Hid (rdM s=none→rdX s≠0):=fun h=>by
  unfold rdX
  by_cases h1:s.size≤512
  ·rw [if_pos h1]
   by_cases h2:rdE s=0
   ·exfalso
    unfold rdM at h
    rw [if_pos ⟨h1,h2⟩] at h
    unfold rdE at h2
    rw [h] at h2
    exact absurd h2 (by decide)
   ·rw [if_neg h2];decide
  ·rw [if_neg h1];decide
 clear hs hm hw hAT hk hml
 generalize repM s here sv ms ⟨px,py,pz,ph,pq⟩ wh=RPM at *
 go_enter Tryz.func30,Tryz.ntmps30
 go_wp2_with fail
 obtain ⟨W,hW⟩:∃ W,W=(w.alloc (.cells (knA here (.slice ps ns cs) (.slice pm nm cm) px py pz ph pq (.slice pw nw cw)) 45)).alloc (.cells #[.int .i64 0,.bool false,.bool false,.int .i64 0,.string ⟨#[]⟩,.int .i64 0,.slice none 0 0] 38):=⟨_,rfl⟩
 rw [← hW]
 have hbW:Below w.heap.size w W:=by rw [hW];exact ((Below.refl _ _).alloc (Nat.le_refl _) _).alloc (by simp) _
 have HG0:Hid (W.heap[w.heap.size]?=some (.cells (knA here (.slice ps ns cs) (.slice pm nm cm) px py pz ph pq (.slice pw nw cw)) 45 (0,0))):=by rw [hW,Below.heap_alloc _ _ _ (by simp)];exact heap_alloc_new w _
 have hG1:W.heap[w.heap.size+1]?=some (.cells #[.int .i64 0,.bool false,.bool false,.int .i64 0,.string ⟨#[]⟩,.int .i64 0,.slice none 0 0] 38 (0,0)):=by
  rw [hW]
  have h:=heap_alloc_new (w.alloc (.cells (knA here (.slice ps ns cs) (.slice pm nm cm) px py pz ph pq (.slice pw nw cw)) 45)) (.cells #[.int .i64 0,.bool false,.bool false,.int .i64 0,.string ⟨#[]⟩,.int .i64 0,.slice none 0 0] 38)
  simpa using h
 have HG1:Hid _:=hG1
 have hsW:w.heap.size+2≤W.heap.size:=by rw [hW];simp
 clear hW hG1
 refine Calls.mono (HRD.out W) ?_
 intro e w1 hrd
 obtain ⟨i,a,c,o,r,y,p,l,k,rfl,hmv,hb1⟩:=rdP_is hrd
 have hs1:=hb1.size
 have HB1:Hid (Below w.heap.size w w1):=hbW.trans (hb1.mono (by omega))
 have hd0:∀ ob,(w1.alloc ob).heap[w.heap.size]?=some (.cells (knA here (.slice ps ns cs) (.slice pm nm cm) px py pz ph pq (.slice pw nw cw)) 45 (0,0)):=fun ob=>by rw [Below.heap_alloc _ _ _ (by omega),hb1.block _ (by omega)];exact HG0.out
 have hd1:∀ ob,(w1.alloc ob).heap[w.heap.size+1]?=some (.cells #[.int .i64 0,.bool false,.bool false,.int .i64 0,.string ⟨#[]⟩,.int .i64 0,.slice none 0 0] 38 (0,0)):=fun ob=>by rw [Below.heap_alloc _ _ _ (by omega),hb1.block _ (by omega)];exact HG1.out
 have HD0:Hid _:=hd0
 have HD1:Hid _:=hd1
 have d0:∀ ob,(w1.alloc ob).cell? ⟨w.heap.size,0,none⟩=some (.string here):=fun ob=>cellsAt (hd0 ob) 0
 have d1:∀ ob,(w1.alloc ob).cell? ⟨w.heap.size,1,none⟩=some (.slice ps ns cs):=fun ob=>cellsAt (hd0 ob) 1
 have d2:∀ ob,(w1.alloc ob).cell? ⟨w.heap.size,2,none⟩=some (.slice pm nm cm):=fun ob=>cellsAt (hd0 ob) 2
 have d3:∀ ob,(w1.alloc ob).cell? ⟨w.heap.size,3,none⟩=some (.int .i64 px):=fun ob=>cellsAt (hd0 ob) 3
 have d4:∀ ob,(w1.alloc ob).cell? ⟨w.heap.size,4,none⟩=some (.int .i64 py):=fun ob=>cellsAt (hd0 ob) 4
 have d5:∀ ob,(w1.alloc ob).cell? ⟨w.heap.size,5,none⟩=some (.int .i64 pz):=fun ob=>cellsAt (hd0 ob) 5
 have d6:∀ ob,(w1.alloc ob).cell? ⟨w.heap.size,6,none⟩=some (.int .i64 ph):=fun ob=>cellsAt (hd0 ob) 6
 have d7:∀ ob,(w1.alloc ob).cell? ⟨w.heap.size,7,none⟩=some (.int .i64 pq):=fun ob=>cellsAt (hd0 ob) 7
 have d8:∀ ob,(w1.alloc ob).cell? ⟨w.heap.size,8,none⟩=some (.slice pw nw cw):=fun ob=>cellsAt (hd0 ob) 8
 have z0:∀ ob,(w1.alloc ob).cell? ⟨w.heap.size+1,0,none⟩=some (.int .i64 0):=fun ob=>cellsAt (hd1 ob) 0
 have z1:∀ ob,(w1.alloc ob).cell? ⟨w.heap.size+1,1,none⟩=some (.bool false):=fun ob=>cellsAt (hd1 ob) 1
 have z2:∀ ob,(w1.alloc ob).cell? ⟨w.heap.size+1,2,none⟩=some (.bool false):=fun ob=>cellsAt (hd1 ob) 2
 have z3:∀ ob,(w1.alloc ob).cell? ⟨w.heap.size+1,3,none⟩=some (.int .i64 0):=fun ob=>cellsAt (hd1 ob) 3
 have z4:∀ ob,(w1.alloc ob).cell? ⟨w.heap.size+1,4,none⟩=some (.string ⟨#[]⟩):=fun ob=>cellsAt (hd1 ob) 4
 have z5:∀ ob,(w1.alloc ob).cell? ⟨w.heap.size+1,5,none⟩=some (.int .i64 0):=fun ob=>cellsAt (hd1 ob) 5
 have z6:∀ ob,(w1.alloc ob).cell? ⟨w.heap.size+1,6,none⟩=some (.slice none 0 0):=fun ob=>cellsAt (hd1 ob) 6
 have zz0:∀ ob,(w1.alloc ob).frozen? ⟨w.heap.size+1,0,none⟩=false:=fun ob=>by simp [World.frozen?,hd1 ob]
 have zz1:∀ ob,(w1.alloc ob).frozen? ⟨w.heap.size+1,1,none⟩=false:=fun ob=>by simp [World.frozen?,hd1 ob]
 have zz2:∀ ob,(w1.alloc ob).frozen? ⟨w.heap.size+1,2,none⟩=false:=fun ob=>by simp [World.frozen?,hd1 ob]
 have zz3:∀ ob,(w1.alloc ob).frozen? ⟨w.heap.size+1,3,none⟩=false:=fun ob=>by simp [World.frozen?,hd1 ob]
 have zz4:∀ ob,(w1.alloc ob).frozen? ⟨w.heap.size+1,4,none⟩=false:=fun ob=>by simp [World.frozen?,hd1 ob]
 have zz5:∀ ob,(w1.alloc ob).frozen? ⟨w.heap.size+1,5,none⟩=false:=fun ob=>by simp [World.frozen?,hd1 ob]
 have zz6:∀ ob,(w1.alloc ob).frozen? ⟨w.heap.size+1,6,none⟩=false:=fun ob=>by simp [World.frozen?,hd1 ob]
 have HBA:Hid (∀ ob,Below w.heap.size w (w1.alloc ob)):=fun ob=>HB1.out.alloc (by omega) ob
 clear hd0 hd1 hbW hb1 hrd HRD
 have hcase:(rdX s≠0∧RPM=⟨1,1,⟨#[]⟩,[]⟩)∨(rdX s=0∧0 < l∧RPM=⟨1,1,⟨#[]⟩,[]⟩)∨(rdX s=0∧l=0∧RPM=⟨ansC r y here sv ms ⟨px,py,pz,ph,pq⟩ wh,y,r,ansL r y here sv ms ⟨px,py,pz,ph,pq⟩ wh⟩∧r.size≤maxLen):=by
  have hv:=hmv.out
  cases h:rdM s with
  | none=>exact .inl ⟨HXN.out h,HN.out h⟩
  | some M=>
    rw [h] at hv
    obtain ⟨v,hsl,_,hx⟩:=hv
    have hl:l=M.rs.length∧r=M.R∧y=M.typ:=by
     obtain ⟨_,_,he,_,_⟩:=hsl
     simp only [he,Array.mk.injEq,List.cons.injEq,Value.int.injEq,Value.string.injEq,Value.slice.injEq,true_and,and_true] at hx
     obtain ⟨_,_,_,_,h5,h6,_,h8,_⟩:=hx
     exact ⟨h8,h5,h6⟩
    obtain ⟨e1,e2,e3⟩:=hl
    obtain ⟨x1,x2⟩:=HX.out M h
    by_cases h0:M.rs.length=0
    ·exact .inr (.inr ⟨x1,by omega,by rw [e2,e3];exact HY.out M h h0,by rw [e2];exact x2⟩)
    ·exact .inr (.inl ⟨x1,by omega,HF.out M h h0⟩)
 clear hmv HN HF HY HX HXN
 generalize rdX s=X at *
 rcases hcase with ⟨h1,h2⟩ | ⟨h1,h3,h2⟩ | ⟨h1,h3,h2,h4⟩
 ·have HP:Hid (RPM=⟨1,1,⟨#[]⟩,[]⟩):=h2
  have h1':(X != 0)=true:=by simpa using h1
  clear h2
  go_wp2_with fail
  refine bodyPost_ret (v:=.agg #[.int .i64 0,.bool false,.bool false,.int .i64 1,.string ⟨#[]⟩,.int .i64 1,.slice none 0 0]) ?_ rfl ⟨.slice none 0 0,by rw [HP.out],by rw [HP.out];exact Rc.own_nil _ _,?_⟩
  ·simp [results,Tryz.results30,go_sem,z0,z1,z2,z3,z4,z5,z6]
  ·exact ((((((((HBA.out _).setCell (p:=⟨w.heap.size+1,0,none⟩) (by simp<;>omega) _).setCell (p:=⟨w.heap.size+1,1,none⟩) (by simp<;>omega) _).setCell (p:=⟨w.heap.size+1,2,none⟩) (by simp<;>omega) _).setCell (p:=⟨w.heap.size+1,3,none⟩) (by simp<;>omega) _).setCell (p:=⟨w.heap.size+1,4,none⟩) (by simp<;>omega) _).setCell (p:=⟨w.heap.size+1,5,none⟩) (by simp<;>omega) _).setCell (p:=⟨w.heap.size+1,6,none⟩) (by simp<;>omega) _)
 ·have HP:Hid (RPM=⟨1,1,⟨#[]⟩,[]⟩):=h2
  clear h2
  subst h1
  go_wp2_with fail
  refine bodyPost_ret (v:=.agg #[.int .i64 0,.bool false,.bool false,.int .i64 1,.string ⟨#[]⟩,.int .i64 1,.slice none 0 0]) ?_ rfl ⟨.slice none 0 0,by rw [HP.out],by rw [HP.out];exact Rc.own_nil _ _,?_⟩
  ·simp [results,Tryz.results30,go_sem,z0,z1,z2,z3,z4,z5,z6]
  ·exact ((((((((HBA.out _).setCell (p:=⟨w.heap.size+1,0,none⟩) (by simp<;>omega) _).setCell (p:=⟨w.heap.size+1,1,none⟩) (by simp<;>omega) _).setCell (p:=⟨w.heap.size+1,2,none⟩) (by simp<;>omega) _).setCell (p:=⟨w.heap.size+1,3,none⟩) (by simp<;>omega) _).setCell (p:=⟨w.heap.size+1,4,none⟩) (by simp<;>omega) _).setCell (p:=⟨w.heap.size+1,5,none⟩) (by simp<;>omega) _).setCell (p:=⟨w.heap.size+1,6,none⟩) (by simp<;>omega) _)
 ·have HP:Hid (RPM=⟨ansC r y here sv ms ⟨px,py,pz,ph,pq⟩ wh,y,r,ansL r y here sv ms ⟨px,py,pz,ph,pq⟩ wh⟩):=h2
  have HRS:Hid (r.size≤maxLen):=h4
  clear h2 h4
  subst h1 h3
  go_wp2_with fail
  refine Calls.mono (HAT.out r y _ (HML.out.below (HBA.out _)) HRS.out (HS.out.below (HBA.out _)) (HM.out.below (HBA.out _)) (HW.out.below (HBA.out _))) ?_
  rintro e w2 ⟨v,rfl,ho,hb2⟩
  obtain ⟨pv,cv,rfl⟩:=rcown_slice ho
  have hs2:w1.heap.size+1≤w2.heap.size:=by have:=hb2.size;simpa using this
  have HB2:Hid (Below w.heap.size w w2):=(HBA.out _).trans (hb2.mono (by simp<;>omega))
  have HO2:Hid (Rc.Own (w1.heap.size+1) w2 (.slice pv (ansL r y here sv ms ⟨px,py,pz,ph,pq⟩ wh).length cv) (ansL r y here sv ms ⟨px,py,pz,ph,pq⟩ wh)):=by
   have h:=ho
   rw [show (w1.alloc (.cells #[.int .i64 i,.bool a,.bool c,.int .i64 o,.string r,.int .i64 y,.slice p 0 k] 38)).heap.size=w1.heap.size+1 by simp] at h
   exact h
  have k1:w2.heap[w.heap.size+1]?=some (.cells #[.int .i64 0,.bool false,.bool false,.int .i64 0,.string ⟨#[]⟩,.int .i64 0,.slice none 0 0] 38 (0,0)):=(hb2.block _ (by simp<;>omega)).trans (HD1.out _)
  have k9:w2.heap[w1.heap.size]?=some (.cells #[.int .i64 i,.bool a,.bool c,.int .i64 o,.string r,.int .i64 y,.slice p 0 k] 38 (0,0)):=(hb2.block _ (by simp)).trans (heap_alloc_new w1 _)
  have x0:w2.cell? ⟨w.heap.size+1,0,none⟩=some (.int .i64 0):=cellsAt k1 0
  have xx0:w2.frozen? ⟨w.heap.size+1,0,none⟩=false:=by simp [World.frozen?,k1]
  have x1:w2.cell? ⟨w.heap.size+1,1,none⟩=some (.bool false):=cellsAt k1 1
  have xx1:w2.frozen? ⟨w.heap.size+1,1,none⟩=false:=by simp [World.frozen?,k1]
  have x2:w2.cell? ⟨w.heap.size+1,2,none⟩=some (.bool false):=cellsAt k1 2
  have xx2:w2.frozen? ⟨w.heap.size+1,2,none⟩=false:=by simp [World.frozen?,k1]
  have x3:w2.cell? ⟨w.heap.size+1,3,none⟩=some (.int .i64 0):=cellsAt k1 3
  have xx3:w2.frozen? ⟨w.heap.size+1,3,none⟩=false:=by simp [World.frozen?,k1]
  have x4:w2.cell? ⟨w.heap.size+1,4,none⟩=some (.string ⟨#[]⟩):=cellsAt k1 4
  have xx4:w2.frozen? ⟨w.heap.size+1,4,none⟩=false:=by simp [World.frozen?,k1]
  have x5:w2.cell? ⟨w.heap.size+1,5,none⟩=some (.int .i64 0):=cellsAt k1 5
  have xx5:w2.frozen? ⟨w.heap.size+1,5,none⟩=false:=by simp [World.frozen?,k1]
  have x6:w2.cell? ⟨w.heap.size+1,6,none⟩=some (.slice none 0 0):=cellsAt k1 6
  have xx6:w2.frozen? ⟨w.heap.size+1,6,none⟩=false:=by simp [World.frozen?,k1]
  have m4:w2.cell? ⟨w1.heap.size,4,none⟩=some (.string r):=cellsAt k9 4
  have m5:w2.cell? ⟨w1.heap.size,5,none⟩=some (.int .i64 y):=cellsAt k9 5
  clear k1 k9 hb2 ho
  generalize ansL r y here sv ms ⟨px,py,pz,ph,pq⟩ wh=AL at *
  generalize ansC r y here sv ms ⟨px,py,pz,ph,pq⟩ wh=AC at *
  have HLT:Hid (∀ g,(Value.slice pv AL.length cv).ownBlock=some g→g≠w.heap.size+1):=fun g h=>by have:=(World.ownsRow.lt HO2.out g h).1;omega
  go_wp2_with fail
  refine bodyPost_ret (v:=.agg #[.int .i64 0,.bool false,.bool false,.int .i64 AC,.string r,.int .i64 y,.slice pv AL.length cv]) ?_ rfl ⟨.slice pv AL.length cv,by rw [HP.out],?_,?_⟩
  ·simp [results,Tryz.results30,go_sem,x0,x1,x2,x3,x4,x5,x6]
  ·rw [HP.out]
   refine Rc.Own.mono (base:=w1.heap.size+1) ?_ (by omega)
   have h:=HO2.out
   rcases h.2 with ⟨hv,h0⟩ | ⟨g,c',cur,hv,hbg,hg,hrest⟩
   ·exact ⟨h.1,.inl ⟨hv,h0⟩⟩
   ·refine ⟨h.1,.inr ⟨g,c',cur,hv,hbg,?_,hrest⟩⟩
    have hne:=HLT.out g (by rw [hv];rfl)
    have hne2:g≠w.heap.size+1:=hne
    rw [Below.heap_setCell _ _ _ g hne2,Below.heap_setCell _ _ _ g hne2,Below.heap_setCell _ _ _ g hne2,Below.heap_setCell _ _ _ g hne2,Below.heap_setCell _ _ _ g hne2,Below.heap_setCell _ _ _ g hne2,Below.heap_setCell _ _ _ g hne2]
    exact hg
  ·exact (((((((HB2.out.setCell (p:=⟨w.heap.size+1,0,none⟩) (by simp<;>omega) _).setCell (p:=⟨w.heap.size+1,1,none⟩) (by simp<;>omega) _).setCell (p:=⟨w.heap.size+1,2,none⟩) (by simp<;>omega) _).setCell (p:=⟨w.heap.size+1,3,none⟩) (by simp<;>omega) _).setCell (p:=⟨w.heap.size+1,4,none⟩) (by simp<;>omega) _).setCell (p:=⟨w.heap.size+1,5,none⟩) (by simp<;>omega) _).setCell (p:=⟨w.heap.size+1,6,none⟩) (by simp<;>omega) _)
end Go.Proofs.YtignmeaeibaejaaGreatDoor
