import Derived.Test.YtignmeaeibaejaaGreatDoorV48
import Derived.Test.YtignmeaeibaejaaGreatDoorV45
import Derived.Test.YtignmeaeibaejaaGreatDoorV50
import Derived.Test.YtignmeaeibaejaaGreatDoorV51
import Derived.Test.YtignmeaeibaejaaGreatDoorV28
import Derived.Test.YtignmeaeibaejaaGreatDoorV30
namespace Go.Proofs.YtignmeaeibaejaaGreatDoor
open Go.RowKit
theorem geq128 (x:UInt8):decide ((128:Int)≤((x.toNat:Nat):Int))=decide (128≤x.toNat):=by
 by_cases h:128≤x.toNat
 ·rw [decide_eq_true h,decide_eq_true (by omega)]
 ·rw [decide_eq_false h,decide_eq_false (by omega)]
theorem idf:∀ a b:Fin 256,wrap64 (wrap64 (256 * wrap64 ((a.val:Nat):Int))+wrap64 ((b.val:Nat):Int))=256 * ((a.val:Nat):Int)+((b.val:Nat):Int):=by decide +kernel
theorem id8 (a b:UInt8):wrap64 (wrap64 (256 * wrap64 ((a.toNat:Nat):Int))+wrap64 ((b.toNat:Nat):Int))=256 * ((a.toNat:Nat):Int)+((b.toNat:Nat):Int):=idf ⟨a.toNat,a.toNat_lt⟩ ⟨b.toNat,b.toNat_lt⟩
theorem anR_is {name here:ByteArray} {typ:Int} {sv:List Sv.Svc} {ms:List Mem} {p:Pl} {wh:List Wh.Whe} (hk:knE here sv ms p wh=0) (ht:typB typ=true) (hp:prsE name=0):anR (prsQ name) typ here sv ms p wh=anS (prsQ name) typ here sv ms p wh:=by
 have h:=(prE_chk (prsE_0 hp)).1
 unfold anR asE
 simp [h,ht,hk]
set_option maxHeartbeats 6400000 in
set_option maxRecDepth 100000 in
theorem replyOf_any (here:ByteArray) (ps pm pw:Option Addr) (ns cs nm cm nw cw:Nat) (px py pz ph pq:Int) (s:ByteArray) (sv:List Sv.Svc) (ms:List Mem) (wh:List Wh.Whe) (w:World) (hh:here.size≤maxLen) (hs:Sv.Sl w (.slice ps ns cs) sv) (hm:Sl w (.slice pm nm cm) ms) (hw:Wh.Sl w (.slice pw nw cw) wh) :
 Calls Tryz.prog 7 #[.string s,.string here,.slice ps ns cs,.slice pm nm cm,.agg #[.int .i64 px,.int .i64 py,.int .i64 pz,.int .i64 ph,.int .i64 pq],.slice pw nw cw] w fun e w'=>e=.returned (.tuple #[.string (rplT s here sv ms ⟨px,py,pz,ph,pq⟩ wh),.bool (rplB s here sv ms ⟨px,py,pz,ph,pq⟩ wh),.int .i64 (knE here sv ms ⟨px,py,pz,ph,pq⟩ wh)])∧Below w.heap.size w w':=by
 have HS:Hid (Sv.Sl w (.slice ps ns cs) sv):=hs
 have HM:Hid (Sl w (.slice pm nm cm) ms):=hm
 have HW:Hid (Wh.Sl w (.slice pw nw cw) wh):=hw
 have HCK:Hid (∀ W,Sv.Sl W (.slice ps ns cs) sv→Sl W (.slice pm nm cm) ms→Wh.Sl W (.slice pw nw cw) wh→Calls Tryz.prog 14 #[.string here,.slice ps ns cs,.slice pm nm cm,.agg #[.int .i64 px,.int .i64 py,.int .i64 pz,.int .i64 ph,.int .i64 pq],.slice pw nw cw] W fun e w'=>e=.returned (.int .i64 (knE here sv ms ⟨px,py,pz,ph,pq⟩ wh))∧Below W.heap.size W w'):=fun W a1 a2 a3=>refKnown_any here ps pm pw ns cs nm cm nw cw px py pz ph pq sv ms wh W hh a1 a2 a3
 have HRD:Hid (∀ W,Calls Tryz.prog 15 #[.string s] W (RdP s W)):=fun W=>mof_b s W
 have hRC:=fun (q:Qu) (t:Int) (W:World) (hq:q.ok) (a1:Sv.Sl W (.slice ps ns cs) sv) (a2:Sl W (.slice pm nm cm) ms) (a3:Wh.Sl W (.slice pw nw cw) wh)=>refRecords_any here ps pm pw ns cs nm cm nw cw px py pz ph pq q t sv ms wh W hq hh a1 a2 a3
 have HRC:Hid _:=hRC
 have HT1':Hid (knE here sv ms ⟨px,py,pz,ph,pq⟩ wh=0→quietB s=false→rplT s here sv ms ⟨px,py,pz,ph,pq⟩ wh=repT s here sv ms ⟨px,py,pz,ph,pq⟩ wh∧rplB s here sv ms ⟨px,py,pz,ph,pq⟩ wh=true):=fun h h2=>by unfold rplT rplB;rw [if_pos h,if_pos h,h2];exact ⟨rfl,rfl⟩
 have HTQ:Hid (knE here sv ms ⟨px,py,pz,ph,pq⟩ wh=0→quietB s=true→rplT s here sv ms ⟨px,py,pz,ph,pq⟩ wh=⟨#[]⟩∧rplB s here sv ms ⟨px,py,pz,ph,pq⟩ wh=false):=fun h h2=>by unfold rplT rplB;rw [if_pos h,if_pos h,h2];exact ⟨rfl,rfl⟩
 have HTN:Hid (knE here sv ms ⟨px,py,pz,ph,pq⟩ wh≠0→rplT s here sv ms ⟨px,py,pz,ph,pq⟩ wh=⟨#[]⟩∧rplB s here sv ms ⟨px,py,pz,ph,pq⟩ wh=false):=fun h=>by unfold rplT rplB;rw [if_neg h,if_neg h];exact ⟨rfl,rfl⟩
 have HF0:Hid (knE here sv ms ⟨px,py,pz,ph,pq⟩ wh=0→∀ (RC RT:Int) (RR:ByteArray) (RS:List Rc.Rec) (pv:Option Addr) (cv:Nat) (W:World),repM s here sv ms ⟨px,py,pz,ph,pq⟩ wh=⟨RC,RT,RR,RS⟩→Rc.Sl W (.slice pv RS.length cv) RS→RS.length≤cv→Calls Tryz.prog 18 #[.agg #[.int .i64 (repId s),.bool true,.bool false,.int .i64 RC,.string RR,.int .i64 RT,.slice pv RS.length cv],.int .i64 512] W fun e w'=>e=.returned (.tuple #[.string (repT s here sv ms ⟨px,py,pz,ph,pq⟩ wh),.int .i64 0])∧Below W.heap.size W w'):=fun h RC RT RR RS pv cv W h1 h2 h3=>by
  have hok:RpOk _:=repM_ok (s:=s) (knOk h)
  have e1:=rp_fits hok (repId_in s)
  have e2:repT s here sv ms ⟨px,py,pz,ph,pq⟩ wh=fitT (repId s) (repM s here sv ms ⟨px,py,pz,ph,pq⟩ wh).code (repM s here sv ms ⟨px,py,pz,ph,pq⟩ wh).typ true false (repM s here sv ms ⟨px,py,pz,ph,pq⟩ wh).R (repM s here sv ms ⟨px,py,pz,ph,pq⟩ wh).rs 512:=rfl
  rw [e2]
  rw [h1] at e1 hok ⊢
  refine (fitOf_any (repId s) RC RT 512 true false rfl RR RS pv cv W ?_ ?_ h2 h3).mono ?_
  ·have:=(chkN_zero hok.name).1;simp only at this;omega
  ·intro x hx
   obtain ⟨z1,_,_,z4⟩:=chkRec_facts (hok.rs x hx)
   have y1:=(chkN_zero z1).1
   have y4:=(chkN_zero z4).1
   omega
  ·rintro e w' ⟨rfl,hb⟩
   exact ⟨by rw [e1],hb⟩
 have HN:Hid (rdM s=none→repM s here sv ms ⟨px,py,pz,ph,pq⟩ wh=⟨1,1,⟨#[]⟩,[]⟩):=fun h=>by unfold repM;rw [h]
 have HFo:Hid (∀ M,rdM s=some M→M.rs.length≠0→repM s here sv ms ⟨px,py,pz,ph,pq⟩ wh=⟨1,1,⟨#[]⟩,[]⟩):=fun M h h2=>by unfold repM;rw [h];simp only;rw [if_neg h2]
 have HY:Hid (∀ M,rdM s=some M→M.rs.length=0→repM s here sv ms ⟨px,py,pz,ph,pq⟩ wh=⟨ansC M.R M.typ here sv ms ⟨px,py,pz,ph,pq⟩ wh,M.typ,M.R,ansL M.R M.typ here sv ms ⟨px,py,pz,ph,pq⟩ wh⟩):=fun M h h2=>by unfold repM;rw [h];simp only;rw [if_pos h2]
 have HX:Hid (∀ M,rdM s=some M→rdX s=0∧M.R.size≤2000000∧typB M.typ=true):=fun M h=>by
  have hc:=rdM_some h
  refine ⟨?_,by have:=(chkN_zero (chkMsg_facts hc).2.1).1;omega,chkMsg_typ hc⟩
  unfold rdM at h
  by_cases h2:s.size≤512∧rdE s=0
  ·unfold rdX;rw [if_pos h2.1,if_pos h2.2]
  ·rw [if_neg h2] at h;cases h
 have HXN:Hid (rdM s=none→rdX s≠0):=fun h=>by
  unfold rdX
  by_cases h1:s.size≤512
  ·rw [if_pos h1]
   by_cases h2:rdE s=0
   ·exfalso
    unfold rdM at h
    rw [if_pos ⟨h1,h2⟩] at h
    unfold rdE at h2
    rw [h] at h2
    exact absurd h2 (by decide)
   ·rw [if_neg h2];decide
  ·rw [if_neg h1];decide
 have HAR:Hid (knE here sv ms ⟨px,py,pz,ph,pq⟩ wh=0→∀ (name:ByteArray) (typ:Int),typB typ=true→prsE name=0→anR (prsQ name) typ here sv ms ⟨px,py,pz,ph,pq⟩ wh=anS (prsQ name) typ here sv ms ⟨px,py,pz,ph,pq⟩ wh):=fun h name typ h2 h3=>anR_is h h2 h3
 have HOK:Hid (knE here sv ms ⟨px,py,pz,ph,pq⟩ wh=0→∀ RC RT RR RS,repM s here sv ms ⟨px,py,pz,ph,pq⟩ wh=⟨RC,RT,RR,RS⟩→∀ r∈RS,r.ok):=fun h RC RT RR RS h1 r hr=>by
  have hok:RpOk _:=repM_ok (s:=s) (knOk h)
  rw [h1] at hok
  exact rec_ok (hok.rs r hr)
 clear hs hm hw hRC
 generalize rplT s here sv ms ⟨px,py,pz,ph,pq⟩ wh=TX at *
 generalize rplB s here sv ms ⟨px,py,pz,ph,pq⟩ wh=BX at *
 generalize repT s here sv ms ⟨px,py,pz,ph,pq⟩ wh=RTX at *
 generalize repM s here sv ms ⟨px,py,pz,ph,pq⟩ wh=RPM at *
 generalize knE here sv ms ⟨px,py,pz,ph,pq⟩ wh=ke at *
 have hbW:Below w.heap.size w (w.alloc (.cells #[.int .i64 px,.int .i64 py,.int .i64 pz,.int .i64 ph,.int .i64 pq] 25)):=(Below.refl _ _).alloc (Nat.le_refl _) _
 have hG0:(w.alloc (.cells #[.int .i64 px,.int .i64 py,.int .i64 pz,.int .i64 ph,.int .i64 pq] 25)).heap[w.heap.size]?=some (.cells #[.int .i64 px,.int .i64 py,.int .i64 pz,.int .i64 ph,.int .i64 pq] 25 (0,0)):=heap_alloc_new w _
 have HBW:Hid _:=hbW
 have HG0:Hid _:=hG0
 clear hbW hG0
 by_cases hk0:ke=0
 case neg=>
  obtain ⟨r1,r2⟩:=HTN.out hk0
  have H1:Hid (TX=⟨#[]⟩):=r1
  have H2:Hid (BX=false):=r2
  have h0':(ke != 0)=true:=by simpa using hk0
  clear r1 r2
  go_enter Tryz.func7,Tryz.ntmps7
  go_wp2_with fail
  refine (HCK.out _ (HS.out.below HBW.out) (HM.out.below HBW.out) (HW.out.below HBW.out)).mono ?_
  rintro e w1 ⟨rfl,hb1⟩
  have HB1:Hid (Below w.heap.size w w1):=HBW.out.trans (hb1.mono (by simp<;>omega))
  clear hb1
  go_wp2_with fail
  go_ret3
  exact ⟨by rw [H1.out,H2.out];rfl,HB1.out⟩
 case pos=>
 have HTQ':Hid _:=HTQ.out hk0
 have HT1'':Hid _:=HT1'.out hk0
 have HF:Hid _:=HF0.out hk0
 have HAR':Hid _:=HAR.out hk0
 have HOK':Hid _:=HOK.out hk0
 subst hk0
 clear HTQ HT1' HF0 HAR HOK HTN
 by_cases h12:s.size < 12
 ·have hq:quietB s=true:=by unfold quietB;simp [h12]
  obtain ⟨r1,r2⟩:=HTQ'.out hq
  have H1:Hid (TX=⟨#[]⟩):=r1
  have H2:Hid (BX=false):=r2
  clear r1 r2 hq
  have h12':(s.size:Int) < 12:=by omega
  go_enter Tryz.func7,Tryz.ntmps7
  go_wp2_with fail
  refine (HCK.out _ (HS.out.below HBW.out) (HM.out.below HBW.out) (HW.out.below HBW.out)).mono ?_
  rintro e w1 ⟨rfl,hb1⟩
  have HB1:Hid (Below w.heap.size w w1):=HBW.out.trans (hb1.mono (by simp<;>omega))
  clear hb1
  go_wp2_with fail
  go_ret3
  exact ⟨by rw [H1.out,H2.out];rfl,HB1.out⟩
 have h12':¬ (s.size:Int) < 12:=by omega
 have hx0:0 < s.size:=by omega
 have hx1:1 < s.size:=by omega
 have hx2:2 < s.size:=by omega
 have hb2:decide ((128:Int)≤((s[2].toNat:Nat):Int))=decide (128≤s[2].toNat):=geq128 s[2]
 have HQ:Hid (quietB s=decide (128≤s[2].toNat)):=by show quietB s=_;unfold quietB;rw [byte_at s 2 hx2];simp [h12]
 have HID:Hid (repId s=256 * ((s[0].toNat:Nat):Int)+((s[1].toNat:Nat):Int)):=by show repId s=_;unfold repId;rw [byte_at s 0 hx0,byte_at s 1 hx1];rfl
 by_cases hq:128≤s[2].toNat
 ·rw [decide_eq_true hq] at hb2 HQ
  have hq2:(128:Int)≤((s[2].toNat:Nat):Int):=by omega
  obtain ⟨r1,r2⟩:=HTQ'.out HQ.out
  have H1:Hid (TX=⟨#[]⟩):=r1
  have H2:Hid (BX=false):=r2
  clear r1 r2
  go_enter Tryz.func7,Tryz.ntmps7
  go_wp2_with fail
  refine (HCK.out _ (HS.out.below HBW.out) (HM.out.below HBW.out) (HW.out.below HBW.out)).mono ?_
  rintro e w1 ⟨rfl,hb1⟩
  have HB1:Hid (Below w.heap.size w w1):=HBW.out.trans (hb1.mono (by simp<;>omega))
  clear hb1
  go_wp2_with fail
  go_ret3
  exact ⟨by rw [H1.out,H2.out];rfl,HB1.out⟩
 rw [decide_eq_false hq] at hb2 HQ
 have hq2:¬ (128:Int)≤((s[2].toNat:Nat):Int):=by omega
 obtain ⟨r1,r2⟩:=HT1''.out HQ.out
 have HT1:Hid (TX=RTX):=r1
 have HO1:Hid (BX=true):=r2
 clear r1 r2 HT1'' HTQ' HQ hq
 generalize repId s=ID at *
 go_enter Tryz.func7,Tryz.ntmps7
 go_wp2_with fail
 refine (HCK.out _ (HS.out.below HBW.out) (HM.out.below HBW.out) (HW.out.below HBW.out)).mono ?_
 rintro e w1 ⟨rfl,hb1⟩
 have hs1:w.heap.size+1≤w1.heap.size:=by have:=hb1.size;simpa using this
 have HB1:Hid (Below w.heap.size w w1):=HBW.out.trans (hb1.mono (by simp<;>omega))
 have HG1:Hid (w1.heap[w.heap.size]?=some (.cells #[.int .i64 px,.int .i64 py,.int .i64 pz,.int .i64 ph,.int .i64 pq] 25 (0,0))):=(hb1.block _ (by simp)).trans HG0.out
 clear hb1 HG0 HBW HCK
 have hy0:(0:Int) < (s.size:Int):=by omega
 have hy1:(1:Int) < (s.size:Int):=by omega
 go_wp2_with fail
 go_region
 go_wp2_with fail
 have hor:wrap64 (wrap64 (256 * wrap64 ((s[0].toNat:Nat):Int))+wrap64 ((s[1].toNat:Nat):Int))=ID:=(id8 s[0] s[1]).trans HID.out.symm
 erw [hor]
 clear hor HID
 obtain ⟨W,hW⟩:∃ W,W=(w1.alloc (.cells #[.int .i64 ID,.bool true,.bool false,.int .i64 1,.string ⟨#[]⟩,.int .i64 1,.slice none 0 0] 38)).drew:=⟨_,rfl⟩
 rw [← hW]
 have hsW:w1.heap.size+1≤W.heap.size:=by rw [hW];simp
 have HBW:Hid (Below w.heap.size w W):=by rw [hW];exact (HB1.out.alloc (by omega) _).drew
 have HGW:Hid (W.heap[w.heap.size]?=some (.cells #[.int .i64 px,.int .i64 py,.int .i64 pz,.int .i64 ph,.int .i64 pq] 25 (0,0))):=by rw [hW];show (w1.alloc _).heap[_]?=_;rw [Below.heap_alloc _ _ _ (by omega)];exact HG1.out
 have HOW:Hid (W.heap[w1.heap.size]?=some (.cells #[.int .i64 ID,.bool true,.bool false,.int .i64 1,.string ⟨#[]⟩,.int .i64 1,.slice none 0 0] 38 (0,0))):=by rw [hW];exact heap_alloc_new w1 _
 clear hW HG1
 refine Calls.mono (HRD.out W) ?_
 intro e w2 hrd
 obtain ⟨i,a,c,o,r,y,p,l,k,rfl,hmv,hb1⟩:=rdP_is hrd
 have hs2:=hb1.size
 have HB2:Hid (Below w.heap.size w w2):=HBW.out.trans (hb1.mono (by omega))
 have HG2:Hid (∀ ob,(w2.alloc ob).heap[w.heap.size]?=some (.cells #[.int .i64 px,.int .i64 py,.int .i64 pz,.int .i64 ph,.int .i64 pq] 25 (0,0))):=fun ob=>by rw [Below.heap_alloc _ _ _ (by omega),hb1.block _ (by omega)];exact HGW.out
 have hd1:∀ ob,(w2.alloc ob).heap[w1.heap.size]?=some (.cells #[.int .i64 ID,.bool true,.bool false,.int .i64 1,.string ⟨#[]⟩,.int .i64 1,.slice none 0 0] 38 (0,0)):=fun ob=>by rw [Below.heap_alloc _ _ _ (by omega),hb1.block _ (by omega)];exact HOW.out
 have HD1:Hid _:=hd1
 have z0:∀ ob,(w2.alloc ob).cell? ⟨w1.heap.size,0,none⟩=some (.int .i64 ID):=fun ob=>cellsAt (hd1 ob) 0
 have z1:∀ ob,(w2.alloc ob).cell? ⟨w1.heap.size,1,none⟩=some (.bool true):=fun ob=>cellsAt (hd1 ob) 1
 have z2:∀ ob,(w2.alloc ob).cell? ⟨w1.heap.size,2,none⟩=some (.bool false):=fun ob=>cellsAt (hd1 ob) 2
 have z3:∀ ob,(w2.alloc ob).cell? ⟨w1.heap.size,3,none⟩=some (.int .i64 1):=fun ob=>cellsAt (hd1 ob) 3
 have z4:∀ ob,(w2.alloc ob).cell? ⟨w1.heap.size,4,none⟩=some (.string ⟨#[]⟩):=fun ob=>cellsAt (hd1 ob) 4
 have z5:∀ ob,(w2.alloc ob).cell? ⟨w1.heap.size,5,none⟩=some (.int .i64 1):=fun ob=>cellsAt (hd1 ob) 5
 have z6:∀ ob,(w2.alloc ob).cell? ⟨w1.heap.size,6,none⟩=some (.slice none 0 0):=fun ob=>cellsAt (hd1 ob) 6
 have zz0:∀ ob,(w2.alloc ob).frozen? ⟨w1.heap.size,0,none⟩=false:=fun ob=>by simp [World.frozen?,hd1 ob]
 have zz1:∀ ob,(w2.alloc ob).frozen? ⟨w1.heap.size,1,none⟩=false:=fun ob=>by simp [World.frozen?,hd1 ob]
 have zz2:∀ ob,(w2.alloc ob).frozen? ⟨w1.heap.size,2,none⟩=false:=fun ob=>by simp [World.frozen?,hd1 ob]
 have zz3:∀ ob,(w2.alloc ob).frozen? ⟨w1.heap.size,3,none⟩=false:=fun ob=>by simp [World.frozen?,hd1 ob]
 have zz4:∀ ob,(w2.alloc ob).frozen? ⟨w1.heap.size,4,none⟩=false:=fun ob=>by simp [World.frozen?,hd1 ob]
 have zz5:∀ ob,(w2.alloc ob).frozen? ⟨w1.heap.size,5,none⟩=false:=fun ob=>by simp [World.frozen?,hd1 ob]
 have zz6:∀ ob,(w2.alloc ob).frozen? ⟨w1.heap.size,6,none⟩=false:=fun ob=>by simp [World.frozen?,hd1 ob]
 have HBA:Hid (∀ ob,Below w.heap.size w (w2.alloc ob)):=fun ob=>HB2.out.alloc (by omega) ob
 clear hd1 hb1 hrd HRD HGW HOW HBW
 have hcase:(rdX s≠0∧RPM=⟨1,1,⟨#[]⟩,[]⟩)∨(rdX s=0∧0 < l∧RPM=⟨1,1,⟨#[]⟩,[]⟩)∨(rdX s=0∧l=0∧RPM=⟨ansC r y here sv ms ⟨px,py,pz,ph,pq⟩ wh,y,r,ansL r y here sv ms ⟨px,py,pz,ph,pq⟩ wh⟩∧r.size≤2000000∧typB y=true):=by
  have hv:=hmv.out
  cases h:rdM s with
  | none=>exact .inl ⟨HXN.out h,HN.out h⟩
  | some M=>
    rw [h] at hv
    obtain ⟨v,hsl,_,hx⟩:=hv
    have hl:l=M.rs.length∧r=M.R∧y=M.typ:=by
     obtain ⟨_,_,he,_,_⟩:=hsl
     simp only [he,Array.mk.injEq,List.cons.injEq,Value.int.injEq,Value.string.injEq,Value.slice.injEq,true_and,and_true] at hx
     obtain ⟨_,_,_,_,h5,h6,_,h8,_⟩:=hx
     exact ⟨h8,h5,h6⟩
    obtain ⟨e1,e2,e3⟩:=hl
    obtain ⟨x1,x2,x3⟩:=HX.out M h
    by_cases h0:M.rs.length=0
    ·exact .inr (.inr ⟨x1,by omega,by rw [e2,e3];exact HY.out M h h0,by rw [e2];exact x2,by rw [e3];exact x3⟩)
    ·exact .inr (.inl ⟨x1,by omega,HFo.out M h h0⟩)
 clear hmv HN HFo HY HX HXN
 generalize rdX s=X at *
 rcases hcase with ⟨h1,h2⟩ | ⟨h1,h3,h2⟩ | ⟨h1,h3,h2,h4,h5⟩
 ·have HP:Hid (RPM=⟨1,1,⟨#[]⟩,[]⟩):=h2
  have h1':(X == 0)=false:=by simpa using h1
  clear h2
  go_wp2_with fail
  refine Calls.mono (HF.out 1 1 ⟨#[]⟩ [] none 0 _ HP.out (Rc.own_names (Rc.own_nil 0 _) (by simp)) (Nat.le_refl _)) ?_
  rintro e w9 ⟨rfl,hb9⟩
  have HB9:Hid (Below w.heap.size w w9):=(HBA.out _).trans (hb9.mono (by simp<;>omega))
  clear hb9
  go_wp2_with fail
  go_ret3
  exact ⟨by rw [HT1.out,HO1.out];rfl,HB9.out⟩
 ·have HP:Hid (RPM=⟨1,1,⟨#[]⟩,[]⟩):=h2
  have hl0:((l:Int) == 0)=false:=by simp;omega
  clear h2
  subst h1
  go_wp2_with fail
  refine Calls.mono (HF.out 1 1 ⟨#[]⟩ [] none 0 _ HP.out (Rc.own_names (Rc.own_nil 0 _) (by simp)) (Nat.le_refl _)) ?_
  rintro e w9 ⟨rfl,hb9⟩
  have HB9:Hid (Below w.heap.size w w9):=(HBA.out _).trans (hb9.mono (by simp<;>omega))
  clear hb9
  go_wp2_with fail
  go_ret3
  exact ⟨by rw [HT1.out,HO1.out];rfl,HB9.out⟩
 ·have HP:Hid (RPM=⟨ansC r y here sv ms ⟨px,py,pz,ph,pq⟩ wh,y,r,ansL r y here sv ms ⟨px,py,pz,ph,pq⟩ wh⟩):=h2
  have HRS:Hid (r.size≤2000000):=h4
  have HTY:Hid (typB y=true):=h5
  clear h2 h4 h5
  subst h1 h3
  have HPO:Hid (∀ W,Calls Tryz.prog 16 #[.string r] W fun e w'=>e=.returned (.tuple #[.agg #[.string (prsQ r).service,.string (prsQ r).tag,.string (prsQ r).node,.string (prsQ r).centre],.int .i64 (prsE r)])∧Below W.heap.size W w'):=fun W=>parseOf_any r W HRS.out
  have HA8:Hid (prsE r=8→RPM=⟨4,y,r,[]⟩):=fun h=>by
   rw [HP.out];unfold ansL ansC;simp [h]
  have HA3:Hid (prsE r≠8→prsE r≠0→RPM=⟨3,y,r,[]⟩):=fun h h2=>by
   rw [HP.out];unfold ansL ansC;rw [if_neg h2,if_neg h2,if_neg h]
  have HA2:Hid (prsE r=0→(anS (prsQ r) y here sv ms ⟨px,py,pz,ph,pq⟩ wh).e≠0→RPM=⟨2,y,r,[]⟩):=fun h h2=>by
   rw [HP.out];unfold ansL ansC;rw [if_pos h,if_pos h,if_neg h2,if_neg h2]
  have HA0:Hid (prsE r=0→(anS (prsQ r) y here sv ms ⟨px,py,pz,ph,pq⟩ wh).e=0→RPM=⟨(anS (prsQ r) y here sv ms ⟨px,py,pz,ph,pq⟩ wh).code,y,r,(anS (prsQ r) y here sv ms ⟨px,py,pz,ph,pq⟩ wh).rs⟩):=fun h h2=>by
   rw [HP.out];unfold ansL ansC;rw [if_pos h,if_pos h,if_pos h2,if_pos h2]
  have HAR2:Hid (prsE r=0→anR (prsQ r) y here sv ms ⟨px,py,pz,ph,pq⟩ wh=anS (prsQ r) y here sv ms ⟨px,py,pz,ph,pq⟩ wh):=HAR'.out r y HTY.out
  have HRC2:Hid _:=fun W=>HRC.out (prsQ r) y W (prsQ_ok r)
  clear HRC HAR' HP HTY
  generalize anR (prsQ r) y here sv ms ⟨px,py,pz,ph,pq⟩ wh=AR9 at *
  generalize anS (prsQ r) y here sv ms ⟨px,py,pz,ph,pq⟩ wh=A at *
  generalize prsE r=PE at *
  generalize prsQ r=q at *
  obtain ⟨qs,qt,qn,qc⟩:=q
  simp only at *
  go_wp2_with fail
  go_region
  go_wp2_with fail
  obtain ⟨W3,hW3⟩:∃ W3,W3=((((w2.alloc (.cells #[.int .i64 i,.bool a,.bool c,.int .i64 o,.string r,.int .i64 y,.slice p 0 k] 38)).setCell ⟨w1.heap.size,3,none⟩ (.int .i64 0)).setCell ⟨w1.heap.size,4,none⟩ (.string r)).setCell ⟨w1.heap.size,5,none⟩ (.int .i64 y)).drew:=⟨_,rfl⟩
  rw [← hW3]
  have hsW3:w2.heap.size+1≤W3.heap.size:=by rw [hW3];simp
  have HB3:Hid (Below w.heap.size w W3):=by rw [hW3];exact (((((HBA.out _).setCell (p:=⟨w1.heap.size,3,none⟩) (by simp<;>omega) _).setCell (p:=⟨w1.heap.size,4,none⟩) (by simp<;>omega) _).setCell (p:=⟨w1.heap.size,5,none⟩) (by simp<;>omega) _)).drew
  have HG3:Hid (W3.heap[w.heap.size]?=some (.cells #[.int .i64 px,.int .i64 py,.int .i64 pz,.int .i64 ph,.int .i64 pq] 25 (0,0))):=by
   rw [hW3]
   show ((((w2.alloc _).setCell _ _).setCell _ _).setCell _ _).heap[_]?=_
   rw [Below.heap_setCell _ _ _ _ (by simp<;>omega),Below.heap_setCell _ _ _ _ (by simp<;>omega),Below.heap_setCell _ _ _ _ (by simp<;>omega)]
   exact HG2.out _
  have HO3:Hid (W3.heap[w1.heap.size]?=some (.cells #[.int .i64 ID,.bool true,.bool false,.int .i64 0,.string r,.int .i64 y,.slice none 0 0] 38 (0,0))):=by
   rw [hW3]
   exact Joins.block_setCell (Joins.block_setCell (Joins.block_setCell (HD1.out _) _) _) _
  have HM3:Hid (W3.heap[w2.heap.size]?=some (.cells #[.int .i64 i,.bool a,.bool c,.int .i64 o,.string r,.int .i64 y,.slice p 0 k] 38 (0,0))):=by
   rw [hW3]
   show ((((w2.alloc _).setCell _ _).setCell _ _).setCell _ _).heap[_]?=_
   rw [Below.heap_setCell _ _ _ _ (by simp<;>omega),Below.heap_setCell _ _ _ _ (by simp<;>omega),Below.heap_setCell _ _ _ _ (by simp<;>omega)]
   exact heap_alloc_new w2 _
  clear hW3 z0 z1 z2 z3 z4 z5 z6 zz0 zz1 zz2 zz3 zz4 zz5 zz6 HG2 HD1 HBA
  refine (HPO.out W3).mono ?_
  rintro e w3 ⟨rfl,hb3⟩
  have hs3:=hb3.size
  have HB4:Hid (Below w.heap.size w w3):=HB3.out.trans (hb3.mono (by omega))
  have hg:∀ ob,(w3.alloc ob).heap[w.heap.size]?=some (.cells #[.int .i64 px,.int .i64 py,.int .i64 pz,.int .i64 ph,.int .i64 pq] 25 (0,0)):=fun ob=>by rw [Below.heap_alloc _ _ _ (by omega),hb3.block _ (by omega)];exact HG3.out
  have ho:∀ ob,(w3.alloc ob).heap[w1.heap.size]?=some (.cells #[.int .i64 ID,.bool true,.bool false,.int .i64 0,.string r,.int .i64 y,.slice none 0 0] 38 (0,0)):=fun ob=>by rw [Below.heap_alloc _ _ _ (by omega),hb3.block _ (by omega)];exact HO3.out
  have hm:∀ ob,(w3.alloc ob).heap[w2.heap.size]?=some (.cells #[.int .i64 i,.bool a,.bool c,.int .i64 o,.string r,.int .i64 y,.slice p 0 k] 38 (0,0)):=fun ob=>by rw [Below.heap_alloc _ _ _ (by omega),hb3.block _ (by omega)];exact HM3.out
  have d0:∀ ob,(w3.alloc ob).cell? ⟨w.heap.size,0,none⟩=some (.int .i64 px):=fun ob=>cellsAt (hg ob) 0
  have d1:∀ ob,(w3.alloc ob).cell? ⟨w.heap.size,1,none⟩=some (.int .i64 py):=fun ob=>cellsAt (hg ob) 1
  have d2:∀ ob,(w3.alloc ob).cell? ⟨w.heap.size,2,none⟩=some (.int .i64 pz):=fun ob=>cellsAt (hg ob) 2
  have d3:∀ ob,(w3.alloc ob).cell? ⟨w.heap.size,3,none⟩=some (.int .i64 ph):=fun ob=>cellsAt (hg ob) 3
  have d4:∀ ob,(w3.alloc ob).cell? ⟨w.heap.size,4,none⟩=some (.int .i64 pq):=fun ob=>cellsAt (hg ob) 4
  have z0:∀ ob,(w3.alloc ob).cell? ⟨w1.heap.size,0,none⟩=some (.int .i64 ID):=fun ob=>cellsAt (ho ob) 0
  have z1:∀ ob,(w3.alloc ob).cell? ⟨w1.heap.size,1,none⟩=some (.bool true):=fun ob=>cellsAt (ho ob) 1
  have z2:∀ ob,(w3.alloc ob).cell? ⟨w1.heap.size,2,none⟩=some (.bool false):=fun ob=>cellsAt (ho ob) 2
  have z3:∀ ob,(w3.alloc ob).cell? ⟨w1.heap.size,3,none⟩=some (.int .i64 0):=fun ob=>cellsAt (ho ob) 3
  have z4:∀ ob,(w3.alloc ob).cell? ⟨w1.heap.size,4,none⟩=some (.string r):=fun ob=>cellsAt (ho ob) 4
  have z5:∀ ob,(w3.alloc ob).cell? ⟨w1.heap.size,5,none⟩=some (.int .i64 y):=fun ob=>cellsAt (ho ob) 5
  have z6:∀ ob,(w3.alloc ob).cell? ⟨w1.heap.size,6,none⟩=some (.slice none 0 0):=fun ob=>cellsAt (ho ob) 6
  have zz0:∀ ob,(w3.alloc ob).frozen? ⟨w1.heap.size,0,none⟩=false:=fun ob=>by simp [World.frozen?,ho ob]
  have zz1:∀ ob,(w3.alloc ob).frozen? ⟨w1.heap.size,1,none⟩=false:=fun ob=>by simp [World.frozen?,ho ob]
  have zz2:∀ ob,(w3.alloc ob).frozen? ⟨w1.heap.size,2,none⟩=false:=fun ob=>by simp [World.frozen?,ho ob]
  have zz3:∀ ob,(w3.alloc ob).frozen? ⟨w1.heap.size,3,none⟩=false:=fun ob=>by simp [World.frozen?,ho ob]
  have zz4:∀ ob,(w3.alloc ob).frozen? ⟨w1.heap.size,4,none⟩=false:=fun ob=>by simp [World.frozen?,ho ob]
  have zz5:∀ ob,(w3.alloc ob).frozen? ⟨w1.heap.size,5,none⟩=false:=fun ob=>by simp [World.frozen?,ho ob]
  have zz6:∀ ob,(w3.alloc ob).frozen? ⟨w1.heap.size,6,none⟩=false:=fun ob=>by simp [World.frozen?,ho ob]
  have m5:∀ ob,(w3.alloc ob).cell? ⟨w2.heap.size,5,none⟩=some (.int .i64 y):=fun ob=>cellsAt (hm ob) 5
  have HBA:Hid (∀ ob,Below w.heap.size w (w3.alloc ob)):=fun ob=>HB4.out.alloc (by omega) ob
  have HOA:Hid _:=ho
  clear hg ho hm hb3 HG3 HO3 HM3 HPO
  by_cases h8:PE=8
  ·have HP:Hid (RPM=⟨4,y,r,[]⟩):=HA8.out h8
   clear HA8 HA3 HA2 HA0
   subst h8
   go_wp2_with fail
   refine Calls.mono (HF.out 4 y r [] none 0 _ HP.out (Rc.own_names (Rc.own_nil 0 _) (by simp)) (Nat.le_refl _)) ?_
   rintro e w9 ⟨rfl,hb9⟩
   have HB9:Hid (Below w.heap.size w w9):=((HBA.out _).setCell (p:=⟨w1.heap.size,3,none⟩) (by simp<;>omega) _).trans (hb9.mono (by simp<;>omega))
   clear hb9
   go_wp2_with fail
   go_ret3
   exact ⟨by rw [HT1.out,HO1.out];rfl,HB9.out⟩
  ·have g8:(PE == 8)=false:=by simpa using h8
   by_cases h0:PE=0
   ·have HA2':Hid _:=HA2.out h0
    have HA0':Hid _:=HA0.out h0
    have HE9:Hid (AR9=A):=HAR2.out h0
    clear HA8 HA3 HA2 HA0 g8 h8 HAR2
    subst h0
    go_wp2_with fail
    refine Calls.mono (HRC2.out _ (HS.out.below (HBA.out _)) (HM.out.below (HBA.out _)) (HW.out.below (HBA.out _))) ?_
    rintro e w4 ⟨v,rfl,hoo,hb4⟩
    rw [HE9.out] at hoo ⊢
    obtain ⟨pv,cv,hvv⟩:=rcown_slice hoo
    have hcap:A.rs.length≤cv:=by
     rcases hoo.2 with ⟨h,h0⟩ | ⟨g,c,cur,h,_,_,hnc,_⟩
     ·rw [hvv] at h;injection h with _ _ h3;omega
     ·rw [hvv] at h;injection h with _ _ h3;omega
    subst hvv
    have hs4:w3.heap.size+1≤w4.heap.size:=by have:=hb4.size;simpa using this
    have HB5:Hid (Below w.heap.size w w4):=(HBA.out _).trans (hb4.mono (by simp<;>omega))
    have HO5:Hid (Rc.Own (w3.heap.size+1) w4 (.slice pv A.rs.length cv) A.rs):=by
     have h:=hoo
     rw [show (w3.alloc (.cells #[.string qs,.string qt,.string qn,.string qc] 50)).heap.size=w3.heap.size+1 by simp] at h
     exact h
    have k1:w4.heap[w1.heap.size]?=some (.cells #[.int .i64 ID,.bool true,.bool false,.int .i64 0,.string r,.int .i64 y,.slice none 0 0] 38 (0,0)):=(hb4.block _ (by simp<;>omega)).trans (HOA.out _)
    have x0:w4.cell? ⟨w1.heap.size,0,none⟩=some (.int .i64 ID):=cellsAt k1 0
    have zx0:w4.frozen? ⟨w1.heap.size,0,none⟩=false:=by simp [World.frozen?,k1]
    have x1:w4.cell? ⟨w1.heap.size,1,none⟩=some (.bool true):=cellsAt k1 1
    have zx1:w4.frozen? ⟨w1.heap.size,1,none⟩=false:=by simp [World.frozen?,k1]
    have x2:w4.cell? ⟨w1.heap.size,2,none⟩=some (.bool false):=cellsAt k1 2
    have zx2:w4.frozen? ⟨w1.heap.size,2,none⟩=false:=by simp [World.frozen?,k1]
    have x3:w4.cell? ⟨w1.heap.size,3,none⟩=some (.int .i64 0):=cellsAt k1 3
    have zx3:w4.frozen? ⟨w1.heap.size,3,none⟩=false:=by simp [World.frozen?,k1]
    have x4:w4.cell? ⟨w1.heap.size,4,none⟩=some (.string r):=cellsAt k1 4
    have zx4:w4.frozen? ⟨w1.heap.size,4,none⟩=false:=by simp [World.frozen?,k1]
    have x5:w4.cell? ⟨w1.heap.size,5,none⟩=some (.int .i64 y):=cellsAt k1 5
    have zx5:w4.frozen? ⟨w1.heap.size,5,none⟩=false:=by simp [World.frozen?,k1]
    have x6:w4.cell? ⟨w1.heap.size,6,none⟩=some (.slice none 0 0):=cellsAt k1 6
    have zx6:w4.frozen? ⟨w1.heap.size,6,none⟩=false:=by simp [World.frozen?,k1]
    have HK4:Hid _:=k1
    clear k1 hb4 hoo
    obtain ⟨ars,acd,ae⟩:=A
    simp only at *
    have HCA:Hid (ars.length≤cv):=hcap
    have HL0:Hid (∃ nl,nl=ars.length):=⟨_,rfl⟩
    clear hcap
    by_cases he:ae=0
    ·have HP:Hid (RPM=⟨acd,y,r,ars⟩):=HA0'.out he
     clear HA2' HA0'
     subst he
     go_wp2_with fail
     have hsl:Rc.Own (w3.heap.size+1) ((w4.setCell ⟨w1.heap.size,3,none⟩ (.int .i64 acd)).setCell ⟨w1.heap.size,6,none⟩ (.slice pv ars.length cv)) (.slice pv ars.length cv) ars:=ownsRow_setCell_below (ownsRow_setCell_below HO5.out (a:=⟨w1.heap.size,3,none⟩) (by simp<;>omega) _) (a:=⟨w1.heap.size,6,none⟩) (by simp<;>omega) _
     refine Calls.mono (HF.out acd y r ars pv cv _ HP.out (Rc.own_names hsl (HOK'.out _ _ _ _ HP.out)) HCA.out) ?_
     rintro e w9 ⟨rfl,hb9⟩
     have HB9:Hid (Below w.heap.size w w9):=((HB5.out.setCell (p:=⟨w1.heap.size,3,none⟩) (by simp<;>omega) _).setCell (p:=⟨w1.heap.size,6,none⟩) (by simp<;>omega) _).trans (hb9.mono (by simp<;>omega))
     clear hb9
     go_wp2_with fail
     go_ret3
     exact ⟨by rw [HT1.out,HO1.out];rfl,HB9.out⟩
    ·have HP:Hid (RPM=⟨2,y,r,[]⟩):=HA2'.out he
     have he':(ae != 0)=true:=by simpa using he
     clear HA2' HA0'
     go_upto_region 17 with fail
     obtain ⟨W9,hW9⟩:∃ W9,W9=(w4.setCell ⟨w1.heap.size,3,none⟩ (.int .i64 acd)).setCell ⟨w1.heap.size,6,none⟩ (.slice pv ars.length cv):=⟨_,rfl⟩
     rw [← hW9]
     have hs9:w4.heap.size≤W9.heap.size:=by rw [hW9];simp
     have HB9':Hid (Below w.heap.size w W9):=by rw [hW9];exact (HB5.out.setCell (p:=⟨w1.heap.size,3,none⟩) (by simp<;>omega) _).setCell (p:=⟨w1.heap.size,6,none⟩) (by simp<;>omega) _
     have k9:W9.heap[w1.heap.size]?=some (.cells #[.int .i64 ID,.bool true,.bool false,.int .i64 acd,.string r,.int .i64 y,.slice pv ars.length cv] 38 (0,0)):=by
      rw [hW9]
      exact Joins.block_setCell (Joins.block_setCell HK4.out _) _
     clear hW9 x0 x1 x2 x3 x4 x5 x6 zx0 zx1 zx2 zx3 zx4 zx5 zx6
     have x0:W9.cell? ⟨w1.heap.size,0,none⟩=some (.int .i64 ID):=cellsAt k9 0
     have zx0:W9.frozen? ⟨w1.heap.size,0,none⟩=false:=by simp [World.frozen?,k9]
     have x1:W9.cell? ⟨w1.heap.size,1,none⟩=some (.bool true):=cellsAt k9 1
     have zx1:W9.frozen? ⟨w1.heap.size,1,none⟩=false:=by simp [World.frozen?,k9]
     have x2:W9.cell? ⟨w1.heap.size,2,none⟩=some (.bool false):=cellsAt k9 2
     have zx2:W9.frozen? ⟨w1.heap.size,2,none⟩=false:=by simp [World.frozen?,k9]
     have x3:W9.cell? ⟨w1.heap.size,3,none⟩=some (.int .i64 acd):=cellsAt k9 3
     have zx3:W9.frozen? ⟨w1.heap.size,3,none⟩=false:=by simp [World.frozen?,k9]
     have x4:W9.cell? ⟨w1.heap.size,4,none⟩=some (.string r):=cellsAt k9 4
     have zx4:W9.frozen? ⟨w1.heap.size,4,none⟩=false:=by simp [World.frozen?,k9]
     have x5:W9.cell? ⟨w1.heap.size,5,none⟩=some (.int .i64 y):=cellsAt k9 5
     have zx5:W9.frozen? ⟨w1.heap.size,5,none⟩=false:=by simp [World.frozen?,k9]
     have x6:W9.cell? ⟨w1.heap.size,6,none⟩=some (.slice pv ars.length cv):=cellsAt k9 6
     have zx6:W9.frozen? ⟨w1.heap.size,6,none⟩=false:=by simp [World.frozen?,k9]
     clear k9
     go_wp2_with fail
     refine Calls.mono (HF.out 2 y r [] none 0 _ HP.out (Rc.own_names (Rc.own_nil 0 _) (by simp)) (Nat.le_refl _)) ?_
     rintro e w9 ⟨rfl,hb9⟩
     have HB9:Hid (Below w.heap.size w w9):=((HB9'.out.setCell (p:=⟨w1.heap.size,3,none⟩) (by simp<;>omega) _).setCell (p:=⟨w1.heap.size,6,none⟩) (by simp<;>omega) _).trans (hb9.mono (by simp<;>omega))
     clear hb9
     go_wp2_with fail
     go_ret3
     exact ⟨by rw [HT1.out,HO1.out];rfl,HB9.out⟩
   ·have HP:Hid (RPM=⟨3,y,r,[]⟩):=HA3.out h8 h0
    have g0:(PE != 0)=true:=by simpa using h0
    clear HA8 HA3 HA2 HA0
    go_wp2_with fail
    refine Calls.mono (HF.out 3 y r [] none 0 _ HP.out (Rc.own_names (Rc.own_nil 0 _) (by simp)) (Nat.le_refl _)) ?_
    rintro e w9 ⟨rfl,hb9⟩
    have HB9:Hid (Below w.heap.size w w9):=((HBA.out _).setCell (p:=⟨w1.heap.size,3,none⟩) (by simp<;>omega) _).trans (hb9.mono (by simp<;>omega))
    clear hb9
    go_wp2_with fail
    go_ret3
    exact ⟨by rw [HT1.out,HO1.out];rfl,HB9.out⟩
abbrev qT2:Qu:=⟨⟨#[115]⟩,⟨#[]⟩,⟨#[]⟩,⟨#[]⟩⟩
abbrev sT2:Sv.Svc:=⟨⟨#[110]⟩,⟨#[105]⟩,⟨#[115]⟩,⟨#[]⟩,9,0,true,1,false⟩
theorem begun_is2:anR qT2 1 ⟨#[99]⟩ [sT2] [] ⟨0,0,0,0,0⟩ []=⟨[⟨⟨#[115,46,115,101,114,118,105,99,101,46,109,101,115,104]⟩,1,0,9,⟨#[]⟩,0,⟨#[]⟩⟩],0,0⟩:=by kernel_rfl
set_option maxHeartbeats 3200000 in
set_option maxRecDepth 100000 in
theorem answerBegun2 (w:World):Calls Tryz.prog 8 #[] w fun e w'=>e=.returned (.bool true)∧Below w.heap.size w w':=by
 have HR:Hid (∀ (W:World) (g:Nat),W.heap[g]?=some (.cells #[.string ⟨#[110]⟩,.string ⟨#[105]⟩,.string ⟨#[115]⟩,.string ⟨#[]⟩,.int .i64 9,.int .i64 0,.bool true,.int .i64 1,.bool false] 57 (0,0))→Calls Tryz.prog 19 #[.agg #[.string ⟨#[115]⟩,.string ⟨#[]⟩,.string ⟨#[]⟩,.string ⟨#[]⟩],.int .i64 1,.string ⟨#[99]⟩,.slice (some ⟨g,0,none⟩) 1 1,.slice none 0 0,.agg #[.int .i64 0,.int .i64 0,.int .i64 0,.int .i64 0,.int .i64 0],.slice none 0 0] W fun e w'=>∃ v,e=.returned (.tuple #[v,.int .i64 0,.int .i64 0])∧Rc.Own W.heap.size w' v [⟨⟨#[115,46,115,101,114,118,105,99,101,46,109,101,115,104]⟩,1,0,9,⟨#[]⟩,0,⟨#[]⟩⟩]∧Below W.heap.size W w'):=fun W g hg=>by
  have h:=Records_any ⟨#[99]⟩ (some ⟨g,0,none⟩) none none 1 1 0 0 0 0 0 0 0 0 0 qT2 1 [sT2] [] [] W ⟨by decide,by decide,by decide,by decide⟩ (by decide) (Sv.sl_one W g 1 sT2 ⟨by decide,by decide,by decide,by decide⟩ hg) ⟨none,0,rfl,fun j=>by simp [dm],.inl rfl⟩ ⟨none,0,rfl,fun j=>by simpa using Wh.dm_ok,.inl rfl⟩
  rw [begun_is2] at h
  exact h
 go_enter Tryz.func8,Tryz.ntmps8
 go_wp2_with fail
 refine Calls.mono (HR.out _ w.heap.size (heap_alloc_new w _)) ?_
 rintro e w1 ⟨v,rfl,ho,hb⟩
 obtain ⟨g,c,rfl⟩:=Rc.own_form ho 0 (by simp)
 obtain ⟨c0,c1,c2,c3,c4,c5,c6⟩:=Rc.own_cells ho 0 (by simp)
 have HB:Hid (Below w.heap.size w w1):=((Below.refl _ _).alloc (Nat.le_refl _) _).trans (hb.mono (by simp))
 simp only [List.getD_cons_zero,Nat.zero_mul,Nat.zero_add,List.length_singleton] at c0 c1 c2 c3 c4 c5 c6 ⊢
 clear ho hb
 go_wp2_with fail
 go_ret
 exact ⟨rfl,HB.out⟩
set_option maxHeartbeats 6400000 in
set_option maxRecDepth 100000 in
theorem answerReplies_walk (here:ByteArray) (ps pm pw:Option Addr) (ns cs nm cm nw cw:Nat) (px py pz ph pq:Int) (s:ByteArray) (sv:List Sv.Svc) (ms:List Mem) (wh:List Wh.Whe) (w:World) (hml:ML w) (hh:here.size≤maxLen) (hs:Sv.Sl w (.slice ps ns cs) sv) (hm:Sl w (.slice pm nm cm) ms) (hw:Wh.Sl w (.slice pw nw cw) wh) :
 Calls Tryz.prog 3 #[.string s,.agg (knA here (.slice ps ns cs) (.slice pm nm cm) px py pz ph pq (.slice pw nw cw))] w fun e w'=>e=.returned (.bool true)∧Below w.heap.size w w':=by
 have HS:Hid (Sv.Sl w (.slice ps ns cs) sv):=hs
 have HM:Hid (Sl w (.slice pm nm cm) ms):=hm
 have HW:Hid (Wh.Sl w (.slice pw nw cw) wh):=hw
 have HML:Hid (ML w):=hml
 have HC1:Hid (∀ W,ML W→Sv.Sl W (.slice ps ns cs) sv→Sl W (.slice pm nm cm) ms→Wh.Sl W (.slice pw nw cw) wh→Calls Tryz.prog 6 #[.string s,.string here,.slice ps ns cs,.slice pm nm cm,.agg #[.int .i64 px,.int .i64 py,.int .i64 pz,.int .i64 ph,.int .i64 pq],.slice pw nw cw] W fun e w'=>e=.returned (.tuple #[.string (rplT s here sv ms ⟨px,py,pz,ph,pq⟩ wh),.bool (rplB s here sv ms ⟨px,py,pz,ph,pq⟩ wh),.int .i64 (knE here sv ms ⟨px,py,pz,ph,pq⟩ wh)])∧Below W.heap.size W w'):=fun W h a1 a2 a3=>Reply_any here ps pm pw ns cs nm cm nw cw px py pz ph pq s sv ms wh W h hh a1 a2 a3
 have HC2:Hid (∀ W,Sv.Sl W (.slice ps ns cs) sv→Sl W (.slice pm nm cm) ms→Wh.Sl W (.slice pw nw cw) wh→Calls Tryz.prog 7 #[.string s,.string here,.slice ps ns cs,.slice pm nm cm,.agg #[.int .i64 px,.int .i64 py,.int .i64 pz,.int .i64 ph,.int .i64 pq],.slice pw nw cw] W fun e w'=>e=.returned (.tuple #[.string (rplT s here sv ms ⟨px,py,pz,ph,pq⟩ wh),.bool (rplB s here sv ms ⟨px,py,pz,ph,pq⟩ wh),.int .i64 (knE here sv ms ⟨px,py,pz,ph,pq⟩ wh)])∧Below W.heap.size W w'):=fun W a1 a2 a3=>replyOf_any here ps pm pw ns cs nm cm nw cw px py pz ph pq s sv ms wh W hh a1 a2 a3
 clear hs hm hw hml
 generalize rplT s here sv ms ⟨px,py,pz,ph,pq⟩ wh=TX at *
 generalize rplB s here sv ms ⟨px,py,pz,ph,pq⟩ wh=BX at *
 generalize knE here sv ms ⟨px,py,pz,ph,pq⟩ wh=ke at *
 go_enter Tryz.func3,Tryz.ntmps3
 go_wp2_with fail
 obtain ⟨W,hW⟩:∃ W,W=w.alloc (.cells (knA here (.slice ps ns cs) (.slice pm nm cm) px py pz ph pq (.slice pw nw cw)) 28):=⟨_,rfl⟩
 rw [← hW]
 have hbW:Below w.heap.size w W:=by rw [hW];exact (Below.refl _ _).alloc (Nat.le_refl _) _
 have hG1:W.heap[w.heap.size]?=some (.cells (knA here (.slice ps ns cs) (.slice pm nm cm) px py pz ph pq (.slice pw nw cw)) 28 (0,0)):=by rw [hW];exact heap_alloc_new w _
 have hsW:w.heap.size+1≤W.heap.size:=by rw [hW];simp
 clear hW
 refine Calls.mono (HC1.out W (HML.out.below hbW) (HS.out.below hbW) (HM.out.below hbW) (HW.out.below hbW)) ?_
 rintro e w1 ⟨rfl,hb1⟩
 have hs1:=hb1.size
 have HB1:Hid (Below w.heap.size w w1):=hbW.trans (hb1.mono (by omega))
 have k1:w1.heap[w.heap.size]?=_:=(hb1.block _ (by omega)).trans hG1
 have d0:w1.cell? ⟨w.heap.size,0,none⟩=some (.string here):=cellsAt k1 0
 have d1:w1.cell? ⟨w.heap.size,1,none⟩=some (.slice ps ns cs):=cellsAt k1 1
 have d2:w1.cell? ⟨w.heap.size,2,none⟩=some (.slice pm nm cm):=cellsAt k1 2
 have d3:w1.cell? ⟨w.heap.size,3,none⟩=some (.int .i64 px):=cellsAt k1 3
 have d4:w1.cell? ⟨w.heap.size,4,none⟩=some (.int .i64 py):=cellsAt k1 4
 have d5:w1.cell? ⟨w.heap.size,5,none⟩=some (.int .i64 pz):=cellsAt k1 5
 have d6:w1.cell? ⟨w.heap.size,6,none⟩=some (.int .i64 ph):=cellsAt k1 6
 have d7:w1.cell? ⟨w.heap.size,7,none⟩=some (.int .i64 pq):=cellsAt k1 7
 have d8:w1.cell? ⟨w.heap.size,8,none⟩=some (.slice pw nw cw):=cellsAt k1 8
 clear k1 hb1 hbW hG1
 go_wp2_with fail
 refine Calls.mono (HC2.out w1 (HS.out.below HB1.out) (HM.out.below HB1.out) (HW.out.below HB1.out)) ?_
 rintro e w2 ⟨rfl,hb2⟩
 have hs2:=hb2.size
 have HB2:Hid (Below w.heap.size w w2):=HB1.out.trans (hb2.mono (by omega))
 clear hb2 d0 d1 d2 d3 d4 d5 d6 d7 d8
 go_wp2_with fail
 refine (answerBegun2 _).mono ?_
 rintro e w3 ⟨rfl,hb3⟩
 have HB3:Hid (Below w.heap.size w w3):=HB2.out.trans (hb3.mono (by omega))
 clear hb3
 cases BX
 ·go_wp2_with fail
  go_ret
  exact ⟨rfl,HB3.out⟩
 ·go_wp2_with fail
  go_ret
  exact ⟨rfl,HB3.out⟩
set_option maxHeartbeats 6400000 in
set_option maxRecDepth 100000 in
theorem answerAsks_walk (id code typ:Int) (ans cut:Bool) (name:ByteArray) (rs:List Rc.Rec) (v:Value) (here:ByteArray) (ps pm pw:Option Addr) (ns cs nm cm nw cw:Nat) (px py pz ph pq:Int) (sv:List Sv.Svc) (ms:List Mem) (wh:List Wh.Whe) (w:World) (hml:ML w) (hn:name.size≤maxLen) (hv:Rc.Sl w v rs) (hh:here.size≤maxLen) (hs:Sv.Sl w (.slice ps ns cs) sv) (hm:Sl w (.slice pm nm cm) ms) (hw:Wh.Sl w (.slice pw nw cw) wh) :
 Calls Tryz.prog 4 #[.agg #[.int .i64 id,.bool ans,.bool cut,.int .i64 code,.string name,.int .i64 typ,v],.agg (knA here (.slice ps ns cs) (.slice pm nm cm) px py pz ph pq (.slice pw nw cw))] w fun e w'=>e=.returned (.bool true)∧Below w.heap.size w w':=by
 have HS:Hid (Sv.Sl w (.slice ps ns cs) sv):=hs
 have HM:Hid (Sl w (.slice pm nm cm) ms):=hm
 have HW:Hid (Wh.Sl w (.slice pw nw cw) wh):=hw
 have HML:Hid (ML w):=hml
 have HV:Hid (Rc.Sl w v rs):=hv
 have HC1:Hid (∀ W,ML W→Rc.Sl W v rs→Calls Tryz.prog 10 #[.agg #[.int .i64 id,.bool ans,.bool cut,.int .i64 code,.string name,.int .i64 typ,v]] W fun e w'=>e=.returned (.tuple #[.string (wrT id code typ ans cut name rs),.int .i64 (wrE id code typ ans cut name rs)])∧Below W.heap.size W w'):=fun W h a=>write_any id code typ ans cut name rs v W h hn a
 have HC2:Hid (∀ (s:ByteArray) (W:World),ML W→Sv.Sl W (.slice ps ns cs) sv→Sl W (.slice pm nm cm) ms→Wh.Sl W (.slice pw nw cw) wh→Calls Tryz.prog 3 #[.string s,.agg (knA here (.slice ps ns cs) (.slice pm nm cm) px py pz ph pq (.slice pw nw cw))] W fun e w'=>e=.returned (.bool true)∧Below W.heap.size W w'):=fun s W h a1 a2 a3=>answerReplies_walk here ps pm pw ns cs nm cm nw cw px py pz ph pq s sv ms wh W h hh a1 a2 a3
 obtain ⟨va,vc,hvv,-,-⟩:=hv
 obtain ⟨vl,hvl⟩:∃ vl,vl=rs.length:=⟨_,rfl⟩
 rw [← hvl] at hvv
 subst hvv
 clear hs hm hw hml hvl
 generalize wrT id code typ ans cut name rs=TX at *
 generalize wrE id code typ ans cut name rs=ke at *
 go_enter Tryz.func4,Tryz.ntmps4
 go_wp2_with fail
 obtain ⟨W,hW⟩:∃ W,W=(w.alloc (.cells #[.int .i64 id,.bool ans,.bool cut,.int .i64 code,.string name,.int .i64 typ,.slice va vl vc] 38)).alloc (.cells (knA here (.slice ps ns cs) (.slice pm nm cm) px py pz ph pq (.slice pw nw cw)) 28):=⟨_,rfl⟩
 rw [← hW]
 have hbW:Below w.heap.size w W:=by rw [hW];exact ((Below.refl _ _).alloc (Nat.le_refl _) _).alloc (by simp) _
 have HG0:Hid (W.heap[w.heap.size]?=some (.cells #[.int .i64 id,.bool ans,.bool cut,.int .i64 code,.string name,.int .i64 typ,.slice va vl vc] 38 (0,0))):=by rw [hW,Below.heap_alloc _ _ _ (by simp)];exact heap_alloc_new w _
 have hG1:W.heap[w.heap.size+1]?=some (.cells (knA here (.slice ps ns cs) (.slice pm nm cm) px py pz ph pq (.slice pw nw cw)) 28 (0,0)):=by
  rw [hW]
  have h:=heap_alloc_new (w.alloc (.cells #[.int .i64 id,.bool ans,.bool cut,.int .i64 code,.string name,.int .i64 typ,.slice va vl vc] 38)) (.cells (knA here (.slice ps ns cs) (.slice pm nm cm) px py pz ph pq (.slice pw nw cw)) 28)
  simpa using h
 have HG1:Hid _:=hG1
 have hsW:w.heap.size+2≤W.heap.size:=by rw [hW];simp
 clear hW hG1
 refine Calls.mono (dnsBegun_any W (HML.out.below hbW)) ?_
 rintro e w1 ⟨rfl,hb1⟩
 have hs1:=hb1.size
 have HB1:Hid (Below w.heap.size w w1):=hbW.trans (hb1.mono (by omega))
 have k0:w1.heap[w.heap.size]?=some (.cells #[.int .i64 id,.bool ans,.bool cut,.int .i64 code,.string name,.int .i64 typ,.slice va vl vc] 38 (0,0)):=(hb1.block _ (by omega)).trans HG0.out
 have HK1:Hid (w1.heap[w.heap.size+1]?=some (.cells (knA here (.slice ps ns cs) (.slice pm nm cm) px py pz ph pq (.slice pw nw cw)) 28 (0,0))):=(hb1.block _ (by omega)).trans HG1.out
 have q0:w1.cell? ⟨w.heap.size,0,none⟩=some (.int .i64 id):=cellsAt k0 0
 have q1:w1.cell? ⟨w.heap.size,1,none⟩=some (.bool ans):=cellsAt k0 1
 have q2:w1.cell? ⟨w.heap.size,2,none⟩=some (.bool cut):=cellsAt k0 2
 have q3:w1.cell? ⟨w.heap.size,3,none⟩=some (.int .i64 code):=cellsAt k0 3
 have q4:w1.cell? ⟨w.heap.size,4,none⟩=some (.string name):=cellsAt k0 4
 have q5:w1.cell? ⟨w.heap.size,5,none⟩=some (.int .i64 typ):=cellsAt k0 5
 have q6:w1.cell? ⟨w.heap.size,6,none⟩=some (.slice va vl vc):=cellsAt k0 6
 clear k0 hb1 hbW HG0 HG1
 go_wp2_with fail
 refine Calls.mono (HC1.out w1 (HML.out.below HB1.out) (HV.out.below HB1.out)) ?_
 rintro e w2 ⟨rfl,hb2⟩
 have hs2:=hb2.size
 have HB2:Hid (Below w.heap.size w w2):=HB1.out.trans (hb2.mono (by omega))
 have k1:w2.heap[w.heap.size+1]?=some (.cells (knA here (.slice ps ns cs) (.slice pm nm cm) px py pz ph pq (.slice pw nw cw)) 28 (0,0)):=(hb2.block _ (by omega)).trans HK1.out
 have d0:w2.cell? ⟨w.heap.size+1,0,none⟩=some (.string here):=cellsAt k1 0
 have d1:w2.cell? ⟨w.heap.size+1,1,none⟩=some (.slice ps ns cs):=cellsAt k1 1
 have d2:w2.cell? ⟨w.heap.size+1,2,none⟩=some (.slice pm nm cm):=cellsAt k1 2
 have d3:w2.cell? ⟨w.heap.size+1,3,none⟩=some (.int .i64 px):=cellsAt k1 3
 have d4:w2.cell? ⟨w.heap.size+1,4,none⟩=some (.int .i64 py):=cellsAt k1 4
 have d5:w2.cell? ⟨w.heap.size+1,5,none⟩=some (.int .i64 pz):=cellsAt k1 5
 have d6:w2.cell? ⟨w.heap.size+1,6,none⟩=some (.int .i64 ph):=cellsAt k1 6
 have d7:w2.cell? ⟨w.heap.size+1,7,none⟩=some (.int .i64 pq):=cellsAt k1 7
 have d8:w2.cell? ⟨w.heap.size+1,8,none⟩=some (.slice pw nw cw):=cellsAt k1 8
 clear k1 hb2 q0 q1 q2 q3 q4 q5 q6
 by_cases h0:ke=0
 ·subst h0
  go_wp2_with fail
  refine Calls.mono (HC2.out TX w2 (HML.out.below HB2.out) (HS.out.below HB2.out) (HM.out.below HB2.out) (HW.out.below HB2.out)) ?_
  rintro e w3 ⟨rfl,hb3⟩
  have HB3:Hid (Below w.heap.size w w3):=HB2.out.trans (hb3.mono (by omega))
  clear hb3
  go_wp2_with fail
  go_ret
  exact ⟨rfl,HB3.out⟩
 ·have h0':(ke != 0)=true:=by simpa using h0
  go_wp2_with fail
  go_ret
  exact ⟨rfl,HB2.out⟩
end Go.Proofs.YtignmeaeibaejaaGreatDoor
