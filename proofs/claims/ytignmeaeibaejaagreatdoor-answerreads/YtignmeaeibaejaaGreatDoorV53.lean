import Derived.Test.YtignmeaeibaejaaGreatDoorV31
import Derived.Test.YtignmeaeibaejaaGreatDoorV45
import Derived.Test.YtignmeaeibaejaaGreatDoorV2
import Derived.Lib.QuietBelow
import Derived.Test.YtignmeaeibaejaaGreatDoorV52
import Derived.BigQuiet
namespace Go.Proofs.YtignmeaeibaejaaGreatDoor
open Go.RowKit
theorem fitN_some {f:Nat→List UInt8} {size:Int}:∀ {n:Nat},(fitN f size n).isSome=true→∃ j,j≤n∧fitN f size n=some (f j)∧((f j).length:Int)≤size
 | 0,h=>by
   simp only [fitN] at h ⊢
   split at h
   ·rename_i h1;exact ⟨0,Nat.le_refl _,by rw [if_pos h1],h1⟩
   ·cases h
 | n+1,h=>by
   simp only [fitN] at h ⊢
   split at h
   ·rename_i h1;exact ⟨n+1,Nat.le_refl _,by rw [if_pos h1],h1⟩
   ·rename_i h1
    obtain ⟨j,h2,h3,h4⟩:=fitN_some h
    exact ⟨j,by omega,by rw [if_neg h1];exact h3,h4⟩
theorem fit_good {id code typ size:Int} {ans cut:Bool} {name:ByteArray} {rs:List Rc.Rec} (h:fitE id code typ ans cut name rs size=0):chkMsg id code typ name rs=0∧size≤512∧∃ j,j≤rs.length∧fitT id code typ ans cut name rs size=⟨(fitB id code typ ans cut name rs j).toArray⟩∧((fitB id code typ ans cut name rs j).length:Int)≤size:=by
 unfold fitE at h
 unfold fitT
 split at h
 ·omega
 ·rename_i h1
  have h1':within size 12 512=true:=by simpa using h1
  simp only [within,Bool.and_eq_true,decide_eq_true_eq] at h1'
  rw [if_neg h1]
  split at h
  ·rename_i h2
   rw [if_pos h2]
   split at h
   ·rename_i h3
    obtain ⟨j,h4,h5,h6⟩:=fitN_some h3
    exact ⟨h2,h1'.2,j,h4,by rw [h5];rfl,h6⟩
   ·omega
  ·rename_i h2
   exact absurd h h2
theorem repT_read {s here:ByteArray} {sv:List Sv.Svc} {ms:List Mem} {p:Pl} {wh:List Wh.Whe} (hk:KnOk here sv ms p wh):(repT s here sv ms p wh).size≤512∧∃ j,∀ W,Calls Tryz.prog 11 #[.string (repT s here sv ms p wh)] W fun e w'=>∃ v,e=.returned (.tuple #[.agg #[.int .i64 (repId s),.bool true,.bool (false || decide (j < (repM s here sv ms p wh).rs.length)),.int .i64 (repM s here sv ms p wh).code,.string (repM s here sv ms p wh).R,.int .i64 (repM s here sv ms p wh).typ,v],.int .i64 0])∧Below W.heap.size W w'∧Hid (Rc.Own W.heap.size w' v ((repM s here sv ms p wh).rs.take j)):=by
 have hok:=repM_ok (s:=s) hk
 obtain ⟨h1,h2,j,h3,h4,h5⟩:=fit_good (rp_fits hok (repId_in s))
 have hct:=chkMsg_take h1 j
 have e2:repT s here sv ms p wh=fitT (repId s) (repM s here sv ms p wh).code (repM s here sv ms p wh).typ true false (repM s here sv ms p wh).R (repM s here sv ms p wh).rs 512:=rfl
 generalize repM s here sv ms p wh=RP at *
 have hts:(⟨(fitB (repId s) RP.code RP.typ true false RP.R RP.rs j).toArray⟩:ByteArray).size=(fitB (repId s) RP.code RP.typ true false RP.R RP.rs j).length:=by simp [ByteArray.size]
 rw [e2,h4]
 refine ⟨by rw [hts];omega,j,fun W=>?_⟩
 exact read_any (repId s) RP.code RP.typ true _ RP.R _ (RP.rs.take j) W (reads_written hct (by unfold fitB at h5;omega)) (by rw [hts];omega) hct
set_option maxHeartbeats 6400000 in
set_option maxRecDepth 100000 in
theorem answerReads_walk (here:ByteArray) (ps pm pw:Option Addr) (ns cs nm cm nw cw:Nat) (px py pz ph pq:Int) (s:ByteArray) (sv:List Sv.Svc) (ms:List Mem) (wh:List Wh.Whe) (w:World) (hml:ML w) (hh:here.size≤maxLen) (hs:Sv.Sl w (.slice ps ns cs) sv) (hm:Sl w (.slice pm nm cm) ms) (hw:Wh.Sl w (.slice pw nw cw) wh) :
 Calls Tryz.prog 5 #[.string s,.agg (knA here (.slice ps ns cs) (.slice pm nm cm) px py pz ph pq (.slice pw nw cw))] w fun e w'=>e=.returned (.bool true)∧Below w.heap.size w w':=by
 have HS:Hid (Sv.Sl w (.slice ps ns cs) sv):=hs
 have HM:Hid (Sl w (.slice pm nm cm) ms):=hm
 have HW:Hid (Wh.Sl w (.slice pw nw cw) wh):=hw
 have HML:Hid (ML w):=hml
 have HC1:Hid (∀ W,ML W→Sv.Sl W (.slice ps ns cs) sv→Sl W (.slice pm nm cm) ms→Wh.Sl W (.slice pw nw cw) wh→Calls Tryz.prog 6 #[.string s,.string here,.slice ps ns cs,.slice pm nm cm,.agg #[.int .i64 px,.int .i64 py,.int .i64 pz,.int .i64 ph,.int .i64 pq],.slice pw nw cw] W fun e w'=>e=.returned (.tuple #[.string (rplT s here sv ms ⟨px,py,pz,ph,pq⟩ wh),.bool (rplB s here sv ms ⟨px,py,pz,ph,pq⟩ wh),.int .i64 (knE here sv ms ⟨px,py,pz,ph,pq⟩ wh)])∧Below W.heap.size W w'):=fun W h a1 a2 a3=>Reply_any here ps pm pw ns cs nm cm nw cw px py pz ph pq s sv ms wh W h hh a1 a2 a3
 have HTN:Hid (rplB s here sv ms ⟨px,py,pz,ph,pq⟩ wh=false→rplT s here sv ms ⟨px,py,pz,ph,pq⟩ wh=⟨#[]⟩):=fun h=>by
  unfold rplB at h
  unfold rplT
  by_cases h0:knE here sv ms ⟨px,py,pz,ph,pq⟩ wh=0
  ·rw [if_pos h0] at h ⊢
   rw [if_pos (by simpa using h)]
  ·rw [if_neg h0]
 have HTK:Hid (knE here sv ms ⟨px,py,pz,ph,pq⟩ wh≠0→rplB s here sv ms ⟨px,py,pz,ph,pq⟩ wh=false):=fun h=>by unfold rplB;rw [if_neg h]
 have HTY:Hid (knE here sv ms ⟨px,py,pz,ph,pq⟩ wh=0→rplB s here sv ms ⟨px,py,pz,ph,pq⟩ wh=true→rplT s here sv ms ⟨px,py,pz,ph,pq⟩ wh=repT s here sv ms ⟨px,py,pz,ph,pq⟩ wh∧quietB s=false):=fun h h2=>by
  unfold rplB at h2
  rw [if_pos h] at h2
  have hq:quietB s=false:=by simpa using h2
  unfold rplT
  rw [if_pos h,hq]
  exact ⟨rfl,rfl⟩
 have HRT:Hid (knE here sv ms ⟨px,py,pz,ph,pq⟩ wh=0→_):=fun h=>repT_read (s:=s) (knOk h)
 have HN:Hid (rdM s=none→repM s here sv ms ⟨px,py,pz,ph,pq⟩ wh=⟨1,1,⟨#[]⟩,[]⟩):=fun h=>by unfold repM;rw [h]
 have HFo:Hid (∀ M,rdM s=some M→M.rs.length≠0→repM s here sv ms ⟨px,py,pz,ph,pq⟩ wh=⟨1,1,⟨#[]⟩,[]⟩):=fun M h h2=>by unfold repM;rw [h];simp only;rw [if_neg h2]
 have HY:Hid (∀ M,rdM s=some M→M.rs.length=0→(repM s here sv ms ⟨px,py,pz,ph,pq⟩ wh).typ=M.typ∧(repM s here sv ms ⟨px,py,pz,ph,pq⟩ wh).R=M.R):=fun M h h2=>by unfold repM;rw [h];simp only;rw [if_pos h2];exact ⟨rfl,rfl⟩
 have HX:Hid (∀ M,rdM s=some M→rdX s=0):=fun M h=>by
  unfold rdM at h
  by_cases h2:s.size≤512∧rdE s=0
  ·unfold rdX;rw [if_pos h2.1,if_pos h2.2]
  ·rw [if_neg h2] at h;cases h
 have HXN:Hid (rdM s=none→rdX s≠0):=fun h=>by
  unfold rdX
  by_cases h1:s.size≤512
  ·rw [if_pos h1]
   by_cases h2:rdE s=0
   ·exfalso
    unfold rdM at h
    rw [if_pos ⟨h1,h2⟩] at h
    unfold rdE at h2
    rw [h] at h2
    exact absurd h2 (by decide)
   ·rw [if_neg h2];decide
  ·rw [if_neg h1];decide
 clear hs hm hw hml
 generalize rplT s here sv ms ⟨px,py,pz,ph,pq⟩ wh=TX at *
 generalize rplB s here sv ms ⟨px,py,pz,ph,pq⟩ wh=BX at *
 generalize knE here sv ms ⟨px,py,pz,ph,pq⟩ wh=ke at *
 generalize repM s here sv ms ⟨px,py,pz,ph,pq⟩ wh=RPM at *
 generalize repT s here sv ms ⟨px,py,pz,ph,pq⟩ wh=RTX at *
 obtain ⟨W,hW⟩:∃ W,W=w.alloc (.cells (knA here (.slice ps ns cs) (.slice pm nm cm) px py pz ph pq (.slice pw nw cw)) 28):=⟨_,rfl⟩
 have HBW:Hid (Below w.heap.size w W):=by rw [hW];exact (Below.refl _ _).alloc (Nat.le_refl _) _
 have HG1:Hid (W.heap[w.heap.size]?=some (.cells (knA here (.slice ps ns cs) (.slice pm nm cm) px py pz ph pq (.slice pw nw cw)) 28 (0,0))):=by rw [hW];exact heap_alloc_new w _
 have hsW:w.heap.size+1≤W.heap.size:=by rw [hW];simp
 go_enter Tryz.func5,Tryz.ntmps5
 go_wp2_with fail
 rw [← hW]
 clear hW
 refine (answerBegun2 _).mono ?_
 rintro e w1 ⟨rfl,hb1⟩
 have hs1:=hb1.size
 have HB1:Hid (Below w.heap.size w w1):=HBW.out.trans (hb1.mono (by omega))
 have HK1:Hid (w1.heap[w.heap.size]?=some (.cells (knA here (.slice ps ns cs) (.slice pm nm cm) px py pz ph pq (.slice pw nw cw)) 28 (0,0))):=(hb1.block _ (by omega)).trans HG1.out
 clear hb1
 go_wp2_with fail
 refine (dnsBegun_any _ (HML.out.below HB1.out)).mono ?_
 rintro e w2 ⟨rfl,hb2⟩
 have hs2:=hb2.size
 have HB2:Hid (Below w.heap.size w w2):=HB1.out.trans (hb2.mono (by omega))
 have k1:w2.heap[w.heap.size]?=some (.cells (knA here (.slice ps ns cs) (.slice pm nm cm) px py pz ph pq (.slice pw nw cw)) 28 (0,0)):=(hb2.block _ (by omega)).trans HK1.out
 have d0:w2.cell? ⟨w.heap.size,0,none⟩=some (.string here):=cellsAt k1 0
 have d1:w2.cell? ⟨w.heap.size,1,none⟩=some (.slice ps ns cs):=cellsAt k1 1
 have d2:w2.cell? ⟨w.heap.size,2,none⟩=some (.slice pm nm cm):=cellsAt k1 2
 have d3:w2.cell? ⟨w.heap.size,3,none⟩=some (.int .i64 px):=cellsAt k1 3
 have d4:w2.cell? ⟨w.heap.size,4,none⟩=some (.int .i64 py):=cellsAt k1 4
 have d5:w2.cell? ⟨w.heap.size,5,none⟩=some (.int .i64 pz):=cellsAt k1 5
 have d6:w2.cell? ⟨w.heap.size,6,none⟩=some (.int .i64 ph):=cellsAt k1 6
 have d7:w2.cell? ⟨w.heap.size,7,none⟩=some (.int .i64 pq):=cellsAt k1 7
 have d8:w2.cell? ⟨w.heap.size,8,none⟩=some (.slice pw nw cw):=cellsAt k1 8
 clear k1 hb2 HG1 HK1 HBW
 go_wp2_with fail
 refine Calls.mono (HC1.out w2 (HML.out.below HB2.out) (HS.out.below HB2.out) (HM.out.below HB2.out) (HW.out.below HB2.out)) ?_
 rintro e w3 ⟨rfl,hb3⟩
 have hs3:=hb3.size
 have HB3:Hid (Below w.heap.size w w3):=HB2.out.trans (hb3.mono (by omega))
 clear hb3 d0 d1 d2 d3 d4 d5 d6 d7 d8
 by_cases hk0:ke=0
 case neg=>
  have HBX:BX=false:=HTK.out hk0
  have HTX:TX=⟨#[]⟩:=HTN.out HBX
  have h0':(ke != 0)=true:=by simpa using hk0
  clear HRT HN HFo HY HX HXN HTY HTK HTN
  subst HBX HTX
  go_wp2_with fail
  go_ret
  exact ⟨rfl,HB3.out⟩
 case pos=>
 have HRT':=HRT.out hk0
 have HTY':Hid _:=HTY.out hk0
 subst hk0
 clear HTY HTK HRT
 cases hBX:BX with
 | false=>
   have HTX:TX=⟨#[]⟩:=HTN.out hBX
   clear HN HFo HY HX HXN HTY' HTN HRT'
   subst hBX HTX
   go_wp2_with fail
   go_ret
   exact ⟨rfl,HB3.out⟩
 | true=>
 obtain ⟨r1,r2⟩:=HTY'.out hBX
 have h12:¬ s.size < 12:=by intro h;unfold quietB at r2;simp [h] at r2
 have hx0:0 < s.size:=by omega
 have hx1:1 < s.size:=by omega
 have HID:Hid (repId s=256 * ((s[0].toNat:Nat):Int)+((s[1].toNat:Nat):Int)):=by show repId s=_;unfold repId;rw [byte_at s 0 hx0,byte_at s 1 hx1];rfl
 subst hBX
 rw [← r1] at HRT'
 clear r1 r2 HTY' HTN RTX
 obtain ⟨hT5,j,hrd⟩:=HRT'
 have HRD:Hid _:=hrd
 clear hrd
 obtain ⟨RC,RT,RR,RS⟩:=RPM
 simp only at *
 generalize (false || decide (j < RS.length))=CU at *
 generalize repId s=ID at *
 go_wp2_with fail
 refine Calls.mono (HRD.out w3) ?_
 rintro e w4 ⟨v,rfl,hb4,ho4⟩
 have hs4:=hb4.size
 have HB4:Hid (Below w.heap.size w w4):=HB3.out.trans (hb4.mono (by omega))
 obtain ⟨va,vc,hvv⟩:=rcown_slice ho4.out
 obtain ⟨vl,hvl⟩:∃ vl,vl=(RS.take j).length:=⟨_,rfl⟩
 rw [← hvl] at hvv
 subst hvv
 have HVL:Hid (RS=[]→vl=0):=fun h=>by rw [hvl,h];simp
 clear hb4 ho4 hvl HRD
 go_wp2_with fail
 obtain ⟨W5,hW5⟩:∃ W5,W5=w4.alloc (.cells #[.int .i64 ID,.bool true,.bool CU,.int .i64 RC,.string RR,.int .i64 RT,.slice va vl vc] 38):=⟨_,rfl⟩
 rw [← hW5]
 have HB5:Hid (Below w.heap.size w W5):=by rw [hW5];exact HB4.out.alloc (by omega) _
 have HM5:Hid (W5.heap[w4.heap.size]?=some (.cells #[.int .i64 ID,.bool true,.bool CU,.int .i64 RC,.string RR,.int .i64 RT,.slice va vl vc] 38 (0,0))):=by rw [hW5];exact heap_alloc_new w4 _
 have hs5:w4.heap.size+1≤W5.heap.size:=by rw [hW5];simp
 clear hW5
 have hm5:=HM5.out
 have x0:W5.cell? ⟨w4.heap.size,0,none⟩=some (.int .i64 ID):=cellsAt hm5 0
 have x1:W5.cell? ⟨w4.heap.size,1,none⟩=some (.bool true):=cellsAt hm5 1
 have x2:W5.cell? ⟨w4.heap.size,2,none⟩=some (.bool CU):=cellsAt hm5 2
 have x3:W5.cell? ⟨w4.heap.size,3,none⟩=some (.int .i64 RC):=cellsAt hm5 3
 have x4:W5.cell? ⟨w4.heap.size,4,none⟩=some (.string RR):=cellsAt hm5 4
 have x5:W5.cell? ⟨w4.heap.size,5,none⟩=some (.int .i64 RT):=cellsAt hm5 5
 have x6:W5.cell? ⟨w4.heap.size,6,none⟩=some (.slice va vl vc):=cellsAt hm5 6
 clear hm5
 have h12':decide ((s.size:Int) < 12)=false:=by simp;omega
 have h512:decide ((512:Int) < (TX.size:Int))=false:=by simp;omega
 have hy0:(0:Int) < (s.size:Int):=by omega
 have hy1:(1:Int) < (s.size:Int):=by omega
 have hid:(ID != wrap64 (wrap64 ((256:Int) * wrap64 ((s[0].toNat:Nat):Int))+wrap64 ((s[1].toNat:Nat):Int)))=false:=by rw [id8,HID.out];simp
 go_quiet (fail)
 obtain ⟨W6,hW6⟩:∃ W6,W6=W5.drewN nq:=⟨_,rfl⟩
 rw [← hW6]
 have HB6:Hid (Below w.heap.size w W6):=by rw [hW6];exact belowN HB5.out nq
 have HM6:Hid (W6.heap[w4.heap.size]?=some (.cells #[.int .i64 ID,.bool true,.bool CU,.int .i64 RC,.string RR,.int .i64 RT,.slice va vl vc] 38 (0,0))):=by rw [hW6];exact HM5.out
 have hs6:w4.heap.size+1≤W6.heap.size:=by rw [hW6];exact hs5
 clear hW6 hid h12' h512 x0 x1 x2 x3 x4 x5 x6 HM5 HB5 hs5
 go_wp2_with fail
 refine Calls.mono (read_b s W6) ?_
 intro e w7 hrd
 obtain ⟨i,a,c,o,r,y,p,l,k,rfl,hmv,hb7⟩:=rdP_is hrd
 have hs7:=hb7.size
 have HB7:Hid (∀ ob,Below w.heap.size w (w7.alloc ob)):=fun ob=>(HB6.out.trans (hb7.mono (by omega))).alloc (by omega) ob
 have hd:∀ ob,(w7.alloc ob).heap[w4.heap.size]?=some (.cells #[.int .i64 ID,.bool true,.bool CU,.int .i64 RC,.string RR,.int .i64 RT,.slice va vl vc] 38 (0,0)):=fun ob=>by rw [Below.heap_alloc _ _ _ (by omega),hb7.block _ (by omega)];exact HM6.out
 have x0:∀ ob,(w7.alloc ob).cell? ⟨w4.heap.size,0,none⟩=some (.int .i64 ID):=fun ob=>cellsAt (hd ob) 0
 have x1:∀ ob,(w7.alloc ob).cell? ⟨w4.heap.size,1,none⟩=some (.bool true):=fun ob=>cellsAt (hd ob) 1
 have x2:∀ ob,(w7.alloc ob).cell? ⟨w4.heap.size,2,none⟩=some (.bool CU):=fun ob=>cellsAt (hd ob) 2
 have x3:∀ ob,(w7.alloc ob).cell? ⟨w4.heap.size,3,none⟩=some (.int .i64 RC):=fun ob=>cellsAt (hd ob) 3
 have x4:∀ ob,(w7.alloc ob).cell? ⟨w4.heap.size,4,none⟩=some (.string RR):=fun ob=>cellsAt (hd ob) 4
 have x5:∀ ob,(w7.alloc ob).cell? ⟨w4.heap.size,5,none⟩=some (.int .i64 RT):=fun ob=>cellsAt (hd ob) 5
 have x6:∀ ob,(w7.alloc ob).cell? ⟨w4.heap.size,6,none⟩=some (.slice va vl vc):=fun ob=>cellsAt (hd ob) 6
 clear hd hb7 hrd HM6
 have hcase:(rdX s≠0∧RC=1∧RS=[])∨(rdX s=0∧0 < l∧RC=1)∨(rdX s=0∧RT=y∧RR=r):=by
  have hv:=hmv.out
  cases h:rdM s with
  | none=>
    have h2:=HN.out h
    injection h2 with q1 q2 q3 q4
    exact .inl ⟨HXN.out h,q1,q4⟩
  | some M=>
    rw [h] at hv
    obtain ⟨v,hsl,_,hx⟩:=hv
    have hl:l=M.rs.length∧r=M.R∧y=M.typ:=by
     obtain ⟨_,_,he,_,_⟩:=hsl
     simp only [he,Array.mk.injEq,List.cons.injEq,Value.int.injEq,Value.string.injEq,Value.slice.injEq,true_and,and_true] at hx
     obtain ⟨_,_,_,_,h5,h6,_,h8,_⟩:=hx
     exact ⟨h8,h5,h6⟩
    obtain ⟨e1,e2,e3⟩:=hl
    have x1:=HX.out M h
    by_cases h0:M.rs.length=0
    ·obtain ⟨g1,g2⟩:=HY.out M h h0
     exact .inr (.inr ⟨x1,by rw [e3];exact g1,by rw [e2];exact g2⟩)
    ·have h2:=HFo.out M h h0
     injection h2 with q1 q2 q3 q4
     exact .inr (.inl ⟨x1,by omega,q1⟩)
 clear hmv HN HFo HY HX HXN
 generalize rdX s=X at *
 rcases hcase with ⟨h1,h2,h3⟩ | ⟨h1,h2,h3⟩ | ⟨h1,h2,h3⟩
 ·have hvl:=HVL.out h3
  have h1':(X != 0)=true:=by simpa using h1
  subst h2 hvl
  clear h3 HVL
  go_wp2_with fail
  go_ret
  exact ⟨rfl,HB7.out _⟩
 ·subst h1 h3
  have hl':decide ((0:Int) < (l:Int))=true:=by simp;omega
  go_wp2_with fail
  go_ret
  exact ⟨rfl,HB7.out _⟩
 ·subst h1 h2 h3
  by_cases hrc:RC=1
  ·subst hrc
   by_cases hl:0 < l
   ·have hl':decide ((0:Int) < (l:Int))=true:=by simp;omega
    go_wp2_with fail
    go_ret
    exact ⟨rfl,HB7.out _⟩
   ·have hl0:l=0:=by omega
    subst hl0
    go_wp2_with fail
    go_ret
    exact ⟨rfl,HB7.out _⟩
  ·have hrc':(RC == 1)=false:=by simpa using hrc
   go_wp2_with fail
   go_ret
   exact ⟨rfl,HB7.out _⟩
end Go.Proofs.YtignmeaeibaejaaGreatDoor
