import Derived.Test.YtignmeaeibaejaaGreatDoorV49
namespace Go.Proofs.YtignmeaeibaejaaGreatDoor
open Go.RowKit
def rplT (s here:ByteArray) (sv:List Sv.Svc) (ms:List Mem) (p:Pl) (wh:List Wh.Whe):ByteArray:=if knE here sv ms p wh=0 then (if quietB s=true then ⟨#[]⟩ else repT s here sv ms p wh) else ⟨#[]⟩
def rplB (s here:ByteArray) (sv:List Sv.Svc) (ms:List Mem) (p:Pl) (wh:List Wh.Whe):Bool:=if knE here sv ms p wh=0 then !quietB s else false
theorem and128f:∀ n:Fin 256,(bits BinOp.and IntKind.u8 ((n.val:Nat):Int) 128 != 0)=decide (128≤n.val):=by decide +kernel
theorem and128 (x:UInt8):(bits BinOp.and IntKind.u8 ((x.toNat:Nat):Int) 128 != 0)=decide (128≤x.toNat):=and128f ⟨x.toNat,x.toNat_lt⟩
theorem or8f:∀ a b:Fin 256,bits BinOp.or IntKind.i64 (wrap64 (wrap64 ((a.val:Nat):Int) * 256)) (wrap64 ((b.val:Nat):Int))=256 * ((a.val:Nat):Int)+((b.val:Nat):Int):=by decide +kernel
theorem or8 (a b:UInt8):bits BinOp.or IntKind.i64 (wrap64 (wrap64 ((a.toNat:Nat):Int) * 256)) (wrap64 ((b.toNat:Nat):Int))=256 * ((a.toNat:Nat):Int)+((b.toNat:Nat):Int):=or8f ⟨a.toNat,a.toNat_lt⟩ ⟨b.toNat,b.toNat_lt⟩
theorem byte_at (s:ByteArray) (k:Nat) (h:k < s.size):s[k]=s.data.toList.getD k 0:=by
 have h2:k < s.data.toList.length:=by simpa using h
 rw [List.getD,List.getElem?_eq_getElem h2]
 rfl
set_option maxHeartbeats 6400000 in
set_option maxRecDepth 100000 in
theorem kreply_any (here:ByteArray) (ps pm pw:Option Addr) (ns cs nm cm nw cw:Nat) (px py pz ph pq:Int) (s:ByteArray) (sv:List Sv.Svc) (ms:List Mem) (wh:List Wh.Whe) (w:World) (hml:ML w) (hk:KnOk here sv ms ⟨px,py,pz,ph,pq⟩ wh) (hs:Sv.Sl w (.slice ps ns cs) sv) (hm:Sl w (.slice pm nm cm) ms) (hw:Wh.Sl w (.slice pw nw cw) wh) :
 Calls Tryz.prog 13 #[.agg (knA here (.slice ps ns cs) (.slice pm nm cm) px py pz ph pq (.slice pw nw cw)),.string s] w fun e w'=>e=.returned (.tuple #[.string (if quietB s=true then ⟨#[]⟩ else repT s here sv ms ⟨px,py,pz,ph,pq⟩ wh),.bool (!quietB s),.int .i64 0])∧Below w.heap.size w w':=by
 have HS:Hid (Sv.Sl w (.slice ps ns cs) sv):=hs
 have HM:Hid (Sl w (.slice pm nm cm) ms):=hm
 have HW:Hid (Wh.Sl w (.slice pw nw cw) wh):=hw
 have hMS:=fun (W:World) (h:ML W) (a1:Sv.Sl W (.slice ps ns cs) sv) (a2:Sl W (.slice pm nm cm) ms) (a3:Wh.Sl W (.slice pw nw cw) wh)=>kmessage_any here ps pm pw ns cs nm cm nw cw px py pz ph pq s sv ms wh W h hk a1 a2 a3
 have HMS:Hid _:=hMS
 have HML:Hid (ML w):=hml
 have hok:=repM_ok (s:=s) hk
 have HFE:Hid (fitE (repId s) (repM s here sv ms ⟨px,py,pz,ph,pq⟩ wh).code (repM s here sv ms ⟨px,py,pz,ph,pq⟩ wh).typ true false (repM s here sv ms ⟨px,py,pz,ph,pq⟩ wh).R (repM s here sv ms ⟨px,py,pz,ph,pq⟩ wh).rs 512=0):=rp_fits hok (repId_in s)
 have HRT:Hid (repT s here sv ms ⟨px,py,pz,ph,pq⟩ wh=fitT (repId s) (repM s here sv ms ⟨px,py,pz,ph,pq⟩ wh).code (repM s here sv ms ⟨px,py,pz,ph,pq⟩ wh).typ true false (repM s here sv ms ⟨px,py,pz,ph,pq⟩ wh).R (repM s here sv ms ⟨px,py,pz,ph,pq⟩ wh).rs 512):=rfl
 have HRS:Hid ((repM s here sv ms ⟨px,py,pz,ph,pq⟩ wh).R.size≤maxLen):=by have h:=(chkN_zero hok.name).1;show _≤_;unfold maxLen;omega
 have HRO:Hid (∀ r∈(repM s here sv ms ⟨px,py,pz,ph,pq⟩ wh).rs,r.ok):=fun r hr=>rec_ok (hok.rs r hr)
 clear hs hm hw hMS hk hml hok
 generalize repT s here sv ms ⟨px,py,pz,ph,pq⟩ wh=RTX at *
 generalize repM s here sv ms ⟨px,py,pz,ph,pq⟩ wh=RPM at *
 obtain ⟨RC,RT,RR,RS⟩:=RPM
 simp only at *
 generalize hTX:(if quietB s=true then (⟨#[]⟩:ByteArray) else RTX)=TX at *
 have HTX:Hid ((if quietB s=true then (⟨#[]⟩:ByteArray) else RTX)=TX):=hTX
 generalize hOB:(!quietB s)=OB at *
 have HOB:Hid ((!quietB s)=OB):=hOB
 clear hTX hOB
 by_cases h12:s.size < 12
 ·have HQ:Hid (quietB s=true):=by show quietB s=true;unfold quietB;simp [h12]
  have h12':(s.size:Int) < 12:=by omega
  go_enter Tryz.func13,Tryz.ntmps13
  go_wp2_with fail
  go_ret3
  have e1:TX=⟨#[]⟩:=by rw [← HTX.out,HQ.out];rfl
  have e2:OB=false:=by rw [← HOB.out,HQ.out];rfl
  exact ⟨by rw [e1,e2];rfl,(Below.refl _ _).alloc (Nat.le_refl _) _⟩
 ·have h12':¬ (s.size:Int) < 12:=by omega
  have hx0:0 < s.size:=by omega
  have hx1:1 < s.size:=by omega
  have hx2:2 < s.size:=by omega
  have hb2:(bits BinOp.and IntKind.u8 ((s[2].toNat:Nat):Int) 128 != 0)=decide (128≤s[2].toNat):=and128 s[2]
  have HQ:Hid (quietB s=decide (128≤s[2].toNat)):=by show quietB s=_;unfold quietB;rw [byte_at s 2 hx2];simp [h12]
  have HID:Hid (repId s=256 * ((s[0].toNat:Nat):Int)+((s[1].toNat:Nat):Int)):=by show repId s=_;unfold repId;rw [byte_at s 0 hx0,byte_at s 1 hx1];rfl
  by_cases hq:128≤s[2].toNat
  ·rw [decide_eq_true hq] at hb2 HQ
   go_enter Tryz.func13,Tryz.ntmps13
   go_wp2_with fail
   go_ret3
   have e1:TX=⟨#[]⟩:=by rw [← HTX.out,HQ.out];rfl
   have e2:OB=false:=by rw [← HOB.out,HQ.out];rfl
   exact ⟨by rw [e1,e2];rfl,(Below.refl _ _).alloc (Nat.le_refl _) _⟩
  ·rw [decide_eq_false hq] at hb2 HQ
   have HT1:Hid (TX=RTX):=by show TX=RTX;rw [← HTX.out,HQ.out];rfl
   have HO1:Hid (OB=true):=by show OB=true;rw [← HOB.out,HQ.out];rfl
   clear hq HTX HOB HQ
   generalize repId s=ID at *
   have hbW:Below w.heap.size w (w.alloc (.cells (knA here (.slice ps ns cs) (.slice pm nm cm) px py pz ph pq (.slice pw nw cw)) 45)):=(Below.refl _ _).alloc (Nat.le_refl _) _
   go_enter Tryz.func13,Tryz.ntmps13
   go_wp2_with fail
   refine Calls.mono (HMS.out _ (HML.out.below hbW) (HS.out.below hbW) (HM.out.below hbW) (HW.out.below hbW)) ?_
   rintro e w1 ⟨v,rfl,ho,hb1⟩
   obtain ⟨pv,cv,hvv⟩:=rcown_slice ho
   obtain ⟨nv,hnv⟩:∃ nv,nv=RS.length:=⟨_,rfl⟩
   have hcap:RS.length≤cv:=by
    rcases ho.2 with ⟨h,h0⟩ | ⟨g,c,cur,h,_,_,hnc,_⟩
    ·rw [hvv] at h;injection h with _ _ h3;omega
    ·rw [hvv] at h;injection h with _ _ h3;omega
   subst hvv
   have hs1:w.heap.size+1≤w1.heap.size:=by have:=hb1.size;simpa using this
   have HB1:Hid (Below w.heap.size w w1):=hbW.trans (hb1.mono (by simp<;>omega))
   have HO5:Hid (Rc.Own w.heap.size w1 (.slice pv RS.length cv) RS):=ho.mono (by simp<;>omega)
   clear ho hb1 hnv hbW
   have hy0:(0:Int) < (s.size:Int):=by omega
   have hy1:(1:Int) < (s.size:Int):=by omega
   go_wp2_with fail
   go_region
   go_wp2_with fail
   have hor:bits BinOp.or IntKind.i64 (wrap64 (wrap64 ((s[0].toNat:Nat):Int) * 256)) (wrap64 ((s[1].toNat:Nat):Int))=ID:=(or8 s[0] s[1]).trans HID.out.symm
   rw [hor]
   clear hor
   have hbX:Below w.heap.size w (w1.alloc (.cells #[.int .i64 ID,.bool true,.bool false,.int .i64 RC,.string RR,.int .i64 RT,.slice pv RS.length cv] 38)).drew:=(HB1.out.alloc (by omega) _).drew
   have hslX:Rc.Sl (w1.alloc (.cells #[.int .i64 ID,.bool true,.bool false,.int .i64 RC,.string RR,.int .i64 RT,.slice pv RS.length cv] 38)).drew (.slice pv RS.length cv) RS:=Rc.own_names (HO5.out.below ((Below.refl _ _).alloc (Nat.le_refl _) _).drew) HRO.out
   refine (fit_any ID RC RT 512 true false RR RS pv cv _ (HML.out.below hbX) HRS.out hslX hcap).mono ?_
   rintro e w2 ⟨rfl,hb2'⟩
   have HB2:Hid (Below w.heap.size w w2):=hbX.trans (hb2'.mono (by simp<;>omega))
   rw [HFE.out,← HRT.out]
   clear hb2' hbX hslX
   go_wp2_with fail
   go_ret3
   exact ⟨by rw [HT1.out,HO1.out];rfl,HB2.out⟩
set_option maxHeartbeats 6400000 in
set_option maxRecDepth 100000 in
theorem Reply_any (here:ByteArray) (ps pm pw:Option Addr) (ns cs nm cm nw cw:Nat) (px py pz ph pq:Int) (s:ByteArray) (sv:List Sv.Svc) (ms:List Mem) (wh:List Wh.Whe) (w:World) (hml:ML w) (hh:here.size≤maxLen) (hs:Sv.Sl w (.slice ps ns cs) sv) (hm:Sl w (.slice pm nm cm) ms) (hw:Wh.Sl w (.slice pw nw cw) wh) :
 Calls Tryz.prog 6 #[.string s,.string here,.slice ps ns cs,.slice pm nm cm,.agg #[.int .i64 px,.int .i64 py,.int .i64 pz,.int .i64 ph,.int .i64 pq],.slice pw nw cw] w fun e w'=>e=.returned (.tuple #[.string (rplT s here sv ms ⟨px,py,pz,ph,pq⟩ wh),.bool (rplB s here sv ms ⟨px,py,pz,ph,pq⟩ wh),.int .i64 (knE here sv ms ⟨px,py,pz,ph,pq⟩ wh)])∧Below w.heap.size w w':=by
 have HS:Hid (Sv.Sl w (.slice ps ns cs) sv):=hs
 have HM:Hid (Sl w (.slice pm nm cm) ms):=hm
 have HW:Hid (Wh.Sl w (.slice pw nw cw) wh):=hw
 have HML:Hid (ML w):=hml
 have HCK:Hid (∀ W,Sv.Sl W (.slice ps ns cs) sv→Sl W (.slice pm nm cm) ms→Wh.Sl W (.slice pw nw cw) wh→Calls Tryz.prog 12 #[.agg (knA here (.slice ps ns cs) (.slice pm nm cm) px py pz ph pq (.slice pw nw cw))] W fun e w'=>e=.returned (.int .i64 (knE here sv ms ⟨px,py,pz,ph,pq⟩ wh))∧Below W.heap.size W w'):=fun W a1 a2 a3=>kcheck_any here ps pm pw ns cs nm cm nw cw px py pz ph pq sv ms wh W hh a1 a2 a3
 have HCR:Hid (knE here sv ms ⟨px,py,pz,ph,pq⟩ wh=0→∀ W,ML W→Sv.Sl W (.slice ps ns cs) sv→Sl W (.slice pm nm cm) ms→Wh.Sl W (.slice pw nw cw) wh→Calls Tryz.prog 13 #[.agg (knA here (.slice ps ns cs) (.slice pm nm cm) px py pz ph pq (.slice pw nw cw)),.string s] W fun e w'=>e=.returned (.tuple #[.string (if quietB s=true then ⟨#[]⟩ else repT s here sv ms ⟨px,py,pz,ph,pq⟩ wh),.bool (!quietB s),.int .i64 0])∧Below W.heap.size W w'):=fun h W h2 a1 a2 a3=>kreply_any here ps pm pw ns cs nm cm nw cw px py pz ph pq s sv ms wh W h2 (knOk h) a1 a2 a3
 have HT1:Hid (knE here sv ms ⟨px,py,pz,ph,pq⟩ wh=0→rplT s here sv ms ⟨px,py,pz,ph,pq⟩ wh=(if quietB s=true then ⟨#[]⟩ else repT s here sv ms ⟨px,py,pz,ph,pq⟩ wh)∧rplB s here sv ms ⟨px,py,pz,ph,pq⟩ wh = !quietB s):=fun h=>by unfold rplT rplB;rw [if_pos h,if_pos h];exact ⟨rfl,rfl⟩
 have HT2:Hid (knE here sv ms ⟨px,py,pz,ph,pq⟩ wh≠0→rplT s here sv ms ⟨px,py,pz,ph,pq⟩ wh=⟨#[]⟩∧rplB s here sv ms ⟨px,py,pz,ph,pq⟩ wh=false):=fun h=>by unfold rplT rplB;rw [if_neg h,if_neg h];exact ⟨rfl,rfl⟩
 clear hs hm hw hml
 generalize rplT s here sv ms ⟨px,py,pz,ph,pq⟩ wh=TX at *
 generalize rplB s here sv ms ⟨px,py,pz,ph,pq⟩ wh=BX at *
 generalize knE here sv ms ⟨px,py,pz,ph,pq⟩ wh=ke at *
 generalize (if quietB s=true then (⟨#[]⟩:ByteArray) else repT s here sv ms ⟨px,py,pz,ph,pq⟩ wh)=TY at *
 generalize (!quietB s)=BY at *
 go_enter Tryz.func6,Tryz.ntmps6
 go_wp2_with fail
 obtain ⟨W,hW⟩:∃ W,W=(w.alloc (.cells #[.int .i64 px,.int .i64 py,.int .i64 pz,.int .i64 ph,.int .i64 pq] 25)).alloc (.cells (knA here (.slice ps ns cs) (.slice pm nm cm) px py pz ph pq (.slice pw nw cw)) 45):=⟨_,rfl⟩
 rw [← hW]
 have hbW:Below w.heap.size w W:=by rw [hW];exact ((Below.refl _ _).alloc (Nat.le_refl _) _).alloc (by simp) _
 have hG1:W.heap[w.heap.size+1]?=some (.cells (knA here (.slice ps ns cs) (.slice pm nm cm) px py pz ph pq (.slice pw nw cw)) 45 (0,0)):=by
  rw [hW]
  have h:=heap_alloc_new (w.alloc (.cells #[.int .i64 px,.int .i64 py,.int .i64 pz,.int .i64 ph,.int .i64 pq] 25)) (.cells (knA here (.slice ps ns cs) (.slice pm nm cm) px py pz ph pq (.slice pw nw cw)) 45)
  simpa using h
 have hsW:w.heap.size+2≤W.heap.size:=by rw [hW];simp
 clear hW
 refine (HCK.out W (HS.out.below hbW) (HM.out.below hbW) (HW.out.below hbW)).mono ?_
 rintro e w1 ⟨rfl,hb1⟩
 have hs1:=hb1.size
 have HB1:Hid (Below w.heap.size w w1):=hbW.trans (hb1.mono (by omega))
 have k1:w1.heap[w.heap.size+1]?=_:=(hb1.block _ (by omega)).trans hG1
 have d0:w1.cell? ⟨w.heap.size+1,0,none⟩=some (.string here):=cellsAt k1 0
 have d1:w1.cell? ⟨w.heap.size+1,1,none⟩=some (.slice ps ns cs):=cellsAt k1 1
 have d2:w1.cell? ⟨w.heap.size+1,2,none⟩=some (.slice pm nm cm):=cellsAt k1 2
 have d3:w1.cell? ⟨w.heap.size+1,3,none⟩=some (.int .i64 px):=cellsAt k1 3
 have d4:w1.cell? ⟨w.heap.size+1,4,none⟩=some (.int .i64 py):=cellsAt k1 4
 have d5:w1.cell? ⟨w.heap.size+1,5,none⟩=some (.int .i64 pz):=cellsAt k1 5
 have d6:w1.cell? ⟨w.heap.size+1,6,none⟩=some (.int .i64 ph):=cellsAt k1 6
 have d7:w1.cell? ⟨w.heap.size+1,7,none⟩=some (.int .i64 pq):=cellsAt k1 7
 have d8:w1.cell? ⟨w.heap.size+1,8,none⟩=some (.slice pw nw cw):=cellsAt k1 8
 clear k1 hG1 hb1 hbW
 by_cases h0:ke=0
 ·obtain ⟨r1,r2⟩:=HT1.out h0
  have H1:Hid (TX=TY):=r1
  have H2:Hid (BX=BY):=r2
  have HCR':Hid _:=HCR.out h0
  clear r1 r2 HT1 HT2 HCR
  subst h0
  go_wp2_with fail
  refine Calls.mono (HCR'.out w1 (HML.out.below HB1.out) (HS.out.below HB1.out) (HM.out.below HB1.out) (HW.out.below HB1.out)) ?_
  rintro e w2 ⟨rfl,hb2⟩
  have HB2:Hid (Below w.heap.size w w2):=HB1.out.trans (hb2.mono (by omega))
  clear hb2
  go_wp2_with fail
  go_ret3
  exact ⟨by rw [H1.out,H2.out];rfl,HB2.out⟩
 ·obtain ⟨r1,r2⟩:=HT2.out h0
  have H1:Hid (TX=⟨#[]⟩):=r1
  have H2:Hid (BX=false):=r2
  have h0':(ke != 0)=true:=by simpa using h0
  clear r1 r2 HT1 HT2 HCR
  go_wp2_with fail
  go_ret3
  exact ⟨by rw [H1.out,H2.out];rfl,HB1.out⟩
end Go.Proofs.YtignmeaeibaejaaGreatDoor
