import Derived.Test.YtffdoiokmiklgaaGreatDoortr16
import Derived.Test.YtffdoiokmiklgaaGreatDoortr15
namespace Go.Proofs.YtffdoiokmiklgaaGreatDoor
open Go.RowKit
theorem putL_ok {rs:List Rum} {m:Mem} (h:∀ r∈rs,r.m.name.size≤maxLen) (hm:m.name.size≤maxLen):∀ r∈putL rs m,r.m.name.size≤maxLen:=by
 intro r hr
 unfold putL at hr
 split at hr
 ·split at hr
  ·rcases List.mem_append.1 hr with hr | hr
   ·exact h r (List.mem_of_mem_eraseIdx hr)
   ·simp at hr;subst hr;exact hm
  ·exact h r hr
 ·rcases List.mem_append.1 hr with hr | hr
  ·exact h r hr
  ·simp at hr;subst hr;exact hm
set_option maxHeartbeats 6400000 in
set_option maxRecDepth 100000 in
theorem tellOn_any (L b:Nat) (n:Nd) (t:ByteArray) (m:Mem) (w:World) (h:Wk L w b n) (hL:L≤b) (hms:n.ms.length≤1000) (hrs:chkR n.rs=0) (hm:mOf n.ms t=m) (he:m.e=0) (hsz:m.name.size≤maxLen) :
 Calls Tryz.prog 135 #[.pointer (some ⟨b,0,none⟩),.string t] w fun e w'=>e=.returned (.int .i64 (putE n.rs m))∧Sh (fun k=>k=b) w w'∧(putE n.rs m=0→Wk L w' b { n with rs:=putL n.rs m }):=by
 have HWK:Hid (Wk L w b n):=h
 have hbl:=h.lt
 obtain ⟨vm,vr,vs,vg,vw,h1,h2,h3,h4⟩:=h
 have HIS:Hid (NdIs w n vm vr vs vg vw):=h2.is h4
 obtain ⟨am,cm,hvm,_⟩:=own_slice h2.ms
 obtain ⟨ar,cr,hvr,_⟩:=own_slice h2.rs
 subst hvm hvr
 have HMB:Hid (Calls Tryz.prog 93 #[.pointer (some ⟨b,0,none⟩),.string t] w fun e w'=>e=.returned (.tuple #[.agg #[.string m.name,.int .i64 m.state,.int .i64 m.life,.int .i64 m.addr,.bool m.server],.bool (fstM n.ms t).isSome])∧Below w.heap.size w w'):=by
  have hq:=wmember_any b am n.ms.length cm n.ms t w (cellsAt h1 2) HIS.out.ms hms
  rw [hm] at hq;exact hq
 have HPT:Hid (∀ W,Below w.heap.size w W→Calls Tryz.prog 195 #[.slice ar n.rs.length cr,.agg #[.string m.name,.int .i64 m.state,.int .i64 m.life,.int .i64 m.addr,.bool m.server]] W fun e w'=>∃ a k c,e=.returned (.tuple #[.slice a k c,.int .i64 (putE n.rs m)])∧Below W.heap.size W w'∧(putE n.rs m=0→ROwn W.heap.size w' (.slice a k c) (putL n.rs m))):=fun W hW=>put_any n.rs _ m W (HIS.out.rs.below hW) hsz hrs he
 have HFIN:Hid (∀ W w1 a k c,Below w.heap.size w W→Below W.heap.size W w1→(putE n.rs m=0→ROwn W.heap.size w1 (.slice a k c) (putL n.rs m))→putE n.rs m=0→Wk L (w1.setCell ⟨b,3,none⟩ (.slice a k c)) b { n with rs:=putL n.rs m }):=fun W w1 a k c hW h1 h2 h0=>
  (HWK.out.below hW).set_rs (by have:=hW.size;omega) h1 (h2 h0) (putL_ok h4.rs hsz)
 have HX:Hid (∀ W,Below w.heap.size w W→W.heap[b]?=some (.cells (ndA n (.slice am n.ms.length cm) (.slice ar n.rs.length cr) vs vg vw) 133 (0,0))):=fun W hW=>(hW.block _ hbl).trans h1
 have y2:w.cell? ⟨b,2,none⟩=_:=cellsAt h1 2
 generalize putE n.rs m=pe at *
 generalize hkr:n.rs.length=kr at *
 generalize hkm:n.ms.length=km at *
 clear hkr hkm h1 h2 h3 h4 hm he hrs
 generalize (fstM n.ms t).isSome=fd at *
 obtain ⟨mn,st,lf,ad,sv⟩:=m
 simp only at HMB HPT hsz
 go_enter Tryz.func135,Tryz.ntmps135
 go_wp2_with fail
 refine HMB.out.mono ?_
 rintro e w1 ⟨rfl,hb1⟩
 obtain ⟨W2,hW2⟩:∃ W2,W2=w1.alloc (.cells #[.string mn,.int .i64 st,.int .i64 lf,.int .i64 ad,.bool sv] 56):=⟨_,rfl⟩
 have hb2:Below w.heap.size w W2:=by rw [hW2];exact hb1.alloc hb1.size _
 have HB2:Hid (Below w.heap.size w W2):=hb2
 have hg2:W2.heap[w1.heap.size]?=some (.cells #[.string mn,.int .i64 st,.int .i64 lf,.int .i64 ad,.bool sv] 56 (0,0)):=by rw [hW2];exact heap_alloc_new w1 _
 obtain ⟨x0,x1,x2,x3,x4⟩:=cells5 hg2
 have y3:W2.cell? ⟨b,3,none⟩=some (.slice ar kr cr):=cellsAt (HX.out W2 hb2) 3
 go_upto_region 2 with fail
 rw [← hW2]
 clear hW2 hb1 hb2 hg2 y2 HMB
 have hb2':b < W2.heap.size:=by have:=HB2.out.size;omega
 go_region_with (first | (go_at_call 195;refine (HPT.out _ HB2.out.drew).mono ?_;rintro e w3 ⟨a,k,c,rfl,hb3,ho3⟩;have HB3:Hid (Below W2.heap.size W2 w3):=(Below.refl W2.heap.size W2).drew.trans hb3;have HO3:Hid (pe=0→Wk L (w3.setCell ⟨b,3,none⟩ (.slice a k c)) b { n with rs:=putL n.rs ⟨mn,st,lf,ad,sv⟩ }):=HFIN.out _ _ a k c HB2.out.drew hb3 ho3;have hgx:=HX.out w3 (HB2.out.trans (HB3.out.mono HB2.out.size));have z3:w3.cell? ⟨b,3,none⟩=some (.slice ar kr cr):=cellsAt hgx 3;have zf:w3.frozen? ⟨b,3,none⟩=false:=frozen_of hgx 3;clear hb3 ho3 hgx))
 all_goals
  go_wp2_with fail
  go_ret
  exact ⟨rfl,((Sh.of HB2.out).next HB3.out).setCell (S:=fun k=>k=b) rfl _,HO3.out⟩
theorem refL_ok {ms:List Mem} {p:Nat} {f:Bool} (h:∀ m∈ms,m.name.size≤maxLen):∀ m∈refL ms p f,m.name.size≤maxLen:=by
 intro m hm
 unfold refL at hm
 split at hm
 ·rcases List.mem_or_eq_of_mem_set hm with hm | rfl
  ·exact h m hm
  ·exact ns_get h p
 ·exact h m hm
theorem refE_of {ms:List Mem} {p:Nat} {f:Bool} (h:refR ms p f=true):refE ms p f=0:=by
 unfold refR at h
 unfold refE
 rw [Bool.and_eq_true] at h
 obtain ⟨h1,h2⟩:=h
 simp only [Bool.not_eq_true'] at h2
 rw [h2];simp
set_option maxHeartbeats 12800000 in
set_option maxRecDepth 100000 in
theorem refute_any (L b:Nat) (n:Nd) (w:World) (h:Wk L w b n) (hL:L≤b) (hms:chk n.ms=0) (hrs:chkR n.rs=0) (hl:labB n.name=true) :
 Calls Tryz.prog 136 #[.pointer (some ⟨b,0,none⟩)] w fun e w'=>e=.returned (.int .i64 (rfE n))∧Sh (fun k=>k=b) w w'∧Hid (rfE n=0→Wk L w' b (rfN n)):=by
 have HWK:Hid (Wk L w b n):=h
 have hbl:=h.lt
 obtain ⟨vm,vr,vs,vg,vw,h1,h2,h3,h4⟩:=h
 have HIS:Hid (NdIs w n vm vr vs vg vw):=h2.is h4
 obtain ⟨am,cm,hvm,_⟩:=own_slice h2.ms
 subst hvm
 have HRF:Hid (∀ W,Below w.heap.size w W→Calls Tryz.prog 196 #[.slice am n.ms.length cm,.string n.name] W fun e w'=>∃ a k c,e=.returned (.tuple #[.slice a k c,.bool (refR n.ms (rfP n) (rfF n)),.int .i64 (refE n.ms (rfP n) (rfF n))])∧Below W.heap.size W w'∧(refE n.ms (rfP n) (rfF n)=0→Own W.heap.size w' (.slice a k c) (rfL n))):=fun W hW=>by
  refine (refute_good n.ms _ n.name W (HIS.out.ms.below hW) hms h4.name hl (rfP n) (rfF n) (at_pos (chk_zero hms).2.1 n.name)).mono ?_
  rintro e w' ⟨v',rfl,hb,hx,ho⟩
  by_cases h0:refE n.ms (rfP n) (rfF n)=0
  ·obtain ⟨a,c,rfl,_⟩:=own_slice (ho h0)
   exact ⟨a,_,c,rfl,hb,fun _=>ho h0⟩
  ·rw [hx h0]
   exact ⟨none,0,0,rfl,hb,fun h=>absurd h h0⟩
 have HS1:Hid (∀ W w1 a k c,Below w.heap.size w W→Below W.heap.size W w1→(refE n.ms (rfP n) (rfF n)=0→Own W.heap.size w1 (.slice a k c) (rfL n))→refE n.ms (rfP n) (rfF n)=0→Wk L (w1.setCell ⟨b,2,none⟩ (.slice a k c)) b { n with ms:=rfL n }):=fun W w1 a k c hW h1 h2 h0=>
  (HWK.out.below hW).set_ms (by have:=hW.size;omega) h1 (h2 h0) (refL_ok h4.ms)
 have HX:Hid (∀ W,Below w.heap.size w W→W.heap[b]?=some (.cells (ndA n (.slice am n.ms.length cm) vr vs vg vw) 133 (0,0))):=fun W hW=>(hW.block _ hbl).trans h1
 have HTO:Hid (∀ W,refR n.ms (rfP n) (rfF n)=true→Wk L W b { n with ms:=rfL n }→Calls Tryz.prog 135 #[.pointer (some ⟨b,0,none⟩),.string n.name] W fun e w'=>e=.returned (.int .i64 (putE n.rs (rfM n)))∧Sh (fun k=>k=b) W w'∧(putE n.rs (rfM n)=0→Wk L w' b { n with ms:=rfL n,rs:=putL n.rs (rfM n) })):=fun W hR hW=>by
  obtain ⟨_,_,f3,f4,f5,f6,f7⟩:=rf_facts hms hR
  exact tellOn_any L b { n with ms:=rfL n } n.name (rfM n) W hW hL (by show (rfL n).length≤1000;rw [f3,List.length_set];have:=(chk_zero hms).1;omega) hrs rfl f5 (by rw [f4];show (n.ms.getD (rfP n) dm).name.size≤maxLen;rw [f6];exact h4.name)
 have HE:Hid (refR n.ms (rfP n) (rfF n)=true→rfE n=putE n.rs (rfM n)∧rfN n={ n with ms:=rfL n,rs:=putL n.rs (rfM n) }):=fun hR=>by
  unfold rfE rfN
  rw [if_pos (refE_of hR),if_pos hR,if_pos hR]
  exact ⟨rfl,rfl⟩
 have HE2:Hid (refR n.ms (rfP n) (rfF n)=false→rfE n=refE n.ms (rfP n) (rfF n)∧rfN n={ n with ms:=rfL n }):=fun hR=>by
  unfold rfE rfN
  rw [hR]
  simp only [Bool.false_eq_true,if_false]
  refine ⟨?_,trivial⟩
  split
  ·rename_i h;exact h.symm
  ·rfl
 have HEZ:Hid (refR n.ms (rfP n) (rfF n)=true→refE n.ms (rfP n) (rfF n)=0):=fun hR=>refE_of hR
 have y0:w.cell? ⟨b,0,none⟩=some (.string n.name):=cellsAt h1 0
 have y2:w.cell? ⟨b,2,none⟩=some (.slice am n.ms.length cm):=cellsAt h1 2
 have HNM:Hid (∀ W,Wk L W b { n with ms:=rfL n }→W.cell? ⟨b,0,none⟩=some (.string n.name)):=fun W hW=>by
  obtain ⟨_,_,_,_,_,g1,_⟩:=hW
  exact cellsAt g1 0
 generalize rfE n=res at *
 generalize refE n.ms (rfP n) (rfF n)=re at *
 generalize refR n.ms (rfP n) (rfF n)=rr at *
 generalize putE n.rs (rfM n)=pe at *
 generalize hkm:n.ms.length=km at *
 clear hkm h1 h2 h3 h4 hms hrs
 go_enter Tryz.func136,Tryz.ntmps136
 go_wp2_with fail
 go_region_with (first | (go_at_call 196;refine (HRF.out _ (Below.refl _ _).drew).mono ?_;rintro e w1 ⟨a,k,c,rfl,hb1,ho1⟩;have HB1:Hid (Below w.heap.size w w1):=(Below.refl w.heap.size w).drew.trans hb1;have HO1:Hid (re=0→Wk L (w1.setCell ⟨b,2,none⟩ (.slice a k c)) b { n with ms:=rfL n }):=HS1.out _ _ a k c (Below.refl _ _).drew hb1 ho1;have hgx:=HX.out w1 HB1.out;have z2:w1.cell? ⟨b,2,none⟩=some (.slice am km cm):=cellsAt hgx 2;have zf:w1.frozen? ⟨b,2,none⟩=false:=frozen_of hgx 2;have HG1:Hid (w1.heap[b]?=some (.cells (ndA n (.slice am km cm) vr vs vg vw) 133 (0,0))):=hgx;clear hb1 ho1 hgx))
 all_goals
  obtain ⟨W2,hW2⟩:∃ W2,W2=w1.setCell ⟨b,2,none⟩ (.slice a k c):=⟨_,rfl⟩
  rw [← hW2] at HO1
  have HSH:Hid (Sh (fun k=>k=b) w W2):=by rw [hW2];exact (Sh.of HB1.out).setCell (S:=fun k=>k=b) rfl _
  rw [← hW2]
  clear hW2 z2 zf y0 y2
  cases rr
  ·obtain ⟨e1,e2⟩:=HE2.out rfl
   have HR:Hid (res=re):=e1
   have HN:Hid (rfN n={ n with ms:=rfL n }):=e2
   clear e1 e2 HE HE2 HTO
   go_wp2_with fail
   go_ret
   exact ⟨ret_int HR.out.symm,HSH.out,fun h=>by rw [HN.out];exact HO1.out (HR.out.symm.trans h)⟩
  ·obtain ⟨e1,e2⟩:=HE.out rfl
   have HR:Hid (res=pe):=e1
   have HN:Hid (rfN n={ n with ms:=rfL n,rs:=putL n.rs (rfM n) }):=e2
   have hwk:=HO1.out (HEZ.out rfl)
   have HTC:Hid (Calls Tryz.prog 135 #[.pointer (some ⟨b,0,none⟩),.string n.name] W2 fun e w'=>e=.returned (.int .i64 pe)∧Sh (fun k=>k=b) W2 w'∧(pe=0→Wk L w' b { n with ms:=rfL n,rs:=putL n.rs (rfM n) })):=HTO.out W2 rfl hwk
   have y0:W2.cell? ⟨b,0,none⟩=some (.string n.name):=HNM.out W2 hwk
   clear e1 e2 HE HE2 HTO hwk HO1
   go_wp2_with fail
   refine HTC.out.mono ?_
   rintro e w4 ⟨rfl,hs4,hk4⟩
   have HS4:Hid (Sh (fun k=>k=b) w w4):=HSH.out.trans hs4
   have HK4:Hid (pe=0→Wk L w4 b { n with ms:=rfL n,rs:=putL n.rs (rfM n) }):=hk4
   clear hs4 hk4
   go_wp2_with fail
   go_ret
   exact ⟨ret_int HR.out.symm,HS4.out,fun h=>by rw [HN.out];exact HK4.out (HR.out.symm.trans h)⟩
end Go.Proofs.YtffdoiokmiklgaaGreatDoor
