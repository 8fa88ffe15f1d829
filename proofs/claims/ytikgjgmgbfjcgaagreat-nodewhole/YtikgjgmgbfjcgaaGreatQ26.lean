import Derived.Test.YtikgjgmgbfjcgaaGreatQ21
import Derived.Test.YtikgjgmgbfjcgaaGreatQ25
namespace Go.Proofs.YtikgjgmgbfjcgaaGreat
open Go.RowKit
theorem putL_ok {rs:List Rum} {m:Mem} (h:∀ r∈rs,r.m.name.size≤maxLen) (hm:m.name.size≤maxLen):∀ r∈putL rs m,r.m.name.size≤maxLen:=by
 intro r hr
 unfold putL at hr
 split at hr
 ·split at hr
  ·rcases List.mem_append.1 hr with hr | hr
   ·exact h r (List.mem_of_mem_eraseIdx hr)
   ·simp at hr;subst hr;exact hm
  ·exact h r hr
 ·rcases List.mem_append.1 hr with hr | hr
  ·exact h r hr
  ·simp at hr;subst hr;exact hm
set_option maxHeartbeats 6400000 in
set_option maxRecDepth 100000 in
theorem tellOn_any (L b:Nat) (n:Nd) (t:ByteArray) (m:Mem) (w:World) (h:Wk L w b n) (hL:L≤b) (hms:n.ms.length≤1000) (hrs:chkR n.rs=0) (hm:mOf n.ms t=m) (he:m.e=0) (hsz:m.name.size≤maxLen) :
 Calls Tryz.prog 165 #[.pointer (some ⟨b,0,none⟩),.string t] w fun e w'=>e=.returned (.int .i64 (putE n.rs m))∧Sh (fun k=>k=b) w w'∧(putE n.rs m=0→Wk L w' b { n with rs:=putL n.rs m }):=by
 have HWK:Hid (Wk L w b n):=h
 have hbl:=h.lt
 obtain ⟨vm,vr,vs,vg,vw,h1,h2,h3,h4⟩:=h
 have HIS:Hid (NdIs w n vm vr vs vg vw):=h2.is h4
 obtain ⟨am,cm,hvm,_⟩:=own_slice h2.ms
 obtain ⟨ar,cr,hvr,_⟩:=own_slice h2.rs
 subst hvm hvr
 have HMB:Hid (Calls Tryz.prog 104 #[.pointer (some ⟨b,0,none⟩),.string t] w fun e w'=>e=.returned (.tuple #[.agg #[.string m.name,.int .i64 m.state,.int .i64 m.life,.int .i64 m.addr,.bool m.server],.bool (fstM n.ms t).isSome])∧Below w.heap.size w w'):=by
  have hq:=wmember_any b am n.ms.length cm n.ms t w (cellsAt h1 2) HIS.out.ms hms
  rw [hm] at hq;exact hq
 have HPT:Hid (∀ W,Below w.heap.size w W→Calls Tryz.prog 206 #[.slice ar n.rs.length cr,.agg #[.string m.name,.int .i64 m.state,.int .i64 m.life,.int .i64 m.addr,.bool m.server]] W fun e w'=>∃ a k c,e=.returned (.tuple #[.slice a k c,.int .i64 (putE n.rs m)])∧Below W.heap.size W w'∧(putE n.rs m=0→ROwn W.heap.size w' (.slice a k c) (putL n.rs m))):=fun W hW=>put_any n.rs _ m W (HIS.out.rs.below hW) hsz hrs he
 have HFIN:Hid (∀ W w1 a k c,Below w.heap.size w W→Below W.heap.size W w1→(putE n.rs m=0→ROwn W.heap.size w1 (.slice a k c) (putL n.rs m))→putE n.rs m=0→Wk L (w1.setCell ⟨b,3,none⟩ (.slice a k c)) b { n with rs:=putL n.rs m }):=fun W w1 a k c hW h1 h2 h0=>
  (HWK.out.below hW).set_rs (by have:=hW.size;omega) h1 (h2 h0) (putL_ok h4.rs hsz)
 have HX:Hid (∀ W,Below w.heap.size w W→W.heap[b]?=some (.cells (ndA n (.slice am n.ms.length cm) (.slice ar n.rs.length cr) vs vg vw) 72 (0,0))):=fun W hW=>(hW.block _ hbl).trans h1
 have y2:w.cell? ⟨b,2,none⟩=_:=cellsAt h1 2
 generalize putE n.rs m=pe at *
 generalize hkr:n.rs.length=kr at *
 generalize hkm:n.ms.length=km at *
 clear hkr hkm h1 h2 h3 h4 hm he hrs
 generalize (fstM n.ms t).isSome=fd at *
 obtain ⟨mn,st,lf,ad,sv⟩:=m
 simp only at HMB HPT hsz
 go_enter Tryz.func165,Tryz.ntmps165
 go_wp2_with fail
 refine HMB.out.mono ?_
 rintro e w1 ⟨rfl,hb1⟩
 obtain ⟨W2,hW2⟩:∃ W2,W2=w1.alloc (.cells #[.string mn,.int .i64 st,.int .i64 lf,.int .i64 ad,.bool sv] 37):=⟨_,rfl⟩
 have hb2:Below w.heap.size w W2:=by rw [hW2];exact hb1.alloc hb1.size _
 have HB2:Hid (Below w.heap.size w W2):=hb2
 have hg2:W2.heap[w1.heap.size]?=some (.cells #[.string mn,.int .i64 st,.int .i64 lf,.int .i64 ad,.bool sv] 37 (0,0)):=by rw [hW2];exact heap_alloc_new w1 _
 obtain ⟨x0,x1,x2,x3,x4⟩:=cells5 hg2
 have y3:W2.cell? ⟨b,3,none⟩=some (.slice ar kr cr):=cellsAt (HX.out W2 hb2) 3
 go_upto_region 2 with fail
 rw [← hW2]
 clear hW2 hb1 hb2 hg2 y2 HMB
 have hb2':b < W2.heap.size:=by have:=HB2.out.size;omega
 go_region_with (first | (go_at_call 206;refine (HPT.out _ HB2.out.drew).mono ?_;rintro e w3 ⟨a,k,c,rfl,hb3,ho3⟩;have HB3:Hid (Below W2.heap.size W2 w3):=(Below.refl W2.heap.size W2).drew.trans hb3;have HO3:Hid (pe=0→Wk L (w3.setCell ⟨b,3,none⟩ (.slice a k c)) b { n with rs:=putL n.rs ⟨mn,st,lf,ad,sv⟩ }):=HFIN.out _ _ a k c HB2.out.drew hb3 ho3;have hgx:=HX.out w3 (HB2.out.trans (HB3.out.mono HB2.out.size));have z3:w3.cell? ⟨b,3,none⟩=some (.slice ar kr cr):=cellsAt hgx 3;have zf:w3.frozen? ⟨b,3,none⟩=false:=frozen_of hgx 3;clear hb3 ho3 hgx))
 all_goals
  go_wp2_with fail
  go_ret
  exact ⟨rfl,((Sh.of HB2.out).next HB3.out).setCell (S:=fun k=>k=b) rfl _,HO3.out⟩
theorem refL_ok {ms:List Mem} {p:Nat} {f:Bool} (h:∀ m∈ms,m.name.size≤maxLen):∀ m∈refL ms p f,m.name.size≤maxLen:=by
 intro m hm
 unfold refL at hm
 split at hm
 ·rcases List.mem_or_eq_of_mem_set hm with hm | rfl
  ·exact h m hm
  ·exact ns_get h p
 ·exact h m hm
theorem refE_of {ms:List Mem} {p:Nat} {f:Bool} (h:refR ms p f=true):refE ms p f=0:=by
 unfold refR at h
 unfold refE
 rw [Bool.and_eq_true] at h
 obtain ⟨h1,h2⟩:=h
 simp only [Bool.not_eq_true'] at h2
 rw [h2];simp
set_option maxHeartbeats 12800000 in
set_option maxRecDepth 100000 in
theorem refute_any (L b:Nat) (n:Nd) (w:World) (h:Wk L w b n) (hL:L≤b) (hms:chk n.ms=0) (hrs:chkR n.rs=0) (hl:labB n.name=true) :
 Calls Tryz.prog 166 #[.pointer (some ⟨b,0,none⟩)] w fun e w'=>e=.returned (.int .i64 (rfE n))∧Sh (fun k=>k=b) w w'∧Hid (rfE n=0→Wk L w' b (rfN n)):=by
 have HWK:Hid (Wk L w b n):=h
 have hbl:=h.lt
 obtain ⟨vm,vr,vs,vg,vw,h1,h2,h3,h4⟩:=h
 have HIS:Hid (NdIs w n vm vr vs vg vw):=h2.is h4
 obtain ⟨am,cm,hvm,_⟩:=own_slice h2.ms
 subst hvm
 have HRF:Hid (∀ W,Below w.heap.size w W→Calls Tryz.prog 207 #[.slice am n.ms.length cm,.string n.name] W fun e w'=>∃ a k c,e=.returned (.tuple #[.slice a k c,.bool (refR n.ms (rfP n) (rfF n)),.int .i64 (refE n.ms (rfP n) (rfF n))])∧Below W.heap.size W w'∧(refE n.ms (rfP n) (rfF n)=0→Own W.heap.size w' (.slice a k c) (rfL n))):=fun W hW=>by
  refine (refute_good n.ms _ n.name W (HIS.out.ms.below hW) hms h4.name hl (rfP n) (rfF n) (at_pos (chk_zero hms).2.1 n.name)).mono ?_
  rintro e w' ⟨v',rfl,hb,hx,ho⟩
  by_cases h0:refE n.ms (rfP n) (rfF n)=0
  ·obtain ⟨a,c,rfl,_⟩:=own_slice (ho h0)
   exact ⟨a,_,c,rfl,hb,fun _=>ho h0⟩
  ·rw [hx h0]
   exact ⟨none,0,0,rfl,hb,fun h=>absurd h h0⟩
 have HS1:Hid (∀ W w1 a k c,Below w.heap.size w W→Below W.heap.size W w1→(refE n.ms (rfP n) (rfF n)=0→Own W.heap.size w1 (.slice a k c) (rfL n))→refE n.ms (rfP n) (rfF n)=0→Wk L (w1.setCell ⟨b,2,none⟩ (.slice a k c)) b { n with ms:=rfL n }):=fun W w1 a k c hW h1 h2 h0=>
  (HWK.out.below hW).set_ms (by have:=hW.size;omega) h1 (h2 h0) (refL_ok h4.ms)
 have HX:Hid (∀ W,Below w.heap.size w W→W.heap[b]?=some (.cells (ndA n (.slice am n.ms.length cm) vr vs vg vw) 72 (0,0))):=fun W hW=>(hW.block _ hbl).trans h1
 have HTO:Hid (∀ W,refR n.ms (rfP n) (rfF n)=true→Wk L W b { n with ms:=rfL n }→Calls Tryz.prog 165 #[.pointer (some ⟨b,0,none⟩),.string n.name] W fun e w'=>e=.returned (.int .i64 (putE n.rs (rfM n)))∧Sh (fun k=>k=b) W w'∧(putE n.rs (rfM n)=0→Wk L w' b { n with ms:=rfL n,rs:=putL n.rs (rfM n) })):=fun W hR hW=>by
  obtain ⟨_,_,f3,f4,f5,f6,f7⟩:=rf_facts hms hR
  exact tellOn_any L b { n with ms:=rfL n } n.name (rfM n) W hW hL (by show (rfL n).length≤1000;rw [f3,List.length_set];have:=(chk_zero hms).1;omega) hrs rfl f5 (by rw [f4];show (n.ms.getD (rfP n) dm).name.size≤maxLen;rw [f6];exact h4.name)
 have HE:Hid (refR n.ms (rfP n) (rfF n)=true→rfE n=putE n.rs (rfM n)∧rfN n={ n with ms:=rfL n,rs:=putL n.rs (rfM n) }):=fun hR=>by
  unfold rfE rfN
  rw [if_pos (refE_of hR),if_pos hR,if_pos hR]
  exact ⟨rfl,rfl⟩
 have HE2:Hid (refR n.ms (rfP n) (rfF n)=false→rfE n=refE n.ms (rfP n) (rfF n)∧rfN n={ n with ms:=rfL n }):=fun hR=>by
  unfold rfE rfN
  rw [hR]
  simp only [Bool.false_eq_true,if_false]
  refine ⟨?_,trivial⟩
  split
  ·rename_i h;exact h.symm
  ·rfl
 have HEZ:Hid (refR n.ms (rfP n) (rfF n)=true→refE n.ms (rfP n) (rfF n)=0):=fun hR=>refE_of hR
 have y0:w.cell? ⟨b,0,none⟩=some (.string n.name):=cellsAt h1 0
 have y2:w.cell? ⟨b,2,none⟩=some (.slice am n.ms.length cm):=cellsAt h1 2
 have HNM:Hid (∀ W,Wk L W b { n with ms:=rfL n }→W.cell? ⟨b,0,none⟩=some (.string n.name)):=fun W hW=>by
  obtain ⟨_,_,_,_,_,g1,_⟩:=hW
  exact cellsAt g1 0
 generalize rfE n=res at *
 generalize refE n.ms (rfP n) (rfF n)=re at *
 generalize refR n.ms (rfP n) (rfF n)=rr at *
 generalize putE n.rs (rfM n)=pe at *
 generalize hkm:n.ms.length=km at *
 clear hkm h1 h2 h3 h4 hms hrs
 go_enter Tryz.func166,Tryz.ntmps166
 go_wp2_with fail
 go_region_with (first | (go_at_call 207;refine (HRF.out _ (Below.refl _ _).drew).mono ?_;rintro e w1 ⟨a,k,c,rfl,hb1,ho1⟩;have HB1:Hid (Below w.heap.size w w1):=(Below.refl w.heap.size w).drew.trans hb1;have HO1:Hid (re=0→Wk L (w1.setCell ⟨b,2,none⟩ (.slice a k c)) b { n with ms:=rfL n }):=HS1.out _ _ a k c (Below.refl _ _).drew hb1 ho1;have hgx:=HX.out w1 HB1.out;have z2:w1.cell? ⟨b,2,none⟩=some (.slice am km cm):=cellsAt hgx 2;have zf:w1.frozen? ⟨b,2,none⟩=false:=frozen_of hgx 2;have HG1:Hid (w1.heap[b]?=some (.cells (ndA n (.slice am km cm) vr vs vg vw) 72 (0,0))):=hgx;clear hb1 ho1 hgx))
 all_goals
  obtain ⟨W2,hW2⟩:∃ W2,W2=w1.setCell ⟨b,2,none⟩ (.slice a k c):=⟨_,rfl⟩
  rw [← hW2] at HO1
  have HSH:Hid (Sh (fun k=>k=b) w W2):=by rw [hW2];exact (Sh.of HB1.out).setCell (S:=fun k=>k=b) rfl _
  rw [← hW2]
  clear hW2 z2 zf y0 y2
  cases rr
  ·obtain ⟨e1,e2⟩:=HE2.out rfl
   have HR:Hid (res=re):=e1
   have HN:Hid (rfN n={ n with ms:=rfL n }):=e2
   clear e1 e2 HE HE2 HTO
   go_wp2_with fail
   go_ret
   exact ⟨ret_int HR.out.symm,HSH.out,fun h=>by rw [HN.out];exact HO1.out (HR.out.symm.trans h)⟩
  ·obtain ⟨e1,e2⟩:=HE.out rfl
   have HR:Hid (res=pe):=e1
   have HN:Hid (rfN n={ n with ms:=rfL n,rs:=putL n.rs (rfM n) }):=e2
   have hwk:=HO1.out (HEZ.out rfl)
   have HTC:Hid (Calls Tryz.prog 165 #[.pointer (some ⟨b,0,none⟩),.string n.name] W2 fun e w'=>e=.returned (.int .i64 pe)∧Sh (fun k=>k=b) W2 w'∧(pe=0→Wk L w' b { n with ms:=rfL n,rs:=putL n.rs (rfM n) })):=HTO.out W2 rfl hwk
   have y0:W2.cell? ⟨b,0,none⟩=some (.string n.name):=HNM.out W2 hwk
   clear e1 e2 HE HE2 HTO hwk HO1
   go_wp2_with fail
   refine HTC.out.mono ?_
   rintro e w4 ⟨rfl,hs4,hk4⟩
   have HS4:Hid (Sh (fun k=>k=b) w w4):=HSH.out.trans hs4
   have HK4:Hid (pe=0→Wk L w4 b { n with ms:=rfL n,rs:=putL n.rs (rfM n) }):=hk4
   clear hs4 hk4
   go_wp2_with fail
   go_ret
   exact ⟨ret_int HR.out.symm,HS4.out,fun h=>by rw [HN.out];exact HK4.out (HR.out.symm.trans h)⟩
theorem hearL_ok {ms:List Mem} {m:Mem} (h:∀ x∈ms,x.name.size≤maxLen) (hm:m.name.size≤maxLen):∀ x∈hearL ms m,x.name.size≤maxLen:=fun x hx=>by
 rcases hearL_mem ms m x hx with rfl | hx
 ·exact hm
 ·exact h x hx
theorem sp1_ms (n:Nd) (m:Mem):(sp1 n m).ms=hearL n.ms m:=by unfold sp1;split<;>rfl
theorem sp1_name (n:Nd) (m:Mem):(sp1 n m).name=n.name:=by unfold sp1;split<;>rfl
theorem joinE_len {ms:List Mem} {m:Mem} (h:chk ms=0) (hm:m.e=0) (hj:joinE ms [m]=0):(hearL ms m).length≤20:=by
 rw [joinE_one h hm] at hj
 split at hj
 ·cases hj
 ·omega
theorem sp1_ok {n:Nd} {m:Mem} (h:chk n.ms=0) (hr:chkR n.rs=0) (hm:m.e=0) (h0:sp1E n m=0):chk (sp1 n m).ms=0∧chkR (sp1 n m).rs=0:=by
 unfold sp1E at h0
 split at h0
 ·rename_i hj
  rw [sp1_ms]
  refine ⟨chk_hear h hm (joinE_len h hm hj),?_⟩
  unfold sp1
  by_cases hc:chgB n.ms m=true
  ·rw [if_pos hc] at h0 ⊢
   exact chkR_put hr hm h0
  ·rw [if_neg hc];exact hr
 ·rename_i hj;exact absurd h0 hj
set_option maxHeartbeats 25600000 in
set_option maxRecDepth 100000 in
theorem spread_any (L b:Nat) (n:Nd) (m:Mem) (w:World) (h:Wk L w b n) (hL:L≤b) (hms:chk n.ms=0) (hrs:chkR n.rs=0) (hl:labB n.name=true) (hm:m.e=0) (hmz:m.name.size≤maxLen) :
 Calls Tryz.prog 122 #[.pointer (some ⟨b,0,none⟩),.agg #[.string m.name,.int .i64 m.state,.int .i64 m.life,.int .i64 m.addr,.bool m.server]] w fun e w'=>e=.returned (.int .i64 (spE n m))∧Sh (fun k=>k=b) w w'∧Hid (spE n m=0→Wk L w' b (spN n m)):=by
 have HWK:Hid (Wk L w b n):=h
 have hbl:=h.lt
 obtain ⟨vm,vr,vs,vg,vw,h1,h2,h3,h4⟩:=h
 have HIS:Hid (NdIs w n vm vr vs vg vw):=h2.is h4
 obtain ⟨am,cm,hvm,_⟩:=own_slice h2.ms
 subst hvm
 have HHR:Hid (∀ W,Below w.heap.size w W→Calls Tryz.prog 164 #[.slice am n.ms.length cm,.agg #[.string m.name,.int .i64 m.state,.int .i64 m.life,.int .i64 m.addr,.bool m.server]] W fun e w'=>∃ a k c,e=.returned (.tuple #[.slice a k c,.bool (decide (joinE n.ms [m]=0) && chgB n.ms m),.int .i64 (joinE n.ms [m])])∧Below W.heap.size W w'∧(joinE n.ms [m]=0→Own W.heap.size w' (.slice a k c) (hearL n.ms m))):=fun W hW=>by
  refine (hear_any n.ms m _ W (HIS.out.ms.below hW) hmz).mono ?_
  rintro e w' ⟨v',r,rfl,hb,hx,ho⟩
  by_cases h0:joinE n.ms [m]=0
  ·obtain ⟨ho1,ho2⟩:=ho h0
   obtain ⟨a,c,rfl,_⟩:=own_slice ho1
   refine ⟨a,_,c,?_,hb,fun _=>ho1⟩
   have e1:r=chgB n.ms m:=by rw [Bool.eq_iff_iff,ho2,chgB_iff (chk_zero hms).2.1]
   rw [e1,decide_eq_true h0,Bool.true_and]
  ·obtain ⟨rfl,rfl⟩:=hx h0
   exact ⟨none,0,0,by rw [decide_eq_false h0,Bool.false_and],hb,fun h=>absurd h h0⟩
 have HS1:Hid (∀ W w1 a k c,Below w.heap.size w W→Below W.heap.size W w1→(joinE n.ms [m]=0→Own W.heap.size w1 (.slice a k c) (hearL n.ms m))→joinE n.ms [m]=0→Wk L (w1.setCell ⟨b,2,none⟩ (.slice a k c)) b { n with ms:=hearL n.ms m }):=fun W w1 a k c hW h1 h2 h0=>
  (HWK.out.below hW).set_ms (by have:=hW.size;omega) h1 (h2 h0) (hearL_ok h4.ms hmz)
 have HX:Hid (∀ W,Below w.heap.size w W→W.heap[b]?=some (.cells (ndA n (.slice am n.ms.length cm) vr vs vg vw) 72 (0,0))):=fun W hW=>(hW.block _ hbl).trans h1
 have HTO:Hid (∀ W,joinE n.ms [m]=0→chgB n.ms m=true→Wk L W b { n with ms:=hearL n.ms m }→Calls Tryz.prog 165 #[.pointer (some ⟨b,0,none⟩),.string m.name] W fun e w'=>e=.returned (.int .i64 (putE n.rs m))∧Sh (fun k=>k=b) W w'∧(putE n.rs m=0→Wk L w' b { n with ms:=hearL n.ms m,rs:=putL n.rs m })):=fun W hj hc hW=>
  tellOn_any L b { n with ms:=hearL n.ms m } m.name m W hW hL (by show (hearL n.ms m).length≤1000;have:=joinE_len hms hm hj;omega) hrs (mOf_some (fst_hear m n.ms ((chgB_iff (chk_zero hms).2.1 m).1 hc))) hm hmz
 have HRF:Hid (∀ W,sp1E n m=0→Wk L W b (sp1 n m)→Calls Tryz.prog 166 #[.pointer (some ⟨b,0,none⟩)] W fun e w'=>e=.returned (.int .i64 (rfE (sp1 n m)))∧Sh (fun k=>k=b) W w'∧Hid (rfE (sp1 n m)=0→Wk L w' b (rfN (sp1 n m)))):=fun W h0 hW=>
  refute_any L b (sp1 n m) W hW hL (sp1_ok hms hrs hm h0).1 (sp1_ok hms hrs hm h0).2 (by rw [sp1_name];exact hl)
 have HNM:Hid (∀ W,Wk L W b (sp1 n m)→W.cell? ⟨b,0,none⟩=some (.string n.name)):=fun W hW=>by
  obtain ⟨_,_,_,_,_,g1,_⟩:=hW
  rw [← sp1_name n m]
  exact cellsAt g1 0
 have HEE:Hid (sp1E n m≠0→spE n m=sp1E n m):=fun h=>by show spE n m=_;unfold spE;rw [if_neg h]
 have HEQ:Hid (sp1E n m=0→m.name=n.name→spE n m=rfE (sp1 n m)):=fun h h2=>by show spE n m=_;unfold spE;rw [if_pos h,if_pos h2]
 have HEN:Hid (sp1E n m=0→m.name≠n.name→spE n m=0):=fun h h2=>by show spE n m=_;unfold spE;rw [if_pos h,if_neg h2]
 have HD1:Hid (joinE n.ms [m]≠0→sp1E n m=joinE n.ms [m]):=fun h=>by show sp1E n m=_;unfold sp1E;rw [if_neg h]
 have HD2:Hid (joinE n.ms [m]=0→chgB n.ms m=false→sp1E n m=0∧sp1 n m={ n with ms:=hearL n.ms m }):=fun h hc=>by
  show sp1E n m=0∧sp1 n m=_
  unfold sp1E sp1;rw [if_pos h,if_neg (by rw [hc];simp),if_neg (by rw [hc];simp)];exact ⟨rfl,rfl⟩
 have HD3:Hid (joinE n.ms [m]=0→chgB n.ms m=true→sp1E n m=putE n.rs m∧sp1 n m={ n with ms:=hearL n.ms m,rs:=putL n.rs m }):=fun h hc=>by
  show sp1E n m=_∧sp1 n m=_
  unfold sp1E sp1;rw [if_pos h,if_pos hc,if_pos hc];exact ⟨rfl,rfl⟩
 have HBM:Hid (∀ W,Wk L W b { n with ms:=hearL n.ms m }→W.cell? ⟨b,0,none⟩=some (.string n.name)):=fun W hW=>by
  obtain ⟨_,_,_,_,_,g1,_⟩:=hW
  exact cellsAt g1 0
 obtain ⟨W0,hW0⟩:∃ W0,W0=w.alloc (.cells #[.string m.name,.int .i64 m.state,.int .i64 m.life,.int .i64 m.addr,.bool m.server] 37):=⟨_,rfl⟩
 have hb0:Below w.heap.size w W0:=by rw [hW0];exact (Below.refl _ _).alloc (Nat.le_refl _) _
 have hg0:W0.heap[w.heap.size]?=some (.cells #[.string m.name,.int .i64 m.state,.int .i64 m.life,.int .i64 m.addr,.bool m.server] 37 (0,0)):=by rw [hW0];exact heap_alloc_new w _
 have hs0:W0.heap.size=w.heap.size+1:=by rw [hW0];simp
 have HB0:Hid (Below w.heap.size w W0):=hb0
 obtain ⟨x0,x1,x2,x3,x4⟩:=cells5 hg0
 have y2:W0.cell? ⟨b,2,none⟩=some (.slice am n.ms.length cm):=cellsAt (HX.out W0 hb0) 2
 have HG0:Hid (W0.heap[w.heap.size]?=some (.cells #[.string m.name,.int .i64 m.state,.int .i64 m.life,.int .i64 m.addr,.bool m.server] 37 (0,0))):=hg0
 generalize spE n m=res at *
 generalize hkm:n.ms.length=km at *
 clear hkm h1 h2 h3 h4 hms hrs hg0 hb0
 generalize joinE n.ms [m]=je at *
 generalize putE n.rs m=pe at *
 generalize sp1E n m=se at *
 generalize chgB n.ms m=cb at *
 go_enter Tryz.func122,Tryz.ntmps122
 go_upto_region 2 with fail
 rw [← hW0]
 clear hW0
 go_region_with (first | (go_at_call 164;refine (HHR.out _ HB0.out.drew).mono ?_;rintro e w1 ⟨a,k,c,rfl,hb1,ho1⟩;have HB1:Hid (Below W0.heap.size W0 w1):=(Below.refl W0.heap.size W0).drew.trans hb1;have HO1:Hid (je=0→Wk L (w1.setCell ⟨b,2,none⟩ (.slice a k c)) b { n with ms:=hearL n.ms m }):=HS1.out _ _ a k c HB0.out.drew hb1 ho1;have hgx:=HX.out w1 (HB0.out.trans (HB1.out.mono HB0.out.size));have z2:w1.cell? ⟨b,2,none⟩=some (.slice am km cm):=cellsAt hgx 2;have zf:w1.frozen? ⟨b,2,none⟩=false:=frozen_of hgx 2;have hgm:=(HB1.out.block _ (show w.heap.size < W0.heap.size by omega)).trans HG0.out;clear hb1 ho1 hgx))
 all_goals
  obtain ⟨W2,hW2⟩:∃ W2,W2=w1.setCell ⟨b,2,none⟩ (.slice a k c):=⟨_,rfl⟩
  rw [← hW2] at HO1
  have HSH:Hid (Sh (fun k=>k=b) w W2):=by rw [hW2];exact (Sh.of (HB0.out.trans (HB1.out.mono HB0.out.size))).setCell (S:=fun k=>k=b) rfl _
  have HBX:Hid (W2.heap[w.heap.size]?=some (.cells #[.string m.name,.int .i64 m.state,.int .i64 m.life,.int .i64 m.addr,.bool m.server] 37 (0,0))):=by rw [hW2];exact (Below.heap_setCell _ _ _ _ (by simp only;omega)).trans hgm
  rw [← hW2]
  clear hW2 z2 zf y2 hgm x0 x1 x2 x3 x4
  by_cases hj:je=0
  ·cases cb
   ·obtain ⟨e1,e2⟩:=HD2.out hj rfl
    have HWK2:Hid (Wk L W2 b (sp1 n m)):=by rw [e2];exact HO1.out hj
    subst hj
    clear e2 HO1 HD1 HD2 HD3 HTO HEE
    have u0:W2.cell? ⟨w.heap.size,0,none⟩=some (.string m.name):=cellsAt HBX.out 0
    have u1:W2.cell? ⟨b,0,none⟩=some (.string n.name):=HNM.out W2 HWK2.out
    by_cases hnm:m.name=n.name
    ·have hq:(m.name.toList != n.name.toList)=false:=by rw [hnm];simp
     have hq2:(m.name.toList == n.name.toList)=true:=by rw [hnm];simp
     have hq3:m.name.toList=n.name.toList:=by rw [hnm]
     have HR:Hid (res=rfE (sp1 n m)):=HEQ.out e1 hnm
     have HN:Hid (spN n m=rfN (sp1 n m)):=by show spN n m=_;unfold spN;rw [if_pos hnm]
     have HRC:Hid (∀ q,Calls Tryz.prog 166 #[.pointer (some ⟨b,0,none⟩)] (W2.drewN q) fun e w'=>e=.returned (.int .i64 (rfE (sp1 n m)))∧Sh (fun k=>k=b) (W2.drewN q) w'∧Hid (rfE (sp1 n m)=0→Wk L w' b (rfN (sp1 n m)))):=fun q=>HRF.out _ e1 (HWK2.out.below (below_drewN (Below.refl _ _) q))
     clear hnm
     generalize rfE (sp1 n m)=re at *
     go_wp2_with fail
     go_quiet (fail)
     go_wp2_with fail
     refine (HRC.out _).mono ?_
     rintro e w7 ⟨rfl,hs7,HK7⟩
     have HS7:Hid (Sh (fun k=>k=b) w w7):=HSH.out.trans ((Sh.of (below_drewN (Below.refl _ _) _)).trans hs7)
     clear hs7
     go_wp2_with fail
     go_ret
     exact ⟨ret_int HR.out.symm,HS7.out,fun h=>by rw [HN.out];exact HK7.out (HR.out.symm.trans h)⟩
    ·have hq:(m.name.toList != n.name.toList)=true:=(bne_name _ _).2 hnm
     have hq2:(m.name.toList == n.name.toList)=false:=by rw [beq_names,decide_eq_false hnm]
     have HR:Hid (res=0):=HEN.out e1 hnm
     have HN:Hid (spN n m=sp1 n m):=by show spN n m=_;unfold spN;rw [if_neg hnm]
     clear hnm
     go_wp2_with fail
     go_quiet (fail)
     go_wp2_with fail
     go_ret
     exact ⟨ret_int HR.out.symm,HSH.out.trans (Sh.of (below_drewN (Below.refl _ _) _)),fun _=>by rw [HN.out];exact HWK2.out.below (below_drewN (Below.refl _ _) _)⟩
   ·obtain ⟨e1,e2⟩:=HD3.out hj rfl
    have HWK1:=HO1.out hj
    have HTC:Hid (Calls Tryz.prog 165 #[.pointer (some ⟨b,0,none⟩),.string m.name] W2 fun e w'=>e=.returned (.int .i64 pe)∧Sh (fun k=>k=b) W2 w'∧(pe=0→Wk L w' b { n with ms:=hearL n.ms m,rs:=putL n.rs m })):=HTO.out W2 hj rfl HWK1
    have u0:W2.cell? ⟨w.heap.size,0,none⟩=some (.string m.name):=cellsAt HBX.out 0
    subst hj
    clear HWK1 HO1 HD1 HD2 HD3 HTO
    go_wp2_with fail
    refine HTC.out.mono ?_
    rintro e w4 ⟨rfl,hs4,hk4⟩
    have HS4:Hid (Sh (fun k=>k=b) w w4):=HSH.out.trans hs4
    have HBX4:w4.heap[w.heap.size]?=some (.cells #[.string m.name,.int .i64 m.state,.int .i64 m.life,.int .i64 m.addr,.bool m.server] 37 (0,0)):=(hs4.block _ ((Array.getElem?_eq_some_iff.1 HBX.out).1) (by omega)).trans HBX.out
    have HK4:Hid (pe=0→Wk L w4 b (sp1 n m)):=fun h=>by rw [e2];exact hk4 h
    have HBX:Hid (w4.heap[w.heap.size]?=some (.cells #[.string m.name,.int .i64 m.state,.int .i64 m.life,.int .i64 m.addr,.bool m.server] 37 (0,0))):=HBX4
    clear hs4 hk4 HBX4 u0 HTC e2
    by_cases hp:pe=0
    ·have HWK4:Hid (Wk L w4 b (sp1 n m)):=HK4.out hp
     have e3:se=0:=e1.trans hp
     subst hp
     clear HK4 e1 HEE
     have u0:w4.cell? ⟨w.heap.size,0,none⟩=some (.string m.name):=cellsAt HBX.out 0
     have u1:w4.cell? ⟨b,0,none⟩=some (.string n.name):=HNM.out w4 HWK4.out
     by_cases hnm:m.name=n.name
     ·have hq:(m.name.toList != n.name.toList)=false:=by rw [hnm];simp
      have hq2:(m.name.toList == n.name.toList)=true:=by rw [hnm];simp
      have hq3:m.name.toList=n.name.toList:=by rw [hnm]
      have HR:Hid (res=rfE (sp1 n m)):=HEQ.out e3 hnm
      have HN:Hid (spN n m=rfN (sp1 n m)):=by show spN n m=_;unfold spN;rw [if_pos hnm]
      have HRC:Hid (∀ q,Calls Tryz.prog 166 #[.pointer (some ⟨b,0,none⟩)] (w4.drewN q) fun e w'=>e=.returned (.int .i64 (rfE (sp1 n m)))∧Sh (fun k=>k=b) (w4.drewN q) w'∧Hid (rfE (sp1 n m)=0→Wk L w' b (rfN (sp1 n m)))):=fun q=>HRF.out _ e3 (HWK4.out.below (below_drewN (Below.refl _ _) q))
      clear hnm
      generalize rfE (sp1 n m)=re at *
      go_wp2_with fail
      go_quiet (fail)
      go_wp2_with fail
      refine (HRC.out _).mono ?_
      rintro e w7 ⟨rfl,hs7,HK7⟩
      have HS7:Hid (Sh (fun k=>k=b) w w7):=HS4.out.trans ((Sh.of (below_drewN (Below.refl _ _) _)).trans hs7)
      clear hs7
      go_wp2_with fail
      go_ret
      exact ⟨ret_int HR.out.symm,HS7.out,fun h=>by rw [HN.out];exact HK7.out (HR.out.symm.trans h)⟩
     ·have hq:(m.name.toList != n.name.toList)=true:=(bne_name _ _).2 hnm
      have hq2:(m.name.toList == n.name.toList)=false:=by rw [beq_names,decide_eq_false hnm]
      have HR:Hid (res=0):=HEN.out e3 hnm
      have HN:Hid (spN n m=sp1 n m):=by show spN n m=_;unfold spN;rw [if_neg hnm]
      clear hnm
      go_wp2_with fail
      go_quiet (fail)
      go_wp2_with fail
      go_ret
      exact ⟨ret_int HR.out.symm,HS4.out.trans (Sh.of (below_drewN (Below.refl _ _) _)),fun _=>by rw [HN.out];exact HWK4.out.below (below_drewN (Below.refl _ _) _)⟩
    ·have hp':(pe != 0)=true:=by simpa using hp
     have HR:Hid (res=pe):=(HEE.out (by rw [e1];exact hp)).trans e1
     have HPN:Hid (pe≠0):=hp
     have u0:w4.cell? ⟨w.heap.size,0,none⟩=some (.string m.name):=cellsAt HBX.out 0
     clear hp e1
     go_wp2_with fail
     go_quiet (fail)
     go_wp2_with fail
     go_ret
     exact ⟨ret_int HR.out.symm,HS4.out.trans (Sh.of (below_drewN (Below.refl _ _) _)),fun h=>absurd (HR.out.symm.trans h) HPN.out⟩
  ·have hj':(je != 0)=true:=by simpa using hj
   have hj2:decide (je=0)=false:=decide_eq_false hj
   have e1:=HD1.out hj
   have HR:Hid (res=je):=(HEE.out (by rw [e1];exact hj)).trans e1
   have HPN:Hid (je≠0):=hj
   clear hj e1 HD1 HD2 HD3
   go_wp2_with fail
   go_quiet (fail)
   go_wp2_with fail
   go_ret
   exact ⟨ret_int HR.out.symm,HSH.out.trans (Sh.of (below_drewN (Below.refl _ _) _)),fun h=>absurd (HR.out.symm.trans h) HPN.out⟩
def wsE (n:Nd) (t:ByteArray) (frm to:Int):Int:=
 if labB t=true then (if (fstM n.ms t).isSome=true then (if t=n.name then 6 else if (mOf n.ms t).state=frm then spE n { mOf n.ms t with state:=to } else 4) else 5) else 1
def wsN (n:Nd) (t:ByteArray) (to:Int):Nd:=spN n { mOf n.ms t with state:=to }
theorem mOf_mem {ms:List Mem} {t:ByteArray} (h:(fstM ms t).isSome=true):mOf ms t∈ms∧(mOf ms t).name=t:=by
 obtain ⟨m,hm⟩:=Option.isSome_iff_exists.1 h
 rw [mOf_some hm]
 exact fstM_mem hm
set_option maxHeartbeats 12800000 in
set_option maxRecDepth 100000 in
theorem worsen_any (L b:Nat) (n:Nd) (t:ByteArray) (frm to:Int) (w:World) (h:Wk L w b n) (hL:L≤b) (hms:chk n.ms=0) (hrs:chkR n.rs=0) (hl:labB n.name=true) (ht:t.size≤maxLen) (hto:within to 1 4=true) :
 Calls Tryz.prog 75 #[.pointer (some ⟨b,0,none⟩),.string t,.int .i64 frm,.int .i64 to] w fun e w'=>e=.returned (.int .i64 (wsE n t frm to))∧Sh (fun k=>k=b) w w'∧Hid (wsE n t frm to=0→Wk L w' b (wsN n t to)):=by
 have HWK:Hid (Wk L w b n):=h
 have hbl:=h.lt
 obtain ⟨vm,vr,vs,vg,vw,h1,h2,h3,h4⟩:=h
 have HIS:Hid (NdIs w n vm vr vs vg vw):=h2.is h4
 obtain ⟨am,cm,hvm,_⟩:=own_slice h2.ms
 subst hvm
 have HMB:Hid (Calls Tryz.prog 104 #[.pointer (some ⟨b,0,none⟩),.string t] w fun e w'=>e=.returned (.tuple #[.agg #[.string (mOf n.ms t).name,.int .i64 (mOf n.ms t).state,.int .i64 (mOf n.ms t).life,.int .i64 (mOf n.ms t).addr,.bool (mOf n.ms t).server],.bool (fstM n.ms t).isSome])∧Below w.heap.size w w'):=
  wmember_any b am n.ms.length cm n.ms t w (cellsAt h1 2) HIS.out.ms (by have:=(chk_zero hms).1;omega)
 have HSP:Hid ((fstM n.ms t).isSome=true→∀ W,Below w.heap.size w W→Calls Tryz.prog 122 #[.pointer (some ⟨b,0,none⟩),.agg #[.string (mOf n.ms t).name,.int .i64 to,.int .i64 (mOf n.ms t).life,.int .i64 (mOf n.ms t).addr,.bool (mOf n.ms t).server]] W fun e w'=>e=.returned (.int .i64 (spE n { mOf n.ms t with state:=to }))∧Sh (fun k=>k=b) W w'∧Hid (spE n { mOf n.ms t with state:=to }=0→Wk L w' b (wsN n t to))):=fun hs W hW=>by
  obtain ⟨g1,g2⟩:=mOf_mem hs
  have he:=(mem_e0 _).1 (chk_e0 hms _ g1)
  exact spread_any L b n { mOf n.ms t with state:=to } W (HWK.out.below hW) hL hms hrs hl ((mem_e0 _).2 ⟨he.1,hto,he.2.2.1,he.2.2.2⟩) (show (mOf n.ms t).name.size≤maxLen from h4.ms _ g1)
 have HX:Hid (∀ W,Below w.heap.size w W→W.cell? ⟨b,0,none⟩=some (.string n.name)):=fun W hW=>cellsAt ((hW.block _ hbl).trans h1) 0
 have HE:Hid (wsE n t frm to=if labB t=true then (if (fstM n.ms t).isSome=true then (if t=n.name then 6 else if (mOf n.ms t).state=frm then spE n { mOf n.ms t with state:=to } else 4) else 5) else 1):=rfl
 generalize wsE n t frm to=res at *
 generalize spE n { mOf n.ms t with state:=to }=se at *
 clear h1 h2 h3 h4 hms hrs
 generalize (fstM n.ms t).isSome=fd at *
 generalize hmm:mOf n.ms t=m at *
 clear hmm
 obtain ⟨mn,st,lf,ad,sv⟩:=m
 simp only at HMB HSP HE
 go_enter Tryz.func75,Tryz.ntmps75
 rcases hlab:labB t with _ | _
 ·have HR:Hid (res=1):=HE.out.trans (by rw [hlab];rfl)
  go_wp2_with (go_at_call 96;refine (label_any _ _ ht).mono ?_;rintro e w' ⟨rfl,rfl⟩;rw [hlab])
  go_ret
  exact ⟨ret_int HR.out.symm,Sh.refl _ _,fun h=>by have:=HR.out.symm.trans h;cases this⟩
 have HE2:Hid (res=if fd=true then (if t=n.name then 6 else if st=frm then se else 4) else 5):=HE.out.trans (by rw [hlab];rfl)
 clear HE
 go_wp2_with (first | (go_at_call 96;refine (label_any _ _ ht).mono ?_;rintro e w' ⟨rfl,hww⟩;have hwq:=hww.symm;subst hwq;rw [hlab]) | fail)
 refine HMB.out.mono ?_
 rintro e w1 ⟨rfl,hb1⟩
 obtain ⟨W2,hW2⟩:∃ W2,W2=w1.alloc (.cells #[.string mn,.int .i64 st,.int .i64 lf,.int .i64 ad,.bool sv] 37):=⟨_,rfl⟩
 have hb2:Below w.heap.size w W2:=by rw [hW2];exact hb1.alloc hb1.size _
 have hbb:w1.heap.size < W2.heap.size:=by rw [hW2];simp
 have hg2:W2.heap[w1.heap.size]?=some (.cells #[.string mn,.int .i64 st,.int .i64 lf,.int .i64 ad,.bool sv] 37 (0,0)):=by rw [hW2];exact heap_alloc_new w1 _
 have HB2:Hid (Below w.heap.size w W2):=hb2
 have hs1:w.heap.size≤w1.heap.size:=hb1.size
 obtain ⟨x0,x1,x2,x3,x4⟩:=cells5 hg2
 have zf:W2.frozen? ⟨w1.heap.size,1,none⟩=false:=frozen_of hg2 1
 have y0:W2.cell? ⟨b,0,none⟩=some (.string n.name):=HX.out W2 hb2
 go_upto_region 4 with fail
 rw [← hW2]
 clear hW2 hb1 hb2 HMB
 cases fd
 ·have HR:Hid (res=5):=HE2.out.trans (by simp)
  go_wp2_with fail
  go_ret
  exact ⟨ret_int HR.out.symm,Sh.of HB2.out,fun h=>by have:=HR.out.symm.trans h;cases this⟩
 by_cases hnm:t=n.name
 ·have HR:Hid (res=6):=HE2.out.trans (by simp [hnm])
  have hq:(t.toList == n.name.toList)=true:=by rw [hnm];simp
  have hq2:t.toList=n.name.toList:=by rw [hnm]
  clear hnm
  go_wp2_with fail
  go_ret
  exact ⟨ret_int HR.out.symm,Sh.of HB2.out,fun h=>by have:=HR.out.symm.trans h;cases this⟩
 have hq:(t.toList == n.name.toList)=false:=by rw [beq_names,decide_eq_false hnm]
 by_cases hst:st=frm
 ·have HR:Hid (res=se):=HE2.out.trans (by simp [hnm,hst])
  subst hst
  have HSC:=fun W hW=>HSP.out rfl W hW
  clear hnm HE2
  obtain ⟨W3,hW3⟩:∃ W3,W3=W2.setCell ⟨w1.heap.size,1,none⟩ (.int .i64 to):=⟨_,rfl⟩
  have HB3:Hid (Below w.heap.size w W3):=by rw [hW3];exact HB2.out.setCell (p:=⟨w1.heap.size,1,none⟩) hs1 _
  have hg3:W3.heap[w1.heap.size]?=some (.cells #[.string mn,.int .i64 to,.int .i64 lf,.int .i64 ad,.bool sv] 37 (0,0)):=by rw [hW3];exact Joins.block_setCell (i:=1) hg2 _
  obtain ⟨v0,v1,v2,v3,v4⟩:=cells5 hg3
  have HSC2:Hid (Calls Tryz.prog 122 #[.pointer (some ⟨b,0,none⟩),.agg #[.string mn,.int .i64 to,.int .i64 lf,.int .i64 ad,.bool sv]] W3 fun e w'=>e=.returned (.int .i64 se)∧Sh (fun k=>k=b) W3 w'∧Hid (se=0→Wk L w' b (wsN n t to))):=HSC W3 HB3.out
  clear HSC hg3 hg2
  go_upto_region 11 with fail
  rw [← hW3]
  clear hW3 x0 x1 x2 x3 x4 zf y0
  go_wp2_with fail
  refine HSC2.out.mono ?_
  rintro e w5 ⟨rfl,hs5,HK5⟩
  have HS5:Hid (Sh (fun k=>k=b) w w5):=(Sh.of HB3.out).trans hs5
  clear hs5
  go_wp2_with fail
  go_ret
  exact ⟨ret_int HR.out.symm,HS5.out,fun h=>HK5.out (HR.out.symm.trans h)⟩
 ·have HR:Hid (res=4):=HE2.out.trans (by simp [hnm,hst])
  have hst':(st != frm)=true:=by simpa using hst
  clear hnm hst HE2
  go_wp2_with fail
  go_ret
  exact ⟨ret_int HR.out.symm,Sh.of HB2.out,fun h=>by have:=HR.out.symm.trans h;cases this⟩
end Go.Proofs.YtikgjgmgbfjcgaaGreat
