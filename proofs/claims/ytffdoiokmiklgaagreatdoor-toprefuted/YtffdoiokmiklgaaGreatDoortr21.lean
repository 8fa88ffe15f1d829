import Derived.Test.YtffdoiokmiklgaaGreatDoortr20
import Derived.Test.YtffdoiokmiklgaaGreatDoortr10
import Derived.Laws.StructEq
import Derived.Deep.Slices
import Derived.Lib.SmallJoins
import Derived.ProofKit
import Derived.Test.YtffdoiokmiklgaaGreatDoortr19
import Derived.Test.YtffdoiokmiklgaaGreatDoortr15
namespace Go.Proofs.YtffdoiokmiklgaaGreatDoor
open Go.RowKit
theorem hearL_ok {ms:List Mem} {m:Mem} (h:∀ x∈ms,x.name.size≤maxLen) (hm:m.name.size≤maxLen):∀ x∈hearL ms m,x.name.size≤maxLen:=fun x hx=>by
 rcases hearL_mem ms m x hx with rfl | hx
 ·exact hm
 ·exact h x hx
theorem sp1_ms (n:Nd) (m:Mem):(sp1 n m).ms=hearL n.ms m:=by unfold sp1;split<;>rfl
theorem sp1_name (n:Nd) (m:Mem):(sp1 n m).name=n.name:=by unfold sp1;split<;>rfl
theorem joinE_len {ms:List Mem} {m:Mem} (h:chk ms=0) (hm:m.e=0) (hj:joinE ms [m]=0):(hearL ms m).length≤20:=by
 rw [joinE_one h hm] at hj
 split at hj
 ·cases hj
 ·omega
theorem sp1_ok {n:Nd} {m:Mem} (h:chk n.ms=0) (hr:chkR n.rs=0) (hm:m.e=0) (h0:sp1E n m=0):chk (sp1 n m).ms=0∧chkR (sp1 n m).rs=0:=by
 unfold sp1E at h0
 split at h0
 ·rename_i hj
  rw [sp1_ms]
  refine ⟨chk_hear h hm (joinE_len h hm hj),?_⟩
  unfold sp1
  by_cases hc:chgB n.ms m=true
  ·rw [if_pos hc] at h0 ⊢
   exact chkR_put hr hm h0
  ·rw [if_neg hc];exact hr
 ·rename_i hj;exact absurd h0 hj
set_option maxHeartbeats 25600000 in
set_option maxRecDepth 100000 in
theorem spread_any (L b:Nat) (n:Nd) (m:Mem) (w:World) (h:Wk L w b n) (hL:L≤b) (hms:chk n.ms=0) (hrs:chkR n.rs=0) (hl:labB n.name=true) (hm:m.e=0) (hmz:m.name.size≤maxLen) :
 Calls Tryz.prog 89 #[.pointer (some ⟨b,0,none⟩),.agg #[.string m.name,.int .i64 m.state,.int .i64 m.life,.int .i64 m.addr,.bool m.server]] w fun e w'=>e=.returned (.int .i64 (spE n m))∧Sh (fun k=>k=b) w w'∧Hid (spE n m=0→Wk L w' b (spN n m)):=by
 have HWK:Hid (Wk L w b n):=h
 have hbl:=h.lt
 obtain ⟨vm,vr,vs,vg,vw,h1,h2,h3,h4⟩:=h
 have HIS:Hid (NdIs w n vm vr vs vg vw):=h2.is h4
 obtain ⟨am,cm,hvm,_⟩:=own_slice h2.ms
 subst hvm
 have HHR:Hid (∀ W,Below w.heap.size w W→Calls Tryz.prog 134 #[.slice am n.ms.length cm,.agg #[.string m.name,.int .i64 m.state,.int .i64 m.life,.int .i64 m.addr,.bool m.server]] W fun e w'=>∃ a k c,e=.returned (.tuple #[.slice a k c,.bool (decide (joinE n.ms [m]=0) && chgB n.ms m),.int .i64 (joinE n.ms [m])])∧Below W.heap.size W w'∧(joinE n.ms [m]=0→Own W.heap.size w' (.slice a k c) (hearL n.ms m))):=fun W hW=>by
  refine (hear_any n.ms m _ W (HIS.out.ms.below hW) hmz).mono ?_
  rintro e w' ⟨v',r,rfl,hb,hx,ho⟩
  by_cases h0:joinE n.ms [m]=0
  ·obtain ⟨ho1,ho2⟩:=ho h0
   obtain ⟨a,c,rfl,_⟩:=own_slice ho1
   refine ⟨a,_,c,?_,hb,fun _=>ho1⟩
   have e1:r=chgB n.ms m:=by rw [Bool.eq_iff_iff,ho2,chgB_iff (chk_zero hms).2.1]
   rw [e1,decide_eq_true h0,Bool.true_and]
  ·obtain ⟨rfl,rfl⟩:=hx h0
   exact ⟨none,0,0,by rw [decide_eq_false h0,Bool.false_and],hb,fun h=>absurd h h0⟩
 have HS1:Hid (∀ W w1 a k c,Below w.heap.size w W→Below W.heap.size W w1→(joinE n.ms [m]=0→Own W.heap.size w1 (.slice a k c) (hearL n.ms m))→joinE n.ms [m]=0→Wk L (w1.setCell ⟨b,2,none⟩ (.slice a k c)) b { n with ms:=hearL n.ms m }):=fun W w1 a k c hW h1 h2 h0=>
  (HWK.out.below hW).set_ms (by have:=hW.size;omega) h1 (h2 h0) (hearL_ok h4.ms hmz)
 have HX:Hid (∀ W,Below w.heap.size w W→W.heap[b]?=some (.cells (ndA n (.slice am n.ms.length cm) vr vs vg vw) 133 (0,0))):=fun W hW=>(hW.block _ hbl).trans h1
 have HTO:Hid (∀ W,joinE n.ms [m]=0→chgB n.ms m=true→Wk L W b { n with ms:=hearL n.ms m }→Calls Tryz.prog 135 #[.pointer (some ⟨b,0,none⟩),.string m.name] W fun e w'=>e=.returned (.int .i64 (putE n.rs m))∧Sh (fun k=>k=b) W w'∧(putE n.rs m=0→Wk L w' b { n with ms:=hearL n.ms m,rs:=putL n.rs m })):=fun W hj hc hW=>
  tellOn_any L b { n with ms:=hearL n.ms m } m.name m W hW hL (by show (hearL n.ms m).length≤1000;have:=joinE_len hms hm hj;omega) hrs (mOf_some (fst_hear m n.ms ((chgB_iff (chk_zero hms).2.1 m).1 hc))) hm hmz
 have HRF:Hid (∀ W,sp1E n m=0→Wk L W b (sp1 n m)→Calls Tryz.prog 136 #[.pointer (some ⟨b,0,none⟩)] W fun e w'=>e=.returned (.int .i64 (rfE (sp1 n m)))∧Sh (fun k=>k=b) W w'∧Hid (rfE (sp1 n m)=0→Wk L w' b (rfN (sp1 n m)))):=fun W h0 hW=>
  refute_any L b (sp1 n m) W hW hL (sp1_ok hms hrs hm h0).1 (sp1_ok hms hrs hm h0).2 (by rw [sp1_name];exact hl)
 have HNM:Hid (∀ W,Wk L W b (sp1 n m)→W.cell? ⟨b,0,none⟩=some (.string n.name)):=fun W hW=>by
  obtain ⟨_,_,_,_,_,g1,_⟩:=hW
  rw [← sp1_name n m]
  exact cellsAt g1 0
 have HEE:Hid (sp1E n m≠0→spE n m=sp1E n m):=fun h=>by show spE n m=_;unfold spE;rw [if_neg h]
 have HEQ:Hid (sp1E n m=0→m.name=n.name→spE n m=rfE (sp1 n m)):=fun h h2=>by show spE n m=_;unfold spE;rw [if_pos h,if_pos h2]
 have HEN:Hid (sp1E n m=0→m.name≠n.name→spE n m=0):=fun h h2=>by show spE n m=_;unfold spE;rw [if_pos h,if_neg h2]
 have HD1:Hid (joinE n.ms [m]≠0→sp1E n m=joinE n.ms [m]):=fun h=>by show sp1E n m=_;unfold sp1E;rw [if_neg h]
 have HD2:Hid (joinE n.ms [m]=0→chgB n.ms m=false→sp1E n m=0∧sp1 n m={ n with ms:=hearL n.ms m }):=fun h hc=>by
  show sp1E n m=0∧sp1 n m=_
  unfold sp1E sp1;rw [if_pos h,if_neg (by rw [hc];simp),if_neg (by rw [hc];simp)];exact ⟨rfl,rfl⟩
 have HD3:Hid (joinE n.ms [m]=0→chgB n.ms m=true→sp1E n m=putE n.rs m∧sp1 n m={ n with ms:=hearL n.ms m,rs:=putL n.rs m }):=fun h hc=>by
  show sp1E n m=_∧sp1 n m=_
  unfold sp1E sp1;rw [if_pos h,if_pos hc,if_pos hc];exact ⟨rfl,rfl⟩
 have HBM:Hid (∀ W,Wk L W b { n with ms:=hearL n.ms m }→W.cell? ⟨b,0,none⟩=some (.string n.name)):=fun W hW=>by
  obtain ⟨_,_,_,_,_,g1,_⟩:=hW
  exact cellsAt g1 0
 obtain ⟨W0,hW0⟩:∃ W0,W0=w.alloc (.cells #[.string m.name,.int .i64 m.state,.int .i64 m.life,.int .i64 m.addr,.bool m.server] 56):=⟨_,rfl⟩
 have hb0:Below w.heap.size w W0:=by rw [hW0];exact (Below.refl _ _).alloc (Nat.le_refl _) _
 have hg0:W0.heap[w.heap.size]?=some (.cells #[.string m.name,.int .i64 m.state,.int .i64 m.life,.int .i64 m.addr,.bool m.server] 56 (0,0)):=by rw [hW0];exact heap_alloc_new w _
 have hs0:W0.heap.size=w.heap.size+1:=by rw [hW0];simp
 have HB0:Hid (Below w.heap.size w W0):=hb0
 obtain ⟨x0,x1,x2,x3,x4⟩:=cells5 hg0
 have y2:W0.cell? ⟨b,2,none⟩=some (.slice am n.ms.length cm):=cellsAt (HX.out W0 hb0) 2
 have HG0:Hid (W0.heap[w.heap.size]?=some (.cells #[.string m.name,.int .i64 m.state,.int .i64 m.life,.int .i64 m.addr,.bool m.server] 56 (0,0))):=hg0
 generalize spE n m=res at *
 generalize hkm:n.ms.length=km at *
 clear hkm h1 h2 h3 h4 hms hrs hg0 hb0
 generalize joinE n.ms [m]=je at *
 generalize putE n.rs m=pe at *
 generalize sp1E n m=se at *
 generalize chgB n.ms m=cb at *
 go_enter Tryz.func89,Tryz.ntmps89
 go_upto_region 2 with fail
 rw [← hW0]
 clear hW0
 go_region_with (first | (go_at_call 134;refine (HHR.out _ HB0.out.drew).mono ?_;rintro e w1 ⟨a,k,c,rfl,hb1,ho1⟩;have HB1:Hid (Below W0.heap.size W0 w1):=(Below.refl W0.heap.size W0).drew.trans hb1;have HO1:Hid (je=0→Wk L (w1.setCell ⟨b,2,none⟩ (.slice a k c)) b { n with ms:=hearL n.ms m }):=HS1.out _ _ a k c HB0.out.drew hb1 ho1;have hgx:=HX.out w1 (HB0.out.trans (HB1.out.mono HB0.out.size));have z2:w1.cell? ⟨b,2,none⟩=some (.slice am km cm):=cellsAt hgx 2;have zf:w1.frozen? ⟨b,2,none⟩=false:=frozen_of hgx 2;have hgm:=(HB1.out.block _ (show w.heap.size < W0.heap.size by omega)).trans HG0.out;clear hb1 ho1 hgx))
 all_goals
  obtain ⟨W2,hW2⟩:∃ W2,W2=w1.setCell ⟨b,2,none⟩ (.slice a k c):=⟨_,rfl⟩
  rw [← hW2] at HO1
  have HSH:Hid (Sh (fun k=>k=b) w W2):=by rw [hW2];exact (Sh.of (HB0.out.trans (HB1.out.mono HB0.out.size))).setCell (S:=fun k=>k=b) rfl _
  have HBX:Hid (W2.heap[w.heap.size]?=some (.cells #[.string m.name,.int .i64 m.state,.int .i64 m.life,.int .i64 m.addr,.bool m.server] 56 (0,0))):=by rw [hW2];exact (Below.heap_setCell _ _ _ _ (by simp only;omega)).trans hgm
  rw [← hW2]
  clear hW2 z2 zf y2 hgm x0 x1 x2 x3 x4
  by_cases hj:je=0
  ·cases cb
   ·obtain ⟨e1,e2⟩:=HD2.out hj rfl
    have HWK2:Hid (Wk L W2 b (sp1 n m)):=by rw [e2];exact HO1.out hj
    subst hj
    clear e2 HO1 HD1 HD2 HD3 HTO HEE
    have u0:W2.cell? ⟨w.heap.size,0,none⟩=some (.string m.name):=cellsAt HBX.out 0
    have u1:W2.cell? ⟨b,0,none⟩=some (.string n.name):=HNM.out W2 HWK2.out
    by_cases hnm:m.name=n.name
    ·have hq:(m.name.toList != n.name.toList)=false:=by rw [hnm];simp
     have hq2:(m.name.toList == n.name.toList)=true:=by rw [hnm];simp
     have hq3:m.name.toList=n.name.toList:=by rw [hnm]
     have HR:Hid (res=rfE (sp1 n m)):=HEQ.out e1 hnm
     have HN:Hid (spN n m=rfN (sp1 n m)):=by show spN n m=_;unfold spN;rw [if_pos hnm]
     have HRC:Hid (∀ q,Calls Tryz.prog 136 #[.pointer (some ⟨b,0,none⟩)] (W2.drewN q) fun e w'=>e=.returned (.int .i64 (rfE (sp1 n m)))∧Sh (fun k=>k=b) (W2.drewN q) w'∧Hid (rfE (sp1 n m)=0→Wk L w' b (rfN (sp1 n m)))):=fun q=>HRF.out _ e1 (HWK2.out.below (below_drewN (Below.refl _ _) q))
     clear hnm
     generalize rfE (sp1 n m)=re at *
     go_wp2_with fail
     go_quiet (fail)
     go_wp2_with fail
     refine (HRC.out _).mono ?_
     rintro e w7 ⟨rfl,hs7,HK7⟩
     have HS7:Hid (Sh (fun k=>k=b) w w7):=HSH.out.trans ((Sh.of (below_drewN (Below.refl _ _) _)).trans hs7)
     clear hs7
     go_wp2_with fail
     go_ret
     exact ⟨ret_int HR.out.symm,HS7.out,fun h=>by rw [HN.out];exact HK7.out (HR.out.symm.trans h)⟩
    ·have hq:(m.name.toList != n.name.toList)=true:=(bne_name _ _).2 hnm
     have hq2:(m.name.toList == n.name.toList)=false:=by rw [beq_names,decide_eq_false hnm]
     have HR:Hid (res=0):=HEN.out e1 hnm
     have HN:Hid (spN n m=sp1 n m):=by show spN n m=_;unfold spN;rw [if_neg hnm]
     clear hnm
     go_wp2_with fail
     go_quiet (fail)
     go_wp2_with fail
     go_ret
     exact ⟨ret_int HR.out.symm,HSH.out.trans (Sh.of (below_drewN (Below.refl _ _) _)),fun _=>by rw [HN.out];exact HWK2.out.below (below_drewN (Below.refl _ _) _)⟩
   ·obtain ⟨e1,e2⟩:=HD3.out hj rfl
    have HWK1:=HO1.out hj
    have HTC:Hid (Calls Tryz.prog 135 #[.pointer (some ⟨b,0,none⟩),.string m.name] W2 fun e w'=>e=.returned (.int .i64 pe)∧Sh (fun k=>k=b) W2 w'∧(pe=0→Wk L w' b { n with ms:=hearL n.ms m,rs:=putL n.rs m })):=HTO.out W2 hj rfl HWK1
    have u0:W2.cell? ⟨w.heap.size,0,none⟩=some (.string m.name):=cellsAt HBX.out 0
    subst hj
    clear HWK1 HO1 HD1 HD2 HD3 HTO
    go_wp2_with fail
    refine HTC.out.mono ?_
    rintro e w4 ⟨rfl,hs4,hk4⟩
    have HS4:Hid (Sh (fun k=>k=b) w w4):=HSH.out.trans hs4
    have HBX4:w4.heap[w.heap.size]?=some (.cells #[.string m.name,.int .i64 m.state,.int .i64 m.life,.int .i64 m.addr,.bool m.server] 56 (0,0)):=(hs4.block _ ((Array.getElem?_eq_some_iff.1 HBX.out).1) (by omega)).trans HBX.out
    have HK4:Hid (pe=0→Wk L w4 b (sp1 n m)):=fun h=>by rw [e2];exact hk4 h
    have HBX:Hid (w4.heap[w.heap.size]?=some (.cells #[.string m.name,.int .i64 m.state,.int .i64 m.life,.int .i64 m.addr,.bool m.server] 56 (0,0))):=HBX4
    clear hs4 hk4 HBX4 u0 HTC e2
    by_cases hp:pe=0
    ·have HWK4:Hid (Wk L w4 b (sp1 n m)):=HK4.out hp
     have e3:se=0:=e1.trans hp
     subst hp
     clear HK4 e1 HEE
     have u0:w4.cell? ⟨w.heap.size,0,none⟩=some (.string m.name):=cellsAt HBX.out 0
     have u1:w4.cell? ⟨b,0,none⟩=some (.string n.name):=HNM.out w4 HWK4.out
     by_cases hnm:m.name=n.name
     ·have hq:(m.name.toList != n.name.toList)=false:=by rw [hnm];simp
      have hq2:(m.name.toList == n.name.toList)=true:=by rw [hnm];simp
      have hq3:m.name.toList=n.name.toList:=by rw [hnm]
      have HR:Hid (res=rfE (sp1 n m)):=HEQ.out e3 hnm
      have HN:Hid (spN n m=rfN (sp1 n m)):=by show spN n m=_;unfold spN;rw [if_pos hnm]
      have HRC:Hid (∀ q,Calls Tryz.prog 136 #[.pointer (some ⟨b,0,none⟩)] (w4.drewN q) fun e w'=>e=.returned (.int .i64 (rfE (sp1 n m)))∧Sh (fun k=>k=b) (w4.drewN q) w'∧Hid (rfE (sp1 n m)=0→Wk L w' b (rfN (sp1 n m)))):=fun q=>HRF.out _ e3 (HWK4.out.below (below_drewN (Below.refl _ _) q))
      clear hnm
      generalize rfE (sp1 n m)=re at *
      go_wp2_with fail
      go_quiet (fail)
      go_wp2_with fail
      refine (HRC.out _).mono ?_
      rintro e w7 ⟨rfl,hs7,HK7⟩
      have HS7:Hid (Sh (fun k=>k=b) w w7):=HS4.out.trans ((Sh.of (below_drewN (Below.refl _ _) _)).trans hs7)
      clear hs7
      go_wp2_with fail
      go_ret
      exact ⟨ret_int HR.out.symm,HS7.out,fun h=>by rw [HN.out];exact HK7.out (HR.out.symm.trans h)⟩
     ·have hq:(m.name.toList != n.name.toList)=true:=(bne_name _ _).2 hnm
      have hq2:(m.name.toList == n.name.toList)=false:=by rw [beq_names,decide_eq_false hnm]
      have HR:Hid (res=0):=HEN.out e3 hnm
      have HN:Hid (spN n m=sp1 n m):=by show spN n m=_;unfold spN;rw [if_neg hnm]
      clear hnm
      go_wp2_with fail
      go_quiet (fail)
      go_wp2_with fail
      go_ret
      exact ⟨ret_int HR.out.symm,HS4.out.trans (Sh.of (below_drewN (Below.refl _ _) _)),fun _=>by rw [HN.out];exact HWK4.out.below (below_drewN (Below.refl _ _) _)⟩
    ·have hp':(pe != 0)=true:=by simpa using hp
     have HR:Hid (res=pe):=(HEE.out (by rw [e1];exact hp)).trans e1
     have HPN:Hid (pe≠0):=hp
     have u0:w4.cell? ⟨w.heap.size,0,none⟩=some (.string m.name):=cellsAt HBX.out 0
     clear hp e1
     go_wp2_with fail
     go_quiet (fail)
     go_wp2_with fail
     go_ret
     exact ⟨ret_int HR.out.symm,HS4.out.trans (Sh.of (below_drewN (Below.refl _ _) _)),fun h=>absurd (HR.out.symm.trans h) HPN.out⟩
  ·have hj':(je != 0)=true:=by simpa using hj
   have hj2:decide (je=0)=false:=decide_eq_false hj
   have e1:=HD1.out hj
   have HR:Hid (res=je):=(HEE.out (by rw [e1];exact hj)).trans e1
   have HPN:Hid (je≠0):=hj
   clear hj e1 HD1 HD2 HD3
   go_wp2_with fail
   go_quiet (fail)
   go_wp2_with fail
   go_ret
   exact ⟨ret_int HR.out.symm,HSH.out.trans (Sh.of (below_drewN (Below.refl _ _) _)),fun h=>absurd (HR.out.symm.trans h) HPN.out⟩
def wsE (n:Nd) (t:ByteArray) (frm to:Int):Int:=
 if labB t=true then (if (fstM n.ms t).isSome=true then (if t=n.name then 6 else if (mOf n.ms t).state=frm then spE n { mOf n.ms t with state:=to } else 4) else 5) else 1
def wsN (n:Nd) (t:ByteArray) (to:Int):Nd:=spN n { mOf n.ms t with state:=to }
theorem mOf_mem {ms:List Mem} {t:ByteArray} (h:(fstM ms t).isSome=true):mOf ms t∈ms∧(mOf ms t).name=t:=by
 obtain ⟨m,hm⟩:=Option.isSome_iff_exists.1 h
 rw [mOf_some hm]
 exact fstM_mem hm
set_option maxHeartbeats 12800000 in
set_option maxRecDepth 100000 in
theorem worsen_any (L b:Nat) (n:Nd) (t:ByteArray) (frm to:Int) (w:World) (h:Wk L w b n) (hL:L≤b) (hms:chk n.ms=0) (hrs:chkR n.rs=0) (hl:labB n.name=true) (ht:t.size≤maxLen) (hto:within to 1 4=true) :
 Calls Tryz.prog 65 #[.pointer (some ⟨b,0,none⟩),.string t,.int .i64 frm,.int .i64 to] w fun e w'=>e=.returned (.int .i64 (wsE n t frm to))∧Sh (fun k=>k=b) w w'∧Hid (wsE n t frm to=0→Wk L w' b (wsN n t to)):=by
 have HWK:Hid (Wk L w b n):=h
 have hbl:=h.lt
 obtain ⟨vm,vr,vs,vg,vw,h1,h2,h3,h4⟩:=h
 have HIS:Hid (NdIs w n vm vr vs vg vw):=h2.is h4
 obtain ⟨am,cm,hvm,_⟩:=own_slice h2.ms
 subst hvm
 have HMB:Hid (Calls Tryz.prog 93 #[.pointer (some ⟨b,0,none⟩),.string t] w fun e w'=>e=.returned (.tuple #[.agg #[.string (mOf n.ms t).name,.int .i64 (mOf n.ms t).state,.int .i64 (mOf n.ms t).life,.int .i64 (mOf n.ms t).addr,.bool (mOf n.ms t).server],.bool (fstM n.ms t).isSome])∧Below w.heap.size w w'):=
  wmember_any b am n.ms.length cm n.ms t w (cellsAt h1 2) HIS.out.ms (by have:=(chk_zero hms).1;omega)
 have HSP:Hid ((fstM n.ms t).isSome=true→∀ W,Below w.heap.size w W→Calls Tryz.prog 89 #[.pointer (some ⟨b,0,none⟩),.agg #[.string (mOf n.ms t).name,.int .i64 to,.int .i64 (mOf n.ms t).life,.int .i64 (mOf n.ms t).addr,.bool (mOf n.ms t).server]] W fun e w'=>e=.returned (.int .i64 (spE n { mOf n.ms t with state:=to }))∧Sh (fun k=>k=b) W w'∧Hid (spE n { mOf n.ms t with state:=to }=0→Wk L w' b (wsN n t to))):=fun hs W hW=>by
  obtain ⟨g1,g2⟩:=mOf_mem hs
  have he:=(mem_e0 _).1 (chk_e0 hms _ g1)
  exact spread_any L b n { mOf n.ms t with state:=to } W (HWK.out.below hW) hL hms hrs hl ((mem_e0 _).2 ⟨he.1,hto,he.2.2.1,he.2.2.2⟩) (show (mOf n.ms t).name.size≤maxLen from h4.ms _ g1)
 have HX:Hid (∀ W,Below w.heap.size w W→W.cell? ⟨b,0,none⟩=some (.string n.name)):=fun W hW=>cellsAt ((hW.block _ hbl).trans h1) 0
 have HE:Hid (wsE n t frm to=if labB t=true then (if (fstM n.ms t).isSome=true then (if t=n.name then 6 else if (mOf n.ms t).state=frm then spE n { mOf n.ms t with state:=to } else 4) else 5) else 1):=rfl
 generalize wsE n t frm to=res at *
 generalize spE n { mOf n.ms t with state:=to }=se at *
 clear h1 h2 h3 h4 hms hrs
 generalize (fstM n.ms t).isSome=fd at *
 generalize hmm:mOf n.ms t=m at *
 clear hmm
 obtain ⟨mn,st,lf,ad,sv⟩:=m
 simp only at HMB HSP HE
 go_enter Tryz.func65,Tryz.ntmps65
 rcases hlab:labB t with _ | _
 ·have HR:Hid (res=1):=HE.out.trans (by rw [hlab];rfl)
  go_wp2_with (go_at_call 75;refine (label_any _ _ ht).mono ?_;rintro e w' ⟨rfl,rfl⟩;rw [hlab])
  go_ret
  exact ⟨ret_int HR.out.symm,Sh.refl _ _,fun h=>by have:=HR.out.symm.trans h;cases this⟩
 have HE2:Hid (res=if fd=true then (if t=n.name then 6 else if st=frm then se else 4) else 5):=HE.out.trans (by rw [hlab];rfl)
 clear HE
 go_wp2_with (first | (go_at_call 75;refine (label_any _ _ ht).mono ?_;rintro e w' ⟨rfl,hww⟩;have hwq:=hww.symm;subst hwq;rw [hlab]) | fail)
 refine HMB.out.mono ?_
 rintro e w1 ⟨rfl,hb1⟩
 obtain ⟨W2,hW2⟩:∃ W2,W2=w1.alloc (.cells #[.string mn,.int .i64 st,.int .i64 lf,.int .i64 ad,.bool sv] 56):=⟨_,rfl⟩
 have hb2:Below w.heap.size w W2:=by rw [hW2];exact hb1.alloc hb1.size _
 have hbb:w1.heap.size < W2.heap.size:=by rw [hW2];simp
 have hg2:W2.heap[w1.heap.size]?=some (.cells #[.string mn,.int .i64 st,.int .i64 lf,.int .i64 ad,.bool sv] 56 (0,0)):=by rw [hW2];exact heap_alloc_new w1 _
 have HB2:Hid (Below w.heap.size w W2):=hb2
 have hs1:w.heap.size≤w1.heap.size:=hb1.size
 obtain ⟨x0,x1,x2,x3,x4⟩:=cells5 hg2
 have zf:W2.frozen? ⟨w1.heap.size,1,none⟩=false:=frozen_of hg2 1
 have y0:W2.cell? ⟨b,0,none⟩=some (.string n.name):=HX.out W2 hb2
 go_upto_region 4 with fail
 rw [← hW2]
 clear hW2 hb1 hb2 HMB
 cases fd
 ·have HR:Hid (res=5):=HE2.out.trans (by simp)
  go_wp2_with fail
  go_ret
  exact ⟨ret_int HR.out.symm,Sh.of HB2.out,fun h=>by have:=HR.out.symm.trans h;cases this⟩
 by_cases hnm:t=n.name
 ·have HR:Hid (res=6):=HE2.out.trans (by simp [hnm])
  have hq:(t.toList == n.name.toList)=true:=by rw [hnm];simp
  have hq2:t.toList=n.name.toList:=by rw [hnm]
  clear hnm
  go_wp2_with fail
  go_ret
  exact ⟨ret_int HR.out.symm,Sh.of HB2.out,fun h=>by have:=HR.out.symm.trans h;cases this⟩
 have hq:(t.toList == n.name.toList)=false:=by rw [beq_names,decide_eq_false hnm]
 by_cases hst:st=frm
 ·have HR:Hid (res=se):=HE2.out.trans (by simp [hnm,hst])
  subst hst
  have HSC:=fun W hW=>HSP.out rfl W hW
  clear hnm HE2
  obtain ⟨W3,hW3⟩:∃ W3,W3=W2.setCell ⟨w1.heap.size,1,none⟩ (.int .i64 to):=⟨_,rfl⟩
  have HB3:Hid (Below w.heap.size w W3):=by rw [hW3];exact HB2.out.setCell (p:=⟨w1.heap.size,1,none⟩) hs1 _
  have hg3:W3.heap[w1.heap.size]?=some (.cells #[.string mn,.int .i64 to,.int .i64 lf,.int .i64 ad,.bool sv] 56 (0,0)):=by rw [hW3];exact Joins.block_setCell (i:=1) hg2 _
  obtain ⟨v0,v1,v2,v3,v4⟩:=cells5 hg3
  have HSC2:Hid (Calls Tryz.prog 89 #[.pointer (some ⟨b,0,none⟩),.agg #[.string mn,.int .i64 to,.int .i64 lf,.int .i64 ad,.bool sv]] W3 fun e w'=>e=.returned (.int .i64 se)∧Sh (fun k=>k=b) W3 w'∧Hid (se=0→Wk L w' b (wsN n t to))):=HSC W3 HB3.out
  clear HSC hg3 hg2
  go_upto_region 11 with fail
  rw [← hW3]
  clear hW3 x0 x1 x2 x3 x4 zf y0
  go_wp2_with fail
  refine HSC2.out.mono ?_
  rintro e w5 ⟨rfl,hs5,HK5⟩
  have HS5:Hid (Sh (fun k=>k=b) w w5):=(Sh.of HB3.out).trans hs5
  clear hs5
  go_wp2_with fail
  go_ret
  exact ⟨ret_int HR.out.symm,HS5.out,fun h=>HK5.out (HR.out.symm.trans h)⟩
 ·have HR:Hid (res=4):=HE2.out.trans (by simp [hnm,hst])
  have hst':(st != frm)=true:=by simpa using hst
  clear hnm hst HE2
  go_wp2_with fail
  go_ret
  exact ⟨ret_int HR.out.symm,Sh.of HB2.out,fun h=>by have:=HR.out.symm.trans h;cases this⟩
end Go.Proofs.YtffdoiokmiklgaaGreatDoor
namespace Go.Proofs.YtffdoiokmiklgaaGreatDoor
namespace Sv
open Go.RowKit
section
open Go.ChangeShapes Go.WideShapes Go.ChangeAt
variable {H:Type} {enc:TypeId × Value→H} {w:World} {base:Nat} {spare:Nat→Bool} {held:Bool}
end
end Sv
end Go.Proofs.YtffdoiokmiklgaaGreatDoor
namespace Go.Proofs.YtffdoiokmiklgaaGreatDoor
open Go.RowKit
theorem rise_set {ms:List Mem} {p:Nat} {x:Mem} (hr:Rise ms) (hx:x.name=(ms.getD p dm).name):Rise (ms.set p x):=by
 have hn:∀ j (h:j < ms.length),((ms.set p x)[j]'(by rw [List.length_set];exact h)).name=ms[j].name:=fun j h=>by
  rw [List.getElem_set]
  split
  ·rename_i e;subst e;rw [hx];simp [List.getD,List.getElem?_eq_getElem h]
  ·rfl
 refine List.pairwise_iff_getElem.2 fun i j hi hj hij=>?_
 rw [List.length_set] at hi hj
 rw [hn i hi,hn j hj]
 exact List.pairwise_iff_getElem.1 hr i j hi hj hij
structure Sp (n:Nd):Prop where
 ms:chk n.ms=0
 rs:chkR n.rs=0
 name:labB n.name=true
theorem rf_sp {n:Nd} (h:Sp n) (h0:rfE n=0):Sp (rfN n):=by
 unfold rfE at h0
 unfold rfN
 by_cases hR:refR n.ms (rfP n) (rfF n)=true
 ·obtain ⟨f1,f2,f3,f4,f5,f6,f7⟩:=rf_facts h.ms hR
  rw [if_pos (refE_of hR),if_pos hR] at h0
  rw [if_pos hR]
  obtain ⟨l1,l2,_⟩:=chk_zero h.ms
  refine ⟨chk_of ?_ ?_ ?_,chkR_put h.rs f5 h0,h.name⟩
  ·show (rfL n).length≤20;rw [f3,List.length_set];exact l1
  ·show Rise (rfL n);rw [f3];exact rise_set l2 rfl
  ·intro m hm
   have hm:m∈rfL n:=hm
   rw [f3] at hm
   rcases List.mem_or_eq_of_mem_set hm with hm | rfl
   ·exact chk_e0 h.ms m hm
   ·rw [← f4];exact f5
 ·rw [if_neg hR]
  have:rfL n=n.ms:=by unfold rfL refL;rw [if_neg hR]
  rw [this]
  exact h
theorem sp_sp {n:Nd} {m:Mem} (h:Sp n) (hm:m.e=0) (h0:spE n m=0):Sp (spN n m):=by
 unfold spE at h0
 split at h0
 ·rename_i h1
  have h2:Sp (sp1 n m):=⟨(sp1_ok h.ms h.rs hm h1).1,(sp1_ok h.ms h.rs hm h1).2,by rw [sp1_name];exact h.name⟩
  unfold spN
  by_cases hn:m.name=n.name
  ·rw [if_pos hn] at h0 ⊢;exact rf_sp h2 h0
  ·rw [if_neg hn];exact h2
 ·rename_i h1;exact absurd h0 h1
structure Rest (n n':Nd):Prop where
 name:n'.name=n.name
 centre:n'.centre=n.centre
 sv:n'.sv=n.sv
 gw:n'.gw=n.gw
 p:n'.p=n.p
 wh:n'.wh=n.wh
theorem Rest.refl (n:Nd):Rest n n:=⟨rfl,rfl,rfl,rfl,rfl,rfl⟩
theorem Rest.trans {a b c:Nd} (h:Rest a b) (k:Rest b c):Rest a c:=⟨k.name.trans h.name,k.centre.trans h.centre,k.sv.trans h.sv,k.gw.trans h.gw,k.p.trans h.p,k.wh.trans h.wh⟩
theorem rest_rf (n:Nd):Rest n (rfN n):=by unfold rfN;split<;>exact ⟨rfl,rfl,rfl,rfl,rfl,rfl⟩
theorem rest_sp1 (n:Nd) (m:Mem):Rest n (sp1 n m):=by unfold sp1;split<;>exact ⟨rfl,rfl,rfl,rfl,rfl,rfl⟩
theorem rest_sp (n:Nd) (m:Mem):Rest n (spN n m):=by
 unfold spN
 split
 ·exact (rest_sp1 n m).trans (rest_rf _)
 ·exact rest_sp1 n m
def hsE:Nd→List Mem→Int
 | _,[]=>0
 | n,m :: r=>if spE n m=0 then hsE (spN n m) r else spE n m
def hsN:Nd→List Mem→Nd
 | n,[]=>n
 | n,m :: r=>hsN (spN n m) r
theorem hs_snoc:∀ (l:List Mem) (n:Nd) (m:Mem),hsN n (l++[m])=spN (hsN n l) m∧(hsE n l=0→hsE n (l++[m])=spE (hsN n l) m)
 | [],n,m=>⟨rfl,fun _=>by
    show hsE n [m]=spE n m
    rw [hsE]
    split
    ·rename_i h;rw [h];rfl
    ·rfl⟩
 | x :: r,n,m=>by
   obtain ⟨h1,h2⟩:=hs_snoc r (spN n x) m
   refine ⟨h1,fun h=>?_⟩
   rw [hsE] at h
   split at h
   ·rename_i h0
    show hsE n (x :: (r++[m]))=_
    rw [hsE,if_pos h0]
    exact h2 h
   ·rename_i h0;exact absurd h h0
theorem hs_bad:∀ (l r:List Mem) (n:Nd),hsE n l≠0→hsE n (l++r)=hsE n l
 | [],r,n,h=>absurd rfl h
 | x :: l,r,n,h=>by
   show hsE n (x :: (l++r))=_
   rw [hsE] at h ⊢
   rw [hsE]
   split
   ·rename_i h0;rw [if_pos h0] at h;exact hs_bad l r _ h
   ·rfl
theorem hs_sp:∀ (l:List Mem) (n:Nd),Sp n→(∀ m∈l,m.e=0)→hsE n l=0→Sp (hsN n l)
 | [],n,h,_,_=>h
 | x :: r,n,h,hl,h0=>by
   rw [hsE] at h0
   split at h0
   ·rename_i h1
    exact hs_sp r (spN n x) (sp_sp h (hl x (by simp)) h1) (fun m hm=>hl m (by simp [hm])) h0
   ·rename_i h1;exact absurd h0 h1
theorem rest_hs:∀ (l:List Mem) (n:Nd),Rest n (hsN n l)
 | [],n=>Rest.refl n
 | x :: r,n=>(rest_sp n x).trans (rest_hs r _)
def hrE (n:Nd) (p:Pk):Int:=
 if p.e=0 then (if hsE n p.ms=0 then (if Sv.joinE n.sv p.sv=0 then Gw.joinE n.gw p.gw else Sv.joinE n.sv p.sv) else hsE n p.ms) else p.e
def hrN (n:Nd) (p:Pk):Nd:={ hsN n p.ms with sv:=Sv.joinL n.sv p.sv,gw:=Gw.joinL n.gw p.gw,wh:=lrn n.wh p.wh }
theorem pk_ms {p:Pk} (h:p.e=0):(∀ m∈p.ms,m.e=0)∧p.ms.length≤20∧Wh.chk p.wh=0∧Sv.chk p.sv=0∧Gw.chk p.gw=0:=by
 unfold Pk.e at h
 split at h
 ·rename_i h0
  split at h
  ·rename_i h1
   have hm:(∀ m∈p.ms,m.e=0)∧p.ms.length≤20:=by
    unfold Pk.mE at h1
    split at h1
    ·exact ⟨chk_e0 h1,(chk_zero h1).1⟩
    ·obtain ⟨a,b,_⟩:=chkT_zero h1
     exact ⟨firstE_mem _ b,by omega⟩
   split at h
   ·rename_i h2
    split at h
    ·rename_i h3;exact ⟨hm.1,hm.2,h,h2,h3⟩
    ·rename_i h3;exact absurd h h3
   ·rename_i h2;exact absurd h h2
  ·rename_i h1;exact absurd h h1
 ·cases h
end Go.Proofs.YtffdoiokmiklgaaGreatDoor
namespace Go.Proofs.YtffdoiokmiklgaaGreatDoor
namespace Sv
open Go.RowKit
end Sv
end Go.Proofs.YtffdoiokmiklgaaGreatDoor
