import Derived.Test.YtffdoiokmiklgaaGreatDoorW32
namespace Go.Proofs.YtffdoiokmiklgaaGreatDoor
open Go.RowKit
theorem Wk.cellsN {L b:Nat} {W:World} {n:Nd} (h:Wk L W b n):∃ a k c a2 k2 c2 vm vr vw,W.heap[b]?=some (.cells (ndA n vm vr (.slice a k c) (.slice a2 k2 c2) vw) 133 (0,0))∧Sv.Sl W (.slice a k c) n.sv∧Gw.Sl W (.slice a2 k2 c2) n.gw:=by
 obtain ⟨vm,vr,vs,vg,vw,h1,h2,h3,h4⟩:=h
 obtain ⟨a,c,hv,_⟩:=own_slice h2.sv
 obtain ⟨a2,c2,hv2,_⟩:=own_slice h2.gw
 subst hv hv2
 exact ⟨a,_,c,a2,_,c2,vm,vr,vw,h1,(h2.is h4).sv,(h2.is h4).gw⟩
theorem Wk.okN {L b:Nat} {W:World} {n:Nd} (h:Wk L W b n):NdOk n:=by
 obtain ⟨_,_,_,_,_,_,_,_,h4⟩:=h
 exact h4
theorem Sv.Sl.oks {w:World} {v:Value} {ms:List Sv.Svc} (h:Sv.Sl w v ms):∀ j,(ms.getD j Sv.dm).ok:=by
 obtain ⟨_,_,_,h2,_⟩:=h;exact h2
theorem Gw.Sl.oks {w:World} {v:Value} {ms:List Gw.Gwy} (h:Gw.Sl w v ms):∀ j,(ms.getD j Gw.dm).ok:=by
 obtain ⟨_,_,_,h2,_⟩:=h;exact h2
set_option maxHeartbeats 51200000 in
set_option maxRecDepth 100000 in
theorem whear_any (L b:Nat) (n:Nd) (p:Pk) (vm vs vg vw:Value) (w0 w:World) (h:Wk L w b n) (hL:L≤b) (hsp:Sp n) (hsv:Sv.chk n.sv=0) (hgw:Gw.chk n.gw=0) (hwf:Wh.Fine n.wh) (hx:PkIs w0 p vm vs vg vw) (hB:Below w0.heap.size w0 w) (hBL:w0.heap.size≤L) (hlen:p.whole=true∨p.sv.length+p.gw.length+p.wh.length≤4611686018427387904) :
 Calls Tryz.prog 63 #[.pointer (some ⟨b,0,none⟩),.agg #[.string p.frm,.bool p.whole,vm,vs,vg,vw]] w fun e w'=>e=.returned (.int .i64 (hrE n p))∧Sh (fun k=>L≤k) w w'∧Hid (hrE n p=0→Wk L w' b (hrN n p)):=by
 have HWK:Hid (Wk L w b n):=h
 have hbl:=h.lt
 have HB:Hid (Below w0.heap.size w0 w):=hB
 have HSP0:Hid (Sp n):=hsp
 have HE:Hid (hrE n p=if p.e=0 then (if hsE n p.ms=0 then (if Sv.joinE n.sv p.sv=0 then Gw.joinE n.gw p.gw else Sv.joinE n.sv p.sv) else hsE n p.ms) else p.e):=rfl
 have HNN:Hid (hrN n p={ hsN n p.ms with sv:=Sv.joinL n.sv p.sv,gw:=Gw.joinL n.gw p.gw,wh:=lrn n.wh p.wh }):=rfl
 have HCK:Hid (∀ W,Below w0.heap.size w0 W→Calls Tryz.prog 88 #[.agg #[.string p.frm,.bool p.whole,vm,vs,vg,vw]] W fun e w'=>e=.returned (.int .i64 p.e)∧Below W.heap.size W w'):=fun W hW=>pcheck_any p vm vs vg vw W (hx.below hW) hlen
 have HPM:Hid (p.e=0→(∀ m∈p.ms,m.e=0)∧p.ms.length≤20∧p.wh.length≤20):=fun h=>⟨(pk_ms h).1,(pk_ms h).2.1,(Wh.chk_zero (pk_ms h).2.2.1).1⟩
 have HXI:Hid (PkIs w0 p vm vs vg vw):=hx
 have HRS:Hid (∀ l,Rest n (hsN n l)):=fun l=>rest_hs l n
 have HSV:Hid (Sv.chk n.sv=0):=hsv
 have HGW:Hid (Gw.chk n.gw=0):=hgw
 have HWF:Hid (Wh.Fine n.wh):=hwf
 obtain ⟨frm,whole,ms,sv,gw,wh⟩:=p
 obtain ⟨hms,hpsv,hpgw,hpwh,hfr,hroom⟩:=hx
 simp only at hms hpsv hpgw hpwh hlen HE HNN HCK HPM
 obtain ⟨pm,cm,rfl,hms1,hms2⟩:=hms
 obtain ⟨ps,cs,rfl,_,_⟩:=hpsv
 obtain ⟨pg,cg,rfl,_,_⟩:=hpgw
 obtain ⟨ph,ch,rfl,_,_⟩:=hpwh
 have HROW:Hid (ms=[]∨∃ b off,pm=some ⟨b,off,none⟩∧b < w0.heap.size∧Row w0 b off ms):=hms2
 have HMZ:Hid (∀ j,(ms.getD j dm).name.size≤maxLen):=hms1
 clear hms1 hms2 h hB hsp hsv hgw hwf hlen hroom hfr
 have HJS:Hid (∀ W va,Below w0.heap.size w0 W→Sv.Sl W va n.sv→Calls Tryz.prog 90 #[va,.slice ps sv.length cs] W fun e w'=>∃ a k c,e=.returned (.tuple #[.slice a k c,.int .i64 (Sv.joinE n.sv sv)])∧Below W.heap.size W w'∧(Sv.joinE n.sv sv=0→Sv.Own W.heap.size w' (.slice a k c) (Sv.joinL n.sv sv))):=fun W va hW hva=>by
  refine (Sv.join2_any n.sv sv va _ W hva (HXI.out.sv.below hW)).mono ?_
  rintro e w' ⟨v',rfl,hb,h1,h2⟩
  by_cases h0:Sv.joinE n.sv sv=0
  ·obtain ⟨a,c,rfl,_⟩:=own_slice (h2 h0)
   exact ⟨a,_,c,rfl,hb,h2⟩
  ·rw [h1 h0];exact ⟨none,0,0,rfl,hb,fun h=>absurd h h0⟩
 have HJG:Hid (∀ W va,Below w0.heap.size w0 W→Gw.Sl W va n.gw→Calls Tryz.prog 91 #[va,.slice pg gw.length cg] W fun e w'=>∃ a k c,e=.returned (.tuple #[.slice a k c,.int .i64 (Gw.joinE n.gw gw)])∧Below W.heap.size W w'∧(Gw.joinE n.gw gw=0→Gw.Own W.heap.size w' (.slice a k c) (Gw.joinL n.gw gw))):=fun W va hW hva=>by
  refine (Gw.join2_any n.gw gw va _ W hva (HXI.out.gw.below hW)).mono ?_
  rintro e w' ⟨v',rfl,hb,h1,h2⟩
  by_cases h0:Gw.joinE n.gw gw=0
  ·obtain ⟨a,c,rfl,_⟩:=own_slice (h2 h0)
   exact ⟨a,_,c,rfl,hb,h2⟩
  ·rw [h1 h0];exact ⟨none,0,0,rfl,hb,fun h=>absurd h h0⟩
 have HJO:Hid (∀ m∈Sv.joinL n.sv sv,m.ok):=Sv.ns_join sv n.sv HWK.out.okN.sv (Sv.ns_mem HXI.out.sv.oks)
 have HJP:Hid (∀ m∈Gw.joinL n.gw gw,m.ok):=Gw.ns_join gw n.gw HWK.out.okN.gw (Gw.ns_mem HXI.out.gw.oks)
 have HLN:Hid (∀ W nd,Wk L W b nd→nd.wh=n.wh→Below w0.heap.size w0 W→wh.length≤20→Calls Tryz.prog 92 #[.pointer (some ⟨b,0,none⟩),.slice ph wh.length ch] W fun e w'=>e=.returned (.tuple #[])∧Sh (fun k=>L≤k) W w'∧Wk L w' b { nd with wh:=lrn n.wh wh }):=fun W nd hW hn hB hl=>by
  have:=learn_any L b nd wh _ w0 W hW hL (by rw [hn];exact HWF.out) HXI.out.wh hB hBL (by omega)
  rw [hn] at this;exact this
 generalize Pk.e ⟨frm,whole,ms,sv,gw,wh⟩=pe at *
 generalize hrE n ⟨frm,whole,ms,sv,gw,wh⟩=res at *
 generalize hkm:ms.length=km at *
 have HKM:Hid (ms.length=km):=hkm
 clear hkm
 generalize sv.length=ks at *
 generalize gw.length=kg at *
 generalize wh.length=kh at *
 obtain ⟨W0,hW0⟩:∃ W0,W0=w.alloc (.cells #[.string frm,.bool whole,.slice pm km cm,.slice ps ks cs,.slice pg kg cg,.slice ph kh ch] 67):=⟨_,rfl⟩
 have hb0:Below w.heap.size w W0:=by rw [hW0];exact (Below.refl _ _).alloc (Nat.le_refl _) _
 have hg0:W0.heap[w.heap.size]?=some (.cells #[.string frm,.bool whole,.slice pm km cm,.slice ps ks cs,.slice pg kg cg,.slice ph kh ch] 67 (0,0)):=by rw [hW0];exact heap_alloc_new w _
 have hs0:W0.heap.size=w.heap.size+1:=by rw [hW0];simp
 have HB0:Hid (Below w.heap.size w W0):=hb0
 have HG0:Hid (W0.heap[w.heap.size]?=some (.cells #[.string frm,.bool whole,.slice pm km cm,.slice ps ks cs,.slice pg kg cg,.slice ph kh ch] 67 (0,0))):=hg0
 have HBB:Hid (∀ W,Sh (fun k=>k=b) W0 W→Below w0.heap.size w0 W∧W.heap[w.heap.size]?=some (.cells #[.string frm,.bool whole,.slice pm km cm,.slice ps ks cs,.slice pg kg cg,.slice ph kh ch] 67 (0,0))∧Sh (fun k=>L≤k) w W∧w.heap.size < W.heap.size):=fun W hW=>
  ⟨HB.out.trans ((hb0.mono HB.out.size).trans (hW.below (by have:=HB.out.size;omega) (fun k hk=>by omega))),(hW.block _ (by omega) (by omega)).trans hg0,(Sh.of hb0).trans (hW.mono (fun k hk=>by omega)),by have:=hW.size;omega⟩
 clear hb0 hg0
 go_enter Tryz.func63,Tryz.ntmps63
 go_wp2_with fail
 rw [← hW0]
 refine (HCK.out W0 (HBB.out W0 (Sh.refl _ _)).1).mono ?_
 rintro e w1 ⟨rfl,hb1⟩
 have HS1:Hid (Sh (fun k=>k=b) W0 w1):=Sh.of hb1
 have HWK1:Hid (Wk L w1 b n):=(HWK.out.below HB0.out).below hb1
 clear hb1 hW0
 obtain ⟨_,hg1,hsh1,hsz1⟩:=HBB.out w1 HS1.out
 have q2:w1.cell? ⟨w.heap.size,2,none⟩=some (.slice pm km cm):=cellsAt hg1 2
 have HSH1:Hid (Sh (fun k=>L≤k) w w1):=hsh1
 clear hg1 hsh1
 by_cases hpe:pe=0
 rotate_left
 ·have hpe':(pe != 0)=true:=by simpa using hpe
  have HR:Hid (res=pe):=HE.out.trans (if_neg hpe)
  have HPN:Hid (pe≠0):=hpe
  clear hpe
  go_wp2_with fail
  go_ret
  exact ⟨ret_int HR.out.symm,HSH1.out,fun h=>absurd (HR.out.symm.trans h) HPN.out⟩
 have HE2:Hid (res=(if hsE n ms=0 then (if Sv.joinE n.sv sv=0 then Gw.joinE n.gw gw else Sv.joinE n.sv sv) else hsE n ms)):=HE.out.trans (if_pos hpe)
 obtain ⟨hme,hml,hwl⟩:=HPM.out hpe
 have HME:Hid (∀ m∈ms,m.e=0):=hme
 have HWL:Hid (kh≤20):=hwl
 subst hpe
 clear HE HPM hme hwl HCK
 go_wp2_with fail
 go_loopw [18] (fun i wr=>∃ k:Nat,k≤km∧i=.int .i64 k∧Hid (Sh (fun k=>k=b) W0 wr)∧Hid (hsE n (ms.take k)=0)∧Hid (Wk L wr b (hsN n (ms.take k)))) (fun i _=>km - (intOf i).toNat)
 case atStart=>exact ⟨0,Nat.zero_le _,rfl,HS1,rfl,HWK1⟩
 case round=>
  clear q2 hsz1
  obtain ⟨k,hk,rfl,HS,HZ,HW⟩:=hrel
  obtain ⟨hBr,hgr,hshr,hszr⟩:=HBB.out wr HS.out
  have HBr:Hid (Below w0.heap.size w0 wr):=hBr
  have HSHr:Hid (Sh (fun k=>L≤k) w wr):=hshr
  have HGr:Hid (wr.heap[w.heap.size]?=some (.cells #[.string frm,.bool whole,.slice pm km cm,.slice ps ks cs,.slice pg kg cg,.slice ph kh ch] 67 (0,0))):=hgr
  clear hBr hshr hgr
  by_cases hlt:k < km
  ·obtain ⟨b2,o2,hp,hl2,hr⟩:∃ b off,pm=some ⟨b,off,none⟩∧b < w0.heap.size∧Row w0 b off ms:=by
    rcases HROW.out with h | h
    ·have:=HKM.out;rw [h] at this;simp at this;omega
    ·exact h
   subst hp
   have hkl:k < ms.length:=by rw [HKM.out];exact hlt
   obtain ⟨c0,c1,c2,c3,c4⟩:_∧_∧_∧_∧_:=by
    have hq:=hr k hkl
    have hc:∀ o,wr.cell? ⟨b2,o,none⟩=w0.cell? ⟨b2,o,none⟩:=fun o=>HBr.out.cell (p:=⟨b2,o,none⟩) hl2
    simp only [← hc] at hq
    exact hq
   clear hr
   have hgm:ms.getD k dm=ms[k]:=by simp [List.getD,List.getElem?_eq_getElem hkl]
   have hmz:=HMZ.out k
   have hmk:(ms.getD k dm).e=0:=by rw [hgm];exact HME.out _ (List.getElem_mem _)
   have htk:ms.take (k+1)=ms.take k++[ms.getD k dm]:=by rw [hgm];exact List.take_succ_eq_append_getElem hkl
   obtain ⟨hs1,hs2⟩:=hs_snoc (ms.take k) n (ms.getD k dm)
   rw [← htk] at hs1 hs2
   have HN1:Hid (hsN n (ms.take (k+1))=spN (hsN n (ms.take k)) (ms.getD k dm)):=hs1
   have HE1:Hid (hsE n (ms.take (k+1))=spE (hsN n (ms.take k)) (ms.getD k dm)):=hs2 HZ.out
   have HBD:Hid (spE (hsN n (ms.take k)) (ms.getD k dm)≠0→res=spE (hsN n (ms.take k)) (ms.getD k dm)):=fun hne=>by
    have e1:hsE n (ms.take (k+1))≠0:=by rw [HE1.out];exact hne
    have e2:=hs_bad (ms.take (k+1)) (ms.drop (k+1)) n e1
    rw [List.take_append_drop,HE1.out] at e2
    exact HE2.out.trans (by rw [e2,if_neg hne])
   have HSPk:Hid (Sp (hsN n (ms.take k))):=hs_sp (ms.take k) n HSP0.out (fun m hm=>HME.out m (List.mem_of_mem_take hm)) HZ.out
   have HSC:Hid (∀ W,Below wr.heap.size wr W→Calls Tryz.prog 89 #[.pointer (some ⟨b,0,none⟩),.agg #[.string (ms.getD k dm).name,.int .i64 (ms.getD k dm).state,.int .i64 (ms.getD k dm).life,.int .i64 (ms.getD k dm).addr,.bool (ms.getD k dm).server]] W fun e w'=>e=.returned (.int .i64 (spE (hsN n (ms.take k)) (ms.getD k dm)))∧Sh (fun k=>k=b) W w'∧Hid (spE (hsN n (ms.take k)) (ms.getD k dm)=0→Wk L w' b (hsN n (ms.take (k+1))))):=fun W hW=>by
    have h:=spread_any L b (hsN n (ms.take k)) (ms.getD k dm) W (HW.out.below hW) hL HSPk.out.ms HSPk.out.rs HSPk.out.name hmk hmz
    rw [← HN1.out] at h;exact h
   clear htk hs1 hs2 hgm hmk
   generalize spE (hsN n (ms.take k)) (ms.getD k dm)=se at *
   generalize ms.getD k dm=mk at *
   obtain ⟨mn,st,lf,ad,sv2⟩:=mk
   simp only at c0 c1 c2 c3 c4 HSC
   go_wp2_with fail
   refine (HSC.out _ ((Below.refl _ _).alloc (Nat.le_refl _) _)).mono ?_
   rintro e w3 ⟨rfl,hs3,HK3⟩
   have HS3:Hid (Sh (fun k=>k=b) W0 w3):=(HS.out.alloc _).trans hs3
   have HSH3:Hid (Sh (fun k=>L≤k) w w3):=(HBB.out w3 HS3.out).2.2.1
   clear hs3 c0 c1 c2 c3 c4
   by_cases hse:se=0
   ·have HZ3:Hid (hsE n (ms.take (k+1))=0):=HE1.out.trans hse
    have HW3:Hid (Wk L w3 b (hsN n (ms.take (k+1)))):=HK3.out hse
    subst hse
    clear HK3 HBD HE1
    go_wp2_with fail
    go_roundw
    case rel=>exact ⟨k+1,by omega,by go_num,HS3,HZ3,HW3⟩
    case measure=>simp [intOf];omega
   ·have hse':(se != 0)=true:=by simpa using hse
    have HR:Hid (res=se):=HBD.out hse
    have HPN:Hid (se≠0):=hse
    clear hse HK3 HBD HE1
    go_wp2_with fail
    go_ret
    exact ⟨ret_int HR.out.symm,HSH3.out,fun h=>absurd (HR.out.symm.trans h) HPN.out⟩
  ·have hkk:km=k:=by omega
   subst hkk
   have htk:ms.take km=ms:=List.take_of_length_le (by rw [HKM.out];exact Nat.le_refl _)
   rw [htk] at HZ HW
   have HE3:Hid (res=(if Sv.joinE n.sv sv=0 then Gw.joinE n.gw gw else Sv.joinE n.sv sv)):=HE2.out.trans (if_pos HZ.out)
   clear htk HE2
   have HRT:Hid (Rest n (hsN n ms)):=HRS.out ms
   generalize hnd:hsN n ms=nd at *
   clear hnd
   obtain ⟨as_,ka,ca,ag_,kg2,cg2,vm2,vr2,vw2,h1,h2,h3⟩:=HW.out.cellsN
   rw [HRT.out.sv] at h2
   rw [HRT.out.gw] at h3
   have y4:wr.cell? ⟨b,4,none⟩=some (.slice as_ ka ca):=cellsAt h1 4
   have x3:wr.cell? ⟨w.heap.size,3,none⟩=some (.slice ps ks cs):=cellsAt HGr.out 3
   have HJC:Hid (Calls Tryz.prog 90 #[.slice as_ ka ca,.slice ps ks cs] wr.drew fun e w'=>∃ a k c,e=.returned (.tuple #[.slice a k c,.int .i64 (Sv.joinE n.sv sv)])∧Below wr.heap.size wr w'∧(Sv.joinE n.sv sv=0→Sv.Own wr.heap.size w' (.slice a k c) (Sv.joinL n.sv sv))):=(HJS.out wr.drew _ HBr.out.drew h2).mono (by rintro e w' ⟨a,k,c,rfl,hb,ho⟩;exact ⟨a,k,c,rfl,(Below.refl wr.heap.size wr).drew.trans hb,ho⟩)
   have HX1:Hid (∀ W,Below wr.heap.size wr W→W.heap[b]?=some (.cells (ndA nd vm2 vr2 (.slice as_ ka ca) (.slice ag_ kg2 cg2) vw2) 133 (0,0))):=fun W hW=>(hW.block _ HW.out.lt).trans h1
   have HST:Hid (∀ w1 a k c,Below wr.heap.size wr w1→(Sv.joinE n.sv sv=0→Sv.Own wr.heap.size w1 (.slice a k c) (Sv.joinL n.sv sv))→Sv.joinE n.sv sv=0→Wk L (w1.setCell ⟨b,4,none⟩ (.slice a k c)) b { nd with sv:=Sv.joinL n.sv sv }):=fun w1 a k c g1 g2 g0=>HW.out.set_sv (by have:=HW.out.lt;omega) g1 (g2 g0) HJO.out
   generalize Sv.joinE n.sv sv=je at *
   generalize Gw.joinE n.gw gw=ge at *
   clear h1 h2 h3 HJS
   go_wp2_with fail
   go_region_with (first | (go_at_call 90;refine HJC.out.mono ?_;rintro e w4 ⟨a,k1,c,rfl,hb4,ho4⟩;have HS4:Hid (Sh (fun k=>k=b) W0 (w4.setCell ⟨b,4,none⟩ (.slice a k1 c))):=(HS.out.next hb4).setCell (S:=fun k=>k=b) rfl _;have HO4:Hid (je=0→Wk L (w4.setCell ⟨b,4,none⟩ (.slice a k1 c)) b { nd with sv:=Sv.joinL n.sv sv }):=HST.out w4 a k1 c hb4 ho4;have hgx:=HX1.out w4 hb4;have z4:w4.cell? ⟨b,4,none⟩=some (.slice as_ ka ca):=cellsAt hgx 4;have zf:w4.frozen? ⟨b,4,none⟩=false:=frozen_of hgx 4;clear hb4 ho4 hgx))
   all_goals
    obtain ⟨W5,hW5⟩:∃ W5,W5=w4.setCell ⟨b,4,none⟩ (.slice a k1 c):=⟨_,rfl⟩
    rw [← hW5] at HS4 HO4
    rw [← hW5]
    clear hW5 z4 zf y4 x3 HX1 HJC HST
    obtain ⟨hB5,hg5,hsh5,hsz5⟩:=HBB.out W5 HS4.out
    have HB5:Hid (Below w0.heap.size w0 W5):=hB5
    have HG5:Hid (W5.heap[w.heap.size]?=some (.cells #[.string frm,.bool whole,.slice pm km cm,.slice ps ks cs,.slice pg kg cg,.slice ph kh ch] 67 (0,0))):=hg5
    have HSH5:Hid (Sh (fun k=>L≤k) w W5):=hsh5
    clear hB5 hg5 hsh5
    by_cases hje:je=0
    rotate_left
    ·have hje':(je != 0)=true:=by simpa using hje
     have HR:Hid (res=je):=HE3.out.trans (if_neg hje)
     have HPN:Hid (je≠0):=hje
     clear hje
     go_wp2_with fail
     go_ret
     exact ⟨ret_int HR.out.symm,HSH5.out,fun h=>absurd (HR.out.symm.trans h) HPN.out⟩
    ·have HW5:Hid (Wk L W5 b { nd with sv:=Sv.joinL n.sv sv }):=HO4.out hje
     have HE4:Hid (res=ge):=HE3.out.trans (if_pos hje)
     subst hje
     clear HO4 HE3
     obtain ⟨as3,ka3,ca3,ag3,kg3,cg3,vm3,vr3,vw3,h1,_,h3⟩:=HW5.out.cellsN
     have h3:Gw.Sl W5 (.slice ag3 kg3 cg3) n.gw:=by rw [← HRT.out.gw];exact h3
     have y5:W5.cell? ⟨b,5,none⟩=some (.slice ag3 kg3 cg3):=cellsAt h1 5
     have x4:W5.cell? ⟨w.heap.size,4,none⟩=some (.slice pg kg cg):=cellsAt HG5.out 4
     have HJC:Hid (Calls Tryz.prog 91 #[.slice ag3 kg3 cg3,.slice pg kg cg] W5.drew fun e w'=>∃ a k c,e=.returned (.tuple #[.slice a k c,.int .i64 ge])∧Below W5.heap.size W5 w'∧(ge=0→Gw.Own W5.heap.size w' (.slice a k c) (Gw.joinL n.gw gw))):=(HJG.out W5.drew _ HB5.out.drew h3).mono (by rintro e w' ⟨a,k,c,rfl,hb,ho⟩;exact ⟨a,k,c,rfl,(Below.refl W5.heap.size W5).drew.trans hb,ho⟩)
     have HX1:Hid (∀ W,Below W5.heap.size W5 W→W.heap[b]?=some (.cells (ndA { nd with sv:=Sv.joinL n.sv sv } vm3 vr3 (.slice as3 ka3 ca3) (.slice ag3 kg3 cg3) vw3) 133 (0,0))):=fun W hW=>(hW.block _ HW5.out.lt).trans h1
     have HST:Hid (∀ w1 a k c,Below W5.heap.size W5 w1→(ge=0→Gw.Own W5.heap.size w1 (.slice a k c) (Gw.joinL n.gw gw))→ge=0→Wk L (w1.setCell ⟨b,5,none⟩ (.slice a k c)) b { nd with sv:=Sv.joinL n.sv sv,gw:=Gw.joinL n.gw gw }):=fun w1 a k c g1 g2 g0=>HW5.out.set_gw (by have:=HW5.out.lt;omega) g1 (g2 g0) HJP.out
     clear h1 h3
     go_wp2_with fail
     go_region_with (first | (go_at_call 91;refine HJC.out.mono ?_;rintro e w6 ⟨a6,k6,c6,rfl,hb6,ho6⟩;have HS6:Hid (Sh (fun k=>k=b) W0 (w6.setCell ⟨b,5,none⟩ (.slice a6 k6 c6))):=(HS4.out.next hb6).setCell (S:=fun k=>k=b) rfl _;have HO6:Hid (ge=0→Wk L (w6.setCell ⟨b,5,none⟩ (.slice a6 k6 c6)) b { nd with sv:=Sv.joinL n.sv sv,gw:=Gw.joinL n.gw gw }):=HST.out w6 a6 k6 c6 hb6 ho6;have hgx:=HX1.out w6 hb6;have z5:w6.cell? ⟨b,5,none⟩=some (.slice ag3 kg3 cg3):=cellsAt hgx 5;have zf:w6.frozen? ⟨b,5,none⟩=false:=frozen_of hgx 5;clear hb6 ho6 hgx))
     all_goals
      obtain ⟨W7,hW7⟩:∃ W7,W7=w6.setCell ⟨b,5,none⟩ (.slice a6 k6 c6):=⟨_,rfl⟩
      rw [← hW7] at HS6 HO6
      rw [← hW7]
      clear hW7 z5 zf y5 x4 HX1 HJC HST
      obtain ⟨hB7,hg7,hsh7,hsz7⟩:=HBB.out W7 HS6.out
      have HB7:Hid (Below w0.heap.size w0 W7):=hB7
      have HSH7:Hid (Sh (fun k=>L≤k) w W7):=hsh7
      have x5:W7.cell? ⟨w.heap.size,5,none⟩=some (.slice ph kh ch):=cellsAt hg7 5
      clear hB7 hg7 hsh7
      by_cases hge:ge=0
      rotate_left
      ·have hge':(ge != 0)=true:=by simpa using hge
       have HPN:Hid (ge≠0):=hge
       clear hge
       go_wp2_with fail
       go_ret
       exact ⟨ret_int HE4.out.symm,HSH7.out,fun h=>absurd (HE4.out.symm.trans h) HPN.out⟩
      ·have HLC:=HLN.out W7 { nd with sv:=Sv.joinL n.sv sv,gw:=Gw.joinL n.gw gw } (HO6.out hge) HRT.out.wh HB7.out HWL.out
       have HR0:Hid (res=0):=HE4.out.trans hge
       subst hge
       clear HO6
       go_wp2_with fail
       refine HLC.mono ?_
       rintro e w8 ⟨rfl,hs8,hk8⟩
       have HS8:Hid (Sh (fun k=>L≤k) w w8):=HSH7.out.trans hs8
       have HK8:Hid (Wk L w8 b (hrN n ⟨frm,whole,ms,sv,gw,wh⟩)):=by rw [HNN.out];exact hk8
       clear hs8 hk8
       go_wp2_with fail
       go_ret
       exact ⟨ret_int HR0.out.symm,HS8.out,fun _=>HK8.out⟩
end Go.Proofs.YtffdoiokmiklgaaGreatDoor
