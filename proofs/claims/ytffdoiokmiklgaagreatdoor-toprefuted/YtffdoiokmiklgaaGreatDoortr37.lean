import Derived.Test.YtffdoiokmiklgaaGreatDoortr10
import Derived.Test.YtffdoiokmiklgaaGreatDoortr22
import Derived.Test.YtffdoiokmiklgaaGreatDoortr8
namespace Go.Proofs.YtffdoiokmiklgaaGreatDoor
namespace Sv
open Go.RowKit
set_option maxHeartbeats 1600000 in
theorem rjoin_none (pa pv:Option Addr) (ca cb pb cap:Nat) (w:World) (hc0:w.cell? ⟨pb,0,none⟩=some (.slice pa 0 ca)) (hc1:w.cell? ⟨pb,1,none⟩=some (.slice pv 0 cb)) :
 Calls Tryz.prog 198 #[.func (.func 184) #[] #[],.func (.func 199) #[] #[],.slice (some ⟨pb,0,none⟩) 2 cap] w fun e w'=>e=.returned (.slice none 0 0)∧w'=w:=by
 go_enter Tryz.func198,Tryz.ntmps198
 go_wp2_with fail
 go_loopw [7,16] (fun kn i w'=>∃ k:Nat,k≤2∧i=.int .i64 k∧kn=.slice none 0 0∧w'=w) (fun _ i _=>2 - (intOf i).toNat)
 case atStart=>exact ⟨0,by omega,rfl,rfl,rfl⟩
 case round=>
  obtain ⟨k,hk,rfl,rfl,rfl⟩:=hrel
  by_cases hlt:k < 2
  ·have hc:∃ (p:Option Addr) (c:Nat),wr.cell? ⟨pb,k,none⟩=some (.slice p 0 c):=by
    rcases Nat.lt_or_ge k 1 with h | h
    ·have:k=0:=by omega
     subst this;exact ⟨_,_,hc0⟩
    ·have:k=1:=by omega
     subst this;exact ⟨_,_,hc1⟩
   obtain ⟨p,c,hc⟩:=hc
   have hk2:(k:Int) < 2:=by omega
   clear hc0 hc1
   go_wp2_with fail
   go_loopw [7,22] (fun kn j w'=>kn=.slice none 0 0∧j=.int .i64 0∧w'=wr) (fun _ _ _=>0)
   case atStart=>exact ⟨rfl,rfl,rfl⟩
   case round=>
    obtain ⟨rfl,rfl,rfl⟩:=hrel
    go_wp2_with fail
    first
    | exact ⟨⟨k+1,by omega,by go_num,by simp,by simp⟩,by simp [intOf];omega⟩
    | (go_roundw
       case rel=>exact ⟨k+1,by omega,by go_num,by simp,by simp⟩
       case measure=>simp [intOf];omega)
  ·have hd:decide ((k:Int) < 2)=false:=by simp;omega
   go_wp2_with fail
   go_ret
   exact ⟨rfl,rfl⟩
set_option maxHeartbeats 1600000 in
theorem join_none (pa pv:Option Addr) (ca cb:Nat) (w:World) :
 Calls Tryz.prog 90 #[.slice pa 0 ca,.slice pv 0 cb] w fun e w'=>e=.returned (.tuple #[.slice none 0 0,.int .i64 0])∧Below w.heap.size w w':=by
 have HJ:Hid (∀ (W:World) (pb cap:Nat),pb < W.heap.size→W.cell? ⟨pb,0,none⟩=some (.slice pa 0 ca)→W.cell? ⟨pb,1,none⟩=some (.slice pv 0 cb)→Calls Tryz.prog 137 #[.slice (some ⟨pb,0,none⟩) 2 cap] W fun e w'=>e=.returned (.tuple #[.slice none 0 0,.int .i64 0])∧Below W.heap.size W w'):=fun W pb cap hpb h0 h1=>by
  have hn:∀ (p:Option Addr) (c:Nat),Sl W (.slice p 0 c) []:=fun p c=>⟨p,c,rfl,ns_get (by simp),.inl rfl⟩
  have HC:Hid (Calls Tryz.prog 197 #[.slice (some ⟨pb,0,none⟩) 2 cap] W fun e w'=>e=.returned (.int .i64 0)∧Below W.heap.size W w'):=checkAll_two [] [] _ _ pb cap W (hn pa ca) (hn pv cb) hpb h0 h1
  have HR:Hid (∀ w1,Below W.heap.size W w1→Calls Tryz.prog 198 #[.func (.func 184) #[] #[],.func (.func 199) #[] #[],.slice (some ⟨pb,0,none⟩) 2 cap] w1 fun e w'=>e=.returned (.slice none 0 0)∧w'=w1):=fun w1 hb1=>rjoin_none pa pv ca cb pb cap w1 ((bcell hb1).1 pb 0 hpb |>.trans h0) ((bcell hb1).1 pb 1 hpb |>.trans h1)
  clear hn
  go_enter Tryz.func137,Tryz.ntmps137
  go_wp2_with fail
  refine HC.out.mono ?_
  rintro e w1 ⟨rfl,hb1⟩
  have HB1:Hid (Below W.heap.size W w1):=hb1
  have HR1:=HR.out w1 hb1
  clear hb1 HR HC
  go_wp2_with fail
  refine HR1.mono ?_
  rintro e w2 ⟨rfl,hw2⟩
  have hw3:=hw2.symm
  subst hw3
  go_wp2_with fail
  go_ret2
  exact ⟨rfl,HB1.out⟩
 go_enter Tryz.func90,Tryz.ntmps90
 go_wp2_with fail
 refine (HJ.out _ w.heap.size 2 (by simp) (cellsAt (heap_alloc_new w _) 0) (cellsAt (heap_alloc_new w _) 1)).mono ?_
 rintro e w2 ⟨rfl,hb⟩
 have HB:Hid (Below w.heap.size w w2):=((Below.refl _ _).alloc (Nat.le_refl _) _).trans (hb.mono (by simp))
 clear hb
 go_wp2_with fail
 go_ret2
 exact ⟨rfl,HB.out⟩
end Sv
end Go.Proofs.YtffdoiokmiklgaaGreatDoor
namespace Go.Proofs.YtffdoiokmiklgaaGreatDoor
open Go.RowKit
set_option maxHeartbeats 1600000 in
theorem learn_none (b ch:Nat) (ph:Option Addr) (w:World) :
 Calls Tryz.prog 92 #[.pointer (some ⟨b,0,none⟩),.slice ph 0 ch] w fun e w'=>e=.returned (.tuple #[])∧w'=w:=by
 go_enter Tryz.func92,Tryz.ntmps92
 go_wp2_with fail
 go_loopw [10] (fun i w'=>i=.int .i64 0∧w'=w) (fun _ _=>0)
 case atStart=>exact ⟨rfl,rfl⟩
 case round=>
  obtain ⟨rfl,rfl⟩:=hrel
  go_wp2_with fail
  simp [bodyPost,results,Tryz.results92,go_sem]
set_option maxHeartbeats 51200000 in
set_option maxRecDepth 100000 in
theorem whear_none (L b:Nat) (n:Nd) (p:Pk) (vm vs vg vw:Value) (w0 w:World) (h:Wk L w b n) (hL:L≤b) (hsp:Sp n) (hsv:Sv.chk n.sv=0) (hgw:Gw.chk n.gw=0) (hwf:Wh.Fine n.wh) (hx:PkIs w0 p vm vs vg vw) (hB:Below w0.heap.size w0 w) (hBL:w0.heap.size≤L) (hlen:p.whole=true∨p.sv.length+p.gw.length+p.wh.length≤4611686018427387904) (hz1:n.sv=[]) (hz2:n.gw=[]) (hz3:p.sv=[]) (hz4:p.gw=[]) (hz5:p.wh=[]) :
 Calls Tryz.prog 63 #[.pointer (some ⟨b,0,none⟩),.agg #[.string p.frm,.bool p.whole,vm,vs,vg,vw]] w fun e w'=>e=.returned (.int .i64 (hrE n p))∧Sh (fun k=>L≤k) w w'∧Hid (hrE n p=0→Wk L w' b (hrN n p)):=by
 have HWK:Hid (Wk L w b n):=h
 have hbl:=h.lt
 have HB:Hid (Below w0.heap.size w0 w):=hB
 have HSP0:Hid (Sp n):=hsp
 have HE:Hid (hrE n p=if p.e=0 then (if hsE n p.ms=0 then (if Sv.joinE n.sv p.sv=0 then Gw.joinE n.gw p.gw else Sv.joinE n.sv p.sv) else hsE n p.ms) else p.e):=rfl
 have HNN:Hid (hrN n p={ hsN n p.ms with sv:=Sv.joinL n.sv p.sv,gw:=Gw.joinL n.gw p.gw,wh:=lrn n.wh p.wh }):=rfl
 have HCK:Hid (∀ W,Below w0.heap.size w0 W→Calls Tryz.prog 88 #[.agg #[.string p.frm,.bool p.whole,vm,vs,vg,vw]] W fun e w'=>e=.returned (.int .i64 p.e)∧Below W.heap.size W w'):=fun W hW=>pcheck_any p vm vs vg vw W (hx.below hW) hlen
 have HPM:Hid (p.e=0→(∀ m∈p.ms,m.e=0)∧p.ms.length≤20∧p.wh.length≤20):=fun h=>⟨(pk_ms h).1,(pk_ms h).2.1,(Wh.chk_zero (pk_ms h).2.2.1).1⟩
 have HXI:Hid (PkIs w0 p vm vs vg vw):=hx
 have HRS:Hid (∀ l,Rest n (hsN n l)):=fun l=>rest_hs l n
 have HSV:Hid (Sv.chk n.sv=0):=hsv
 have HGW:Hid (Gw.chk n.gw=0):=hgw
 have HWF:Hid (Wh.Fine n.wh):=hwf
 obtain ⟨frm,whole,ms,sv,gw,wh⟩:=p
 obtain ⟨hms,hpsv,hpgw,hpwh,hfr,hroom⟩:=hx
 simp only at hms hpsv hpgw hpwh hlen HE HNN HCK HPM hz3 hz4 hz5
 obtain ⟨pm,cm,rfl,hms1,hms2⟩:=hms
 obtain ⟨ps,cs,rfl,_,_⟩:=hpsv
 obtain ⟨pg,cg,rfl,_,_⟩:=hpgw
 obtain ⟨ph,ch,rfl,_,_⟩:=hpwh
 have HROW:Hid (ms=[]∨∃ b off,pm=some ⟨b,off,none⟩∧b < w0.heap.size∧Row w0 b off ms):=hms2
 have HMZ:Hid (∀ j,(ms.getD j dm).name.size≤maxLen):=hms1
 clear hms1 hms2 h hB hsp hsv hgw hwf hlen hroom hfr
 have HJS:Hid (∀ W va,Below w0.heap.size w0 W→Sv.Sl W va n.sv→Calls Tryz.prog 90 #[va,.slice ps sv.length cs] W fun e w'=>∃ a k c,e=.returned (.tuple #[.slice a k c,.int .i64 (Sv.joinE n.sv sv)])∧Below W.heap.size W w'∧(Sv.joinE n.sv sv=0→Sv.Own W.heap.size w' (.slice a k c) (Sv.joinL n.sv sv))):=fun W va hW hva=>by
  have e1:Sv.joinE n.sv sv=0:=by rw [hz1,hz3];kernel_rfl
  have e2:Sv.joinL n.sv sv=[]:=by rw [hz1,hz3];rfl
  rw [e1,e2]
  rw [hz1] at hva
  obtain ⟨a0,c0,rfl,_,_⟩:=hva
  refine (show Calls _ _ _ _ _ from by rw [hz3];exact Sv.join_none a0 ps c0 cs W).mono ?_
  rintro e w' ⟨rfl,hb⟩
  exact ⟨none,0,0,rfl,hb,fun _=>Sv.own_nil _ _⟩
 have HJG:Hid (∀ W va,Below w0.heap.size w0 W→Gw.Sl W va n.gw→Calls Tryz.prog 91 #[va,.slice pg gw.length cg] W fun e w'=>∃ a k c,e=.returned (.tuple #[.slice a k c,.int .i64 (Gw.joinE n.gw gw)])∧Below W.heap.size W w'∧(Gw.joinE n.gw gw=0→Gw.Own W.heap.size w' (.slice a k c) (Gw.joinL n.gw gw))):=fun W va hW hva=>by
  have e1:Gw.joinE n.gw gw=0:=by rw [hz2,hz4];kernel_rfl
  have e2:Gw.joinL n.gw gw=[]:=by rw [hz2,hz4];rfl
  rw [e1,e2]
  rw [hz2] at hva
  obtain ⟨a0,c0,rfl,_,_⟩:=hva
  refine (show Calls _ _ _ _ _ from by rw [hz4];exact Gw.join_none a0 pg c0 cg W).mono ?_
  rintro e w' ⟨rfl,hb⟩
  exact ⟨none,0,0,rfl,hb,fun _=>Gw.own_nil _ _⟩
 have HJO:Hid (∀ m∈Sv.joinL n.sv sv,m.ok):=fun m hm=>by rw [hz1,hz3] at hm;cases hm
 have HJP:Hid (∀ m∈Gw.joinL n.gw gw,m.ok):=fun m hm=>by rw [hz2,hz4] at hm;cases hm
 have HLN:Hid (∀ W nd,Wk L W b nd→nd.wh=n.wh→Below w0.heap.size w0 W→wh.length≤20→Calls Tryz.prog 92 #[.pointer (some ⟨b,0,none⟩),.slice ph wh.length ch] W fun e w'=>e=.returned (.tuple #[])∧Sh (fun k=>L≤k) W w'∧Wk L w' b { nd with wh:=lrn n.wh wh }):=fun W nd hW hn hB hl=>by
  have e1:lrn n.wh wh=nd.wh:=by rw [hz5,hn];rfl
  refine (show Calls _ _ _ _ _ from by rw [hz5];exact learn_none b ch ph W).mono ?_
  rintro e w' ⟨rfl,hw⟩
  have hw2:=hw.symm
  subst hw2
  exact ⟨rfl,Sh.refl _ _,by rw [e1];exact hW⟩
 clear hz1 hz2 hz3 hz4 hz5
 generalize Pk.e ⟨frm,whole,ms,sv,gw,wh⟩=pe at *
 generalize hrE n ⟨frm,whole,ms,sv,gw,wh⟩=res at *
 generalize hkm:ms.length=km at *
 have HKM:Hid (ms.length=km):=hkm
 clear hkm
 generalize sv.length=ks at *
 generalize gw.length=kg at *
 generalize wh.length=kh at *
 obtain ⟨W0,hW0⟩:∃ W0,W0=w.alloc (.cells #[.string frm,.bool whole,.slice pm km cm,.slice ps ks cs,.slice pg kg cg,.slice ph kh ch] 67):=⟨_,rfl⟩
 have hb0:Below w.heap.size w W0:=by rw [hW0];exact (Below.refl _ _).alloc (Nat.le_refl _) _
 have hg0:W0.heap[w.heap.size]?=some (.cells #[.string frm,.bool whole,.slice pm km cm,.slice ps ks cs,.slice pg kg cg,.slice ph kh ch] 67 (0,0)):=by rw [hW0];exact heap_alloc_new w _
 have hs0:W0.heap.size=w.heap.size+1:=by rw [hW0];simp
 have HB0:Hid (Below w.heap.size w W0):=hb0
 have HG0:Hid (W0.heap[w.heap.size]?=some (.cells #[.string frm,.bool whole,.slice pm km cm,.slice ps ks cs,.slice pg kg cg,.slice ph kh ch] 67 (0,0))):=hg0
 have HBB:Hid (∀ W,Sh (fun k=>k=b) W0 W→Below w0.heap.size w0 W∧W.heap[w.heap.size]?=some (.cells #[.string frm,.bool whole,.slice pm km cm,.slice ps ks cs,.slice pg kg cg,.slice ph kh ch] 67 (0,0))∧Sh (fun k=>L≤k) w W∧w.heap.size < W.heap.size):=fun W hW=>
  ⟨HB.out.trans ((hb0.mono HB.out.size).trans (hW.below (by have:=HB.out.size;omega) (fun k hk=>by omega))),(hW.block _ (by omega) (by omega)).trans hg0,(Sh.of hb0).trans (hW.mono (fun k hk=>by omega)),by have:=hW.size;omega⟩
 clear hb0 hg0
 go_enter Tryz.func63,Tryz.ntmps63
 go_wp2_with fail
 rw [← hW0]
 refine (HCK.out W0 (HBB.out W0 (Sh.refl _ _)).1).mono ?_
 rintro e w1 ⟨rfl,hb1⟩
 have HS1:Hid (Sh (fun k=>k=b) W0 w1):=Sh.of hb1
 have HWK1:Hid (Wk L w1 b n):=(HWK.out.below HB0.out).below hb1
 clear hb1 hW0
 obtain ⟨_,hg1,hsh1,hsz1⟩:=HBB.out w1 HS1.out
 have q2:w1.cell? ⟨w.heap.size,2,none⟩=some (.slice pm km cm):=cellsAt hg1 2
 have HSH1:Hid (Sh (fun k=>L≤k) w w1):=hsh1
 clear hg1 hsh1
 by_cases hpe:pe=0
 rotate_left
 ·have hpe':(pe != 0)=true:=by simpa using hpe
  have HR:Hid (res=pe):=HE.out.trans (if_neg hpe)
  have HPN:Hid (pe≠0):=hpe
  clear hpe
  go_wp2_with fail
  go_ret
  exact ⟨ret_int HR.out.symm,HSH1.out,fun h=>absurd (HR.out.symm.trans h) HPN.out⟩
 have HE2:Hid (res=(if hsE n ms=0 then (if Sv.joinE n.sv sv=0 then Gw.joinE n.gw gw else Sv.joinE n.sv sv) else hsE n ms)):=HE.out.trans (if_pos hpe)
 obtain ⟨hme,hml,hwl⟩:=HPM.out hpe
 have HME:Hid (∀ m∈ms,m.e=0):=hme
 have HWL:Hid (kh≤20):=hwl
 subst hpe
 clear HE HPM hme hwl HCK
 go_wp2_with fail
 go_loopw [18] (fun i wr=>∃ k:Nat,k≤km∧i=.int .i64 k∧Hid (Sh (fun k=>k=b) W0 wr)∧Hid (hsE n (ms.take k)=0)∧Hid (Wk L wr b (hsN n (ms.take k)))) (fun i _=>km - (intOf i).toNat)
 case atStart=>exact ⟨0,Nat.zero_le _,rfl,HS1,rfl,HWK1⟩
 case round=>
  clear q2 hsz1
  obtain ⟨k,hk,rfl,HS,HZ,HW⟩:=hrel
  obtain ⟨hBr,hgr,hshr,hszr⟩:=HBB.out wr HS.out
  have HBr:Hid (Below w0.heap.size w0 wr):=hBr
  have HSHr:Hid (Sh (fun k=>L≤k) w wr):=hshr
  have HGr:Hid (wr.heap[w.heap.size]?=some (.cells #[.string frm,.bool whole,.slice pm km cm,.slice ps ks cs,.slice pg kg cg,.slice ph kh ch] 67 (0,0))):=hgr
  clear hBr hshr hgr
  by_cases hlt:k < km
  ·obtain ⟨b2,o2,hp,hl2,hr⟩:∃ b off,pm=some ⟨b,off,none⟩∧b < w0.heap.size∧Row w0 b off ms:=by
    rcases HROW.out with h | h
    ·have:=HKM.out;rw [h] at this;simp at this;omega
    ·exact h
   subst hp
   have hkl:k < ms.length:=by rw [HKM.out];exact hlt
   obtain ⟨c0,c1,c2,c3,c4⟩:_∧_∧_∧_∧_:=by
    have hq:=hr k hkl
    have hc:∀ o,wr.cell? ⟨b2,o,none⟩=w0.cell? ⟨b2,o,none⟩:=fun o=>HBr.out.cell (p:=⟨b2,o,none⟩) hl2
    simp only [← hc] at hq
    exact hq
   clear hr
   have hgm:ms.getD k dm=ms[k]:=by simp [List.getD,List.getElem?_eq_getElem hkl]
   have hmz:=HMZ.out k
   have hmk:(ms.getD k dm).e=0:=by rw [hgm];exact HME.out _ (List.getElem_mem _)
   have htk:ms.take (k+1)=ms.take k++[ms.getD k dm]:=by rw [hgm];exact List.take_succ_eq_append_getElem hkl
   obtain ⟨hs1,hs2⟩:=hs_snoc (ms.take k) n (ms.getD k dm)
   rw [← htk] at hs1 hs2
   have HN1:Hid (hsN n (ms.take (k+1))=spN (hsN n (ms.take k)) (ms.getD k dm)):=hs1
   have HE1:Hid (hsE n (ms.take (k+1))=spE (hsN n (ms.take k)) (ms.getD k dm)):=hs2 HZ.out
   have HBD:Hid (spE (hsN n (ms.take k)) (ms.getD k dm)≠0→res=spE (hsN n (ms.take k)) (ms.getD k dm)):=fun hne=>by
    have e1:hsE n (ms.take (k+1))≠0:=by rw [HE1.out];exact hne
    have e2:=hs_bad (ms.take (k+1)) (ms.drop (k+1)) n e1
    rw [List.take_append_drop,HE1.out] at e2
    exact HE2.out.trans (by rw [e2,if_neg hne])
   have HSPk:Hid (Sp (hsN n (ms.take k))):=hs_sp (ms.take k) n HSP0.out (fun m hm=>HME.out m (List.mem_of_mem_take hm)) HZ.out
   have HSC:Hid (∀ W,Below wr.heap.size wr W→Calls Tryz.prog 89 #[.pointer (some ⟨b,0,none⟩),.agg #[.string (ms.getD k dm).name,.int .i64 (ms.getD k dm).state,.int .i64 (ms.getD k dm).life,.int .i64 (ms.getD k dm).addr,.bool (ms.getD k dm).server]] W fun e w'=>e=.returned (.int .i64 (spE (hsN n (ms.take k)) (ms.getD k dm)))∧Sh (fun k=>k=b) W w'∧Hid (spE (hsN n (ms.take k)) (ms.getD k dm)=0→Wk L w' b (hsN n (ms.take (k+1))))):=fun W hW=>by
    have h:=spread_any L b (hsN n (ms.take k)) (ms.getD k dm) W (HW.out.below hW) hL HSPk.out.ms HSPk.out.rs HSPk.out.name hmk hmz
    rw [← HN1.out] at h;exact h
   clear htk hs1 hs2 hgm hmk
   generalize spE (hsN n (ms.take k)) (ms.getD k dm)=se at *
   generalize ms.getD k dm=mk at *
   obtain ⟨mn,st,lf,ad,sv2⟩:=mk
   simp only at c0 c1 c2 c3 c4 HSC
   go_wp2_with fail
   refine (HSC.out _ ((Below.refl _ _).alloc (Nat.le_refl _) _)).mono ?_
   rintro e w3 ⟨rfl,hs3,HK3⟩
   have HS3:Hid (Sh (fun k=>k=b) W0 w3):=(HS.out.alloc _).trans hs3
   have HSH3:Hid (Sh (fun k=>L≤k) w w3):=(HBB.out w3 HS3.out).2.2.1
   clear hs3 c0 c1 c2 c3 c4
   by_cases hse:se=0
   ·have HZ3:Hid (hsE n (ms.take (k+1))=0):=HE1.out.trans hse
    have HW3:Hid (Wk L w3 b (hsN n (ms.take (k+1)))):=HK3.out hse
    subst hse
    clear HK3 HBD HE1
    go_wp2_with fail
    go_roundw
    case rel=>exact ⟨k+1,by omega,by go_num,HS3,HZ3,HW3⟩
    case measure=>simp [intOf];omega
   ·have hse':(se != 0)=true:=by simpa using hse
    have HR:Hid (res=se):=HBD.out hse
    have HPN:Hid (se≠0):=hse
    clear hse HK3 HBD HE1
    go_wp2_with fail
    go_ret
    exact ⟨ret_int HR.out.symm,HSH3.out,fun h=>absurd (HR.out.symm.trans h) HPN.out⟩
  ·have hkk:km=k:=by omega
   subst hkk
   have htk:ms.take km=ms:=List.take_of_length_le (by rw [HKM.out];exact Nat.le_refl _)
   rw [htk] at HZ HW
   have HE3:Hid (res=(if Sv.joinE n.sv sv=0 then Gw.joinE n.gw gw else Sv.joinE n.sv sv)):=HE2.out.trans (if_pos HZ.out)
   clear htk HE2
   have HRT:Hid (Rest n (hsN n ms)):=HRS.out ms
   generalize hnd:hsN n ms=nd at *
   clear hnd
   obtain ⟨as_,ka,ca,ag_,kg2,cg2,vm2,vr2,vw2,h1,h2,h3⟩:=HW.out.cellsN
   rw [HRT.out.sv] at h2
   rw [HRT.out.gw] at h3
   have y4:wr.cell? ⟨b,4,none⟩=some (.slice as_ ka ca):=cellsAt h1 4
   have x3:wr.cell? ⟨w.heap.size,3,none⟩=some (.slice ps ks cs):=cellsAt HGr.out 3
   have HJC:Hid (Calls Tryz.prog 90 #[.slice as_ ka ca,.slice ps ks cs] wr.drew fun e w'=>∃ a k c,e=.returned (.tuple #[.slice a k c,.int .i64 (Sv.joinE n.sv sv)])∧Below wr.heap.size wr w'∧(Sv.joinE n.sv sv=0→Sv.Own wr.heap.size w' (.slice a k c) (Sv.joinL n.sv sv))):=(HJS.out wr.drew _ HBr.out.drew h2).mono (by rintro e w' ⟨a,k,c,rfl,hb,ho⟩;exact ⟨a,k,c,rfl,(Below.refl wr.heap.size wr).drew.trans hb,ho⟩)
   have HX1:Hid (∀ W,Below wr.heap.size wr W→W.heap[b]?=some (.cells (ndA nd vm2 vr2 (.slice as_ ka ca) (.slice ag_ kg2 cg2) vw2) 133 (0,0))):=fun W hW=>(hW.block _ HW.out.lt).trans h1
   have HST:Hid (∀ w1 a k c,Below wr.heap.size wr w1→(Sv.joinE n.sv sv=0→Sv.Own wr.heap.size w1 (.slice a k c) (Sv.joinL n.sv sv))→Sv.joinE n.sv sv=0→Wk L (w1.setCell ⟨b,4,none⟩ (.slice a k c)) b { nd with sv:=Sv.joinL n.sv sv }):=fun w1 a k c g1 g2 g0=>HW.out.set_sv (by have:=HW.out.lt;omega) g1 (g2 g0) HJO.out
   generalize Sv.joinE n.sv sv=je at *
   generalize Gw.joinE n.gw gw=ge at *
   clear h1 h2 h3 HJS
   go_wp2_with fail
   go_region_with (first | (go_at_call 90;refine HJC.out.mono ?_;rintro e w4 ⟨a,k1,c,rfl,hb4,ho4⟩;have HS4:Hid (Sh (fun k=>k=b) W0 (w4.setCell ⟨b,4,none⟩ (.slice a k1 c))):=(HS.out.next hb4).setCell (S:=fun k=>k=b) rfl _;have HO4:Hid (je=0→Wk L (w4.setCell ⟨b,4,none⟩ (.slice a k1 c)) b { nd with sv:=Sv.joinL n.sv sv }):=HST.out w4 a k1 c hb4 ho4;have hgx:=HX1.out w4 hb4;have z4:w4.cell? ⟨b,4,none⟩=some (.slice as_ ka ca):=cellsAt hgx 4;have zf:w4.frozen? ⟨b,4,none⟩=false:=frozen_of hgx 4;clear hb4 ho4 hgx))
   all_goals
    obtain ⟨W5,hW5⟩:∃ W5,W5=w4.setCell ⟨b,4,none⟩ (.slice a k1 c):=⟨_,rfl⟩
    rw [← hW5] at HS4 HO4
    rw [← hW5]
    clear hW5 z4 zf y4 x3 HX1 HJC HST
    obtain ⟨hB5,hg5,hsh5,hsz5⟩:=HBB.out W5 HS4.out
    have HB5:Hid (Below w0.heap.size w0 W5):=hB5
    have HG5:Hid (W5.heap[w.heap.size]?=some (.cells #[.string frm,.bool whole,.slice pm km cm,.slice ps ks cs,.slice pg kg cg,.slice ph kh ch] 67 (0,0))):=hg5
    have HSH5:Hid (Sh (fun k=>L≤k) w W5):=hsh5
    clear hB5 hg5 hsh5
    by_cases hje:je=0
    rotate_left
    ·have hje':(je != 0)=true:=by simpa using hje
     have HR:Hid (res=je):=HE3.out.trans (if_neg hje)
     have HPN:Hid (je≠0):=hje
     clear hje
     go_wp2_with fail
     go_ret
     exact ⟨ret_int HR.out.symm,HSH5.out,fun h=>absurd (HR.out.symm.trans h) HPN.out⟩
    ·have HW5:Hid (Wk L W5 b { nd with sv:=Sv.joinL n.sv sv }):=HO4.out hje
     have HE4:Hid (res=ge):=HE3.out.trans (if_pos hje)
     subst hje
     clear HO4 HE3
     obtain ⟨as3,ka3,ca3,ag3,kg3,cg3,vm3,vr3,vw3,h1,_,h3⟩:=HW5.out.cellsN
     have h3:Gw.Sl W5 (.slice ag3 kg3 cg3) n.gw:=by rw [← HRT.out.gw];exact h3
     have y5:W5.cell? ⟨b,5,none⟩=some (.slice ag3 kg3 cg3):=cellsAt h1 5
     have x4:W5.cell? ⟨w.heap.size,4,none⟩=some (.slice pg kg cg):=cellsAt HG5.out 4
     have HJC:Hid (Calls Tryz.prog 91 #[.slice ag3 kg3 cg3,.slice pg kg cg] W5.drew fun e w'=>∃ a k c,e=.returned (.tuple #[.slice a k c,.int .i64 ge])∧Below W5.heap.size W5 w'∧(ge=0→Gw.Own W5.heap.size w' (.slice a k c) (Gw.joinL n.gw gw))):=(HJG.out W5.drew _ HB5.out.drew h3).mono (by rintro e w' ⟨a,k,c,rfl,hb,ho⟩;exact ⟨a,k,c,rfl,(Below.refl W5.heap.size W5).drew.trans hb,ho⟩)
     have HX1:Hid (∀ W,Below W5.heap.size W5 W→W.heap[b]?=some (.cells (ndA { nd with sv:=Sv.joinL n.sv sv } vm3 vr3 (.slice as3 ka3 ca3) (.slice ag3 kg3 cg3) vw3) 133 (0,0))):=fun W hW=>(hW.block _ HW5.out.lt).trans h1
     have HST:Hid (∀ w1 a k c,Below W5.heap.size W5 w1→(ge=0→Gw.Own W5.heap.size w1 (.slice a k c) (Gw.joinL n.gw gw))→ge=0→Wk L (w1.setCell ⟨b,5,none⟩ (.slice a k c)) b { nd with sv:=Sv.joinL n.sv sv,gw:=Gw.joinL n.gw gw }):=fun w1 a k c g1 g2 g0=>HW5.out.set_gw (by have:=HW5.out.lt;omega) g1 (g2 g0) HJP.out
     clear h1 h3
     go_wp2_with fail
     go_region_with (first | (go_at_call 91;refine HJC.out.mono ?_;rintro e w6 ⟨a6,k6,c6,rfl,hb6,ho6⟩;have HS6:Hid (Sh (fun k=>k=b) W0 (w6.setCell ⟨b,5,none⟩ (.slice a6 k6 c6))):=(HS4.out.next hb6).setCell (S:=fun k=>k=b) rfl _;have HO6:Hid (ge=0→Wk L (w6.setCell ⟨b,5,none⟩ (.slice a6 k6 c6)) b { nd with sv:=Sv.joinL n.sv sv,gw:=Gw.joinL n.gw gw }):=HST.out w6 a6 k6 c6 hb6 ho6;have hgx:=HX1.out w6 hb6;have z5:w6.cell? ⟨b,5,none⟩=some (.slice ag3 kg3 cg3):=cellsAt hgx 5;have zf:w6.frozen? ⟨b,5,none⟩=false:=frozen_of hgx 5;clear hb6 ho6 hgx))
     all_goals
      obtain ⟨W7,hW7⟩:∃ W7,W7=w6.setCell ⟨b,5,none⟩ (.slice a6 k6 c6):=⟨_,rfl⟩
      rw [← hW7] at HS6 HO6
      rw [← hW7]
      clear hW7 z5 zf y5 x4 HX1 HJC HST
      obtain ⟨hB7,hg7,hsh7,hsz7⟩:=HBB.out W7 HS6.out
      have HB7:Hid (Below w0.heap.size w0 W7):=hB7
      have HSH7:Hid (Sh (fun k=>L≤k) w W7):=hsh7
      have x5:W7.cell? ⟨w.heap.size,5,none⟩=some (.slice ph kh ch):=cellsAt hg7 5
      clear hB7 hg7 hsh7
      by_cases hge:ge=0
      rotate_left
      ·have hge':(ge != 0)=true:=by simpa using hge
       have HPN:Hid (ge≠0):=hge
       clear hge
       go_wp2_with fail
       go_ret
       exact ⟨ret_int HE4.out.symm,HSH7.out,fun h=>absurd (HE4.out.symm.trans h) HPN.out⟩
      ·have HLC:=HLN.out W7 { nd with sv:=Sv.joinL n.sv sv,gw:=Gw.joinL n.gw gw } (HO6.out hge) HRT.out.wh HB7.out HWL.out
       have HR0:Hid (res=0):=HE4.out.trans hge
       subst hge
       clear HO6
       go_wp2_with fail
       refine HLC.mono ?_
       rintro e w8 ⟨rfl,hs8,hk8⟩
       have HS8:Hid (Sh (fun k=>L≤k) w w8):=HSH7.out.trans hs8
       have HK8:Hid (Wk L w8 b (hrN n ⟨frm,whole,ms,sv,gw,wh⟩)):=by rw [HNN.out];exact hk8
       clear hs8 hk8
       go_wp2_with fail
       go_ret
       exact ⟨ret_int HR0.out.symm,HS8.out,fun _=>HK8.out⟩
end Go.Proofs.YtffdoiokmiklgaaGreatDoor
