import Derived.Test.YtikgjgmgbfjcgaaGreatQ26
import Derived.Test.YtikgjgmgbfjcgaaGreatQ27
import Derived.Test.YtikgjgmgbfjcgaaGreatQ13
import Derived.Test.YtikgjgmgbfjcgaaGreatQ14
import Derived.Test.YtikgjgmgbfjcgaaGreatQ22
namespace Go.Proofs.YtikgjgmgbfjcgaaGreat
open Go.RowKit
theorem rise_set {ms:List Mem} {p:Nat} {x:Mem} (hr:Rise ms) (hx:x.name=(ms.getD p dm).name):Rise (ms.set p x):=by
 have hn:∀ j (h:j < ms.length),((ms.set p x)[j]'(by rw [List.length_set];exact h)).name=ms[j].name:=fun j h=>by
  rw [List.getElem_set]
  split
  ·rename_i e;subst e;rw [hx];simp [List.getD,List.getElem?_eq_getElem h]
  ·rfl
 refine List.pairwise_iff_getElem.2 fun i j hi hj hij=>?_
 rw [List.length_set] at hi hj
 rw [hn i hi,hn j hj]
 exact List.pairwise_iff_getElem.1 hr i j hi hj hij
structure Sp (n:Nd):Prop where
 ms:chk n.ms=0
 rs:chkR n.rs=0
 name:labB n.name=true
theorem rf_sp {n:Nd} (h:Sp n) (h0:rfE n=0):Sp (rfN n):=by
 unfold rfE at h0
 unfold rfN
 by_cases hR:refR n.ms (rfP n) (rfF n)=true
 ·obtain ⟨f1,f2,f3,f4,f5,f6,f7⟩:=rf_facts h.ms hR
  rw [if_pos (refE_of hR),if_pos hR] at h0
  rw [if_pos hR]
  obtain ⟨l1,l2,_⟩:=chk_zero h.ms
  refine ⟨chk_of ?_ ?_ ?_,chkR_put h.rs f5 h0,h.name⟩
  ·show (rfL n).length≤20;rw [f3,List.length_set];exact l1
  ·show Rise (rfL n);rw [f3];exact rise_set l2 rfl
  ·intro m hm
   have hm:m∈rfL n:=hm
   rw [f3] at hm
   rcases List.mem_or_eq_of_mem_set hm with hm | rfl
   ·exact chk_e0 h.ms m hm
   ·rw [← f4];exact f5
 ·rw [if_neg hR]
  have:rfL n=n.ms:=by unfold rfL refL;rw [if_neg hR]
  rw [this]
  exact h
theorem sp_sp {n:Nd} {m:Mem} (h:Sp n) (hm:m.e=0) (h0:spE n m=0):Sp (spN n m):=by
 unfold spE at h0
 split at h0
 ·rename_i h1
  have h2:Sp (sp1 n m):=⟨(sp1_ok h.ms h.rs hm h1).1,(sp1_ok h.ms h.rs hm h1).2,by rw [sp1_name];exact h.name⟩
  unfold spN
  by_cases hn:m.name=n.name
  ·rw [if_pos hn] at h0 ⊢;exact rf_sp h2 h0
  ·rw [if_neg hn];exact h2
 ·rename_i h1;exact absurd h0 h1
structure Rest (n n':Nd):Prop where
 name:n'.name=n.name
 centre:n'.centre=n.centre
 sv:n'.sv=n.sv
 gw:n'.gw=n.gw
 p:n'.p=n.p
 wh:n'.wh=n.wh
theorem Rest.refl (n:Nd):Rest n n:=⟨rfl,rfl,rfl,rfl,rfl,rfl⟩
theorem Rest.trans {a b c:Nd} (h:Rest a b) (k:Rest b c):Rest a c:=⟨k.name.trans h.name,k.centre.trans h.centre,k.sv.trans h.sv,k.gw.trans h.gw,k.p.trans h.p,k.wh.trans h.wh⟩
theorem rest_rf (n:Nd):Rest n (rfN n):=by unfold rfN;split<;>exact ⟨rfl,rfl,rfl,rfl,rfl,rfl⟩
theorem rest_sp1 (n:Nd) (m:Mem):Rest n (sp1 n m):=by unfold sp1;split<;>exact ⟨rfl,rfl,rfl,rfl,rfl,rfl⟩
theorem rest_sp (n:Nd) (m:Mem):Rest n (spN n m):=by
 unfold spN
 split
 ·exact (rest_sp1 n m).trans (rest_rf _)
 ·exact rest_sp1 n m
def hsE:Nd→List Mem→Int
 | _,[]=>0
 | n,m :: r=>if spE n m=0 then hsE (spN n m) r else spE n m
def hsN:Nd→List Mem→Nd
 | n,[]=>n
 | n,m :: r=>hsN (spN n m) r
theorem hs_snoc:∀ (l:List Mem) (n:Nd) (m:Mem),hsN n (l++[m])=spN (hsN n l) m∧(hsE n l=0→hsE n (l++[m])=spE (hsN n l) m)
 | [],n,m=>⟨rfl,fun _=>by
    show hsE n [m]=spE n m
    rw [hsE]
    split
    ·rename_i h;rw [h];rfl
    ·rfl⟩
 | x :: r,n,m=>by
   obtain ⟨h1,h2⟩:=hs_snoc r (spN n x) m
   refine ⟨h1,fun h=>?_⟩
   rw [hsE] at h
   split at h
   ·rename_i h0
    show hsE n (x :: (r++[m]))=_
    rw [hsE,if_pos h0]
    exact h2 h
   ·rename_i h0;exact absurd h h0
theorem hs_bad:∀ (l r:List Mem) (n:Nd),hsE n l≠0→hsE n (l++r)=hsE n l
 | [],r,n,h=>absurd rfl h
 | x :: l,r,n,h=>by
   show hsE n (x :: (l++r))=_
   rw [hsE] at h ⊢
   rw [hsE]
   split
   ·rename_i h0;rw [if_pos h0] at h;exact hs_bad l r _ h
   ·rfl
theorem hs_sp:∀ (l:List Mem) (n:Nd),Sp n→(∀ m∈l,m.e=0)→hsE n l=0→Sp (hsN n l)
 | [],n,h,_,_=>h
 | x :: r,n,h,hl,h0=>by
   rw [hsE] at h0
   split at h0
   ·rename_i h1
    exact hs_sp r (spN n x) (sp_sp h (hl x (by simp)) h1) (fun m hm=>hl m (by simp [hm])) h0
   ·rename_i h1;exact absurd h0 h1
theorem rest_hs:∀ (l:List Mem) (n:Nd),Rest n (hsN n l)
 | [],n=>Rest.refl n
 | x :: r,n=>(rest_sp n x).trans (rest_hs r _)
def hrE (n:Nd) (p:Pk):Int:=
 if p.e=0 then (if hsE n p.ms=0 then (if Sv.joinE n.sv p.sv=0 then Gw.joinE n.gw p.gw else Sv.joinE n.sv p.sv) else hsE n p.ms) else p.e
def hrN (n:Nd) (p:Pk):Nd:={ hsN n p.ms with sv:=Sv.joinL n.sv p.sv,gw:=Gw.joinL n.gw p.gw,wh:=lrn n.wh p.wh }
theorem pk_ms {p:Pk} (h:p.e=0):(∀ m∈p.ms,m.e=0)∧p.ms.length≤20∧Wh.chk p.wh=0∧Sv.chk p.sv=0∧Gw.chk p.gw=0:=by
 unfold Pk.e at h
 split at h
 ·rename_i h0
  split at h
  ·rename_i h1
   have hm:(∀ m∈p.ms,m.e=0)∧p.ms.length≤20:=by
    unfold Pk.mE at h1
    split at h1
    ·exact ⟨chk_e0 h1,(chk_zero h1).1⟩
    ·obtain ⟨a,b,_⟩:=chkT_zero h1
     exact ⟨firstE_mem _ b,by omega⟩
   split at h
   ·rename_i h2
    split at h
    ·rename_i h3;exact ⟨hm.1,hm.2,h,h2,h3⟩
    ·rename_i h3;exact absurd h h3
   ·rename_i h2;exact absurd h h2
  ·rename_i h1;exact absurd h h1
 ·cases h
theorem Wk.cellsN {L b:Nat} {W:World} {n:Nd} (h:Wk L W b n):∃ a k c a2 k2 c2 vm vr vw,W.heap[b]?=some (.cells (ndA n vm vr (.slice a k c) (.slice a2 k2 c2) vw) 72 (0,0))∧Sv.Sl W (.slice a k c) n.sv∧Gw.Sl W (.slice a2 k2 c2) n.gw:=by
 obtain ⟨vm,vr,vs,vg,vw,h1,h2,h3,h4⟩:=h
 obtain ⟨a,c,hv,_⟩:=own_slice h2.sv
 obtain ⟨a2,c2,hv2,_⟩:=own_slice h2.gw
 subst hv hv2
 exact ⟨a,_,c,a2,_,c2,vm,vr,vw,h1,(h2.is h4).sv,(h2.is h4).gw⟩
theorem Wk.okN {L b:Nat} {W:World} {n:Nd} (h:Wk L W b n):NdOk n:=by
 obtain ⟨_,_,_,_,_,_,_,_,h4⟩:=h
 exact h4
theorem Sv.Sl.oks {w:World} {v:Value} {ms:List Sv.Svc} (h:Sv.Sl w v ms):∀ j,(ms.getD j Sv.dm).ok:=by
 obtain ⟨_,_,_,h2,_⟩:=h;exact h2
theorem Gw.Sl.oks {w:World} {v:Value} {ms:List Gw.Gwy} (h:Gw.Sl w v ms):∀ j,(ms.getD j Gw.dm).ok:=by
 obtain ⟨_,_,_,h2,_⟩:=h;exact h2
set_option maxHeartbeats 51200000 in
set_option maxRecDepth 100000 in
theorem whear_any (L b:Nat) (n:Nd) (p:Pk) (vm vs vg vw:Value) (w0 w:World) (h:Wk L w b n) (hL:L≤b) (hsp:Sp n) (hsv:Sv.chk n.sv=0) (hgw:Gw.chk n.gw=0) (hwf:Wh.Fine n.wh) (hx:PkIs w0 p vm vs vg vw) (hB:Below w0.heap.size w0 w) (hBL:w0.heap.size≤L) (hlen:p.whole=true∨p.sv.length+p.gw.length+p.wh.length≤4611686018427387904) :
 Calls Tryz.prog 67 #[.pointer (some ⟨b,0,none⟩),.agg #[.string p.frm,.bool p.whole,vm,vs,vg,vw]] w fun e w'=>e=.returned (.int .i64 (hrE n p))∧Sh (fun k=>L≤k) w w'∧Hid (hrE n p=0→Wk L w' b (hrN n p)):=by
 have HWK:Hid (Wk L w b n):=h
 have hbl:=h.lt
 have HB:Hid (Below w0.heap.size w0 w):=hB
 have HSP0:Hid (Sp n):=hsp
 have HE:Hid (hrE n p=if p.e=0 then (if hsE n p.ms=0 then (if Sv.joinE n.sv p.sv=0 then Gw.joinE n.gw p.gw else Sv.joinE n.sv p.sv) else hsE n p.ms) else p.e):=rfl
 have HNN:Hid (hrN n p={ hsN n p.ms with sv:=Sv.joinL n.sv p.sv,gw:=Gw.joinL n.gw p.gw,wh:=lrn n.wh p.wh }):=rfl
 have HCK:Hid (∀ W,Below w0.heap.size w0 W→Calls Tryz.prog 103 #[.agg #[.string p.frm,.bool p.whole,vm,vs,vg,vw]] W fun e w'=>e=.returned (.int .i64 p.e)∧Below W.heap.size W w'):=fun W hW=>pcheck_any p vm vs vg vw W (hx.below hW) hlen
 have HPM:Hid (p.e=0→(∀ m∈p.ms,m.e=0)∧p.ms.length≤20∧p.wh.length≤20):=fun h=>⟨(pk_ms h).1,(pk_ms h).2.1,(Wh.chk_zero (pk_ms h).2.2.1).1⟩
 have HXI:Hid (PkIs w0 p vm vs vg vw):=hx
 have HRS:Hid (∀ l,Rest n (hsN n l)):=fun l=>rest_hs l n
 have HSV:Hid (Sv.chk n.sv=0):=hsv
 have HGW:Hid (Gw.chk n.gw=0):=hgw
 have HWF:Hid (Wh.Fine n.wh):=hwf
 obtain ⟨frm,whole,ms,sv,gw,wh⟩:=p
 obtain ⟨hms,hpsv,hpgw,hpwh,hfr,hroom⟩:=hx
 simp only at hms hpsv hpgw hpwh hlen HE HNN HCK HPM
 obtain ⟨pm,cm,rfl,hms1,hms2⟩:=hms
 obtain ⟨ps,cs,rfl,_,_⟩:=hpsv
 obtain ⟨pg,cg,rfl,_,_⟩:=hpgw
 obtain ⟨ph,ch,rfl,_,_⟩:=hpwh
 have HROW:Hid (ms=[]∨∃ b off,pm=some ⟨b,off,none⟩∧b < w0.heap.size∧Row w0 b off ms):=hms2
 have HMZ:Hid (∀ j,(ms.getD j dm).name.size≤maxLen):=hms1
 clear hms1 hms2 h hB hsp hsv hgw hwf hlen hroom hfr
 have HJS:Hid (∀ W va,Below w0.heap.size w0 W→Sv.Sl W va n.sv→Calls Tryz.prog 123 #[va,.slice ps sv.length cs] W fun e w'=>∃ a k c,e=.returned (.tuple #[.slice a k c,.int .i64 (Sv.joinE n.sv sv)])∧Below W.heap.size W w'∧(Sv.joinE n.sv sv=0→Sv.Own W.heap.size w' (.slice a k c) (Sv.joinL n.sv sv))):=fun W va hW hva=>by
  refine (Sv.join2_any n.sv sv va _ W hva (HXI.out.sv.below hW)).mono ?_
  rintro e w' ⟨v',rfl,hb,h1,h2⟩
  by_cases h0:Sv.joinE n.sv sv=0
  ·obtain ⟨a,c,rfl,_⟩:=own_slice (h2 h0)
   exact ⟨a,_,c,rfl,hb,h2⟩
  ·rw [h1 h0];exact ⟨none,0,0,rfl,hb,fun h=>absurd h h0⟩
 have HJG:Hid (∀ W va,Below w0.heap.size w0 W→Gw.Sl W va n.gw→Calls Tryz.prog 124 #[va,.slice pg gw.length cg] W fun e w'=>∃ a k c,e=.returned (.tuple #[.slice a k c,.int .i64 (Gw.joinE n.gw gw)])∧Below W.heap.size W w'∧(Gw.joinE n.gw gw=0→Gw.Own W.heap.size w' (.slice a k c) (Gw.joinL n.gw gw))):=fun W va hW hva=>by
  refine (Gw.join2_any n.gw gw va _ W hva (HXI.out.gw.below hW)).mono ?_
  rintro e w' ⟨v',rfl,hb,h1,h2⟩
  by_cases h0:Gw.joinE n.gw gw=0
  ·obtain ⟨a,c,rfl,_⟩:=own_slice (h2 h0)
   exact ⟨a,_,c,rfl,hb,h2⟩
  ·rw [h1 h0];exact ⟨none,0,0,rfl,hb,fun h=>absurd h h0⟩
 have HJO:Hid (∀ m∈Sv.joinL n.sv sv,m.ok):=Sv.ns_join sv n.sv HWK.out.okN.sv (Sv.ns_mem HXI.out.sv.oks)
 have HJP:Hid (∀ m∈Gw.joinL n.gw gw,m.ok):=Gw.ns_join gw n.gw HWK.out.okN.gw (Gw.ns_mem HXI.out.gw.oks)
 have HLN:Hid (∀ W nd,Wk L W b nd→nd.wh=n.wh→Below w0.heap.size w0 W→wh.length≤20→Calls Tryz.prog 125 #[.pointer (some ⟨b,0,none⟩),.slice ph wh.length ch] W fun e w'=>e=.returned (.tuple #[])∧Sh (fun k=>L≤k) W w'∧Wk L w' b { nd with wh:=lrn n.wh wh }):=fun W nd hW hn hB hl=>by
  have:=learn_any L b nd wh _ w0 W hW hL (by rw [hn];exact HWF.out) HXI.out.wh hB hBL (by omega)
  rw [hn] at this;exact this
 generalize Pk.e ⟨frm,whole,ms,sv,gw,wh⟩=pe at *
 generalize hrE n ⟨frm,whole,ms,sv,gw,wh⟩=res at *
 generalize hkm:ms.length=km at *
 have HKM:Hid (ms.length=km):=hkm
 clear hkm
 generalize sv.length=ks at *
 generalize gw.length=kg at *
 generalize wh.length=kh at *
 obtain ⟨W0,hW0⟩:∃ W0,W0=w.alloc (.cells #[.string frm,.bool whole,.slice pm km cm,.slice ps ks cs,.slice pg kg cg,.slice ph kh ch] 44):=⟨_,rfl⟩
 have hb0:Below w.heap.size w W0:=by rw [hW0];exact (Below.refl _ _).alloc (Nat.le_refl _) _
 have hg0:W0.heap[w.heap.size]?=some (.cells #[.string frm,.bool whole,.slice pm km cm,.slice ps ks cs,.slice pg kg cg,.slice ph kh ch] 44 (0,0)):=by rw [hW0];exact heap_alloc_new w _
 have hs0:W0.heap.size=w.heap.size+1:=by rw [hW0];simp
 have HB0:Hid (Below w.heap.size w W0):=hb0
 have HG0:Hid (W0.heap[w.heap.size]?=some (.cells #[.string frm,.bool whole,.slice pm km cm,.slice ps ks cs,.slice pg kg cg,.slice ph kh ch] 44 (0,0))):=hg0
 have HBB:Hid (∀ W,Sh (fun k=>k=b) W0 W→Below w0.heap.size w0 W∧W.heap[w.heap.size]?=some (.cells #[.string frm,.bool whole,.slice pm km cm,.slice ps ks cs,.slice pg kg cg,.slice ph kh ch] 44 (0,0))∧Sh (fun k=>L≤k) w W∧w.heap.size < W.heap.size):=fun W hW=>
  ⟨HB.out.trans ((hb0.mono HB.out.size).trans (hW.below (by have:=HB.out.size;omega) (fun k hk=>by omega))),(hW.block _ (by omega) (by omega)).trans hg0,(Sh.of hb0).trans (hW.mono (fun k hk=>by omega)),by have:=hW.size;omega⟩
 clear hb0 hg0
 go_enter Tryz.func67,Tryz.ntmps67
 go_wp2_with fail
 rw [← hW0]
 refine (HCK.out W0 (HBB.out W0 (Sh.refl _ _)).1).mono ?_
 rintro e w1 ⟨rfl,hb1⟩
 have HS1:Hid (Sh (fun k=>k=b) W0 w1):=Sh.of hb1
 have HWK1:Hid (Wk L w1 b n):=(HWK.out.below HB0.out).below hb1
 clear hb1 hW0
 obtain ⟨_,hg1,hsh1,hsz1⟩:=HBB.out w1 HS1.out
 have q2:w1.cell? ⟨w.heap.size,2,none⟩=some (.slice pm km cm):=cellsAt hg1 2
 have HSH1:Hid (Sh (fun k=>L≤k) w w1):=hsh1
 clear hg1 hsh1
 by_cases hpe:pe=0
 rotate_left
 ·have hpe':(pe != 0)=true:=by simpa using hpe
  have HR:Hid (res=pe):=HE.out.trans (if_neg hpe)
  have HPN:Hid (pe≠0):=hpe
  clear hpe
  go_wp2_with fail
  go_ret
  exact ⟨ret_int HR.out.symm,HSH1.out,fun h=>absurd (HR.out.symm.trans h) HPN.out⟩
 have HE2:Hid (res=(if hsE n ms=0 then (if Sv.joinE n.sv sv=0 then Gw.joinE n.gw gw else Sv.joinE n.sv sv) else hsE n ms)):=HE.out.trans (if_pos hpe)
 obtain ⟨hme,hml,hwl⟩:=HPM.out hpe
 have HME:Hid (∀ m∈ms,m.e=0):=hme
 have HWL:Hid (kh≤20):=hwl
 subst hpe
 clear HE HPM hme hwl HCK
 go_wp2_with fail
 go_loopw [18] (fun i wr=>∃ k:Nat,k≤km∧i=.int .i64 k∧Hid (Sh (fun k=>k=b) W0 wr)∧Hid (hsE n (ms.take k)=0)∧Hid (Wk L wr b (hsN n (ms.take k)))) (fun i _=>km - (intOf i).toNat)
 case atStart=>exact ⟨0,Nat.zero_le _,rfl,HS1,rfl,HWK1⟩
 case round=>
  clear q2 hsz1
  obtain ⟨k,hk,rfl,HS,HZ,HW⟩:=hrel
  obtain ⟨hBr,hgr,hshr,hszr⟩:=HBB.out wr HS.out
  have HBr:Hid (Below w0.heap.size w0 wr):=hBr
  have HSHr:Hid (Sh (fun k=>L≤k) w wr):=hshr
  have HGr:Hid (wr.heap[w.heap.size]?=some (.cells #[.string frm,.bool whole,.slice pm km cm,.slice ps ks cs,.slice pg kg cg,.slice ph kh ch] 44 (0,0))):=hgr
  clear hBr hshr hgr
  by_cases hlt:k < km
  ·obtain ⟨b2,o2,hp,hl2,hr⟩:∃ b off,pm=some ⟨b,off,none⟩∧b < w0.heap.size∧Row w0 b off ms:=by
    rcases HROW.out with h | h
    ·have:=HKM.out;rw [h] at this;simp at this;omega
    ·exact h
   subst hp
   have hkl:k < ms.length:=by rw [HKM.out];exact hlt
   obtain ⟨c0,c1,c2,c3,c4⟩:_∧_∧_∧_∧_:=by
    have hq:=hr k hkl
    have hc:∀ o,wr.cell? ⟨b2,o,none⟩=w0.cell? ⟨b2,o,none⟩:=fun o=>HBr.out.cell (p:=⟨b2,o,none⟩) hl2
    simp only [← hc] at hq
    exact hq
   clear hr
   have hgm:ms.getD k dm=ms[k]:=by simp [List.getD,List.getElem?_eq_getElem hkl]
   have hmz:=HMZ.out k
   have hmk:(ms.getD k dm).e=0:=by rw [hgm];exact HME.out _ (List.getElem_mem _)
   have htk:ms.take (k+1)=ms.take k++[ms.getD k dm]:=by rw [hgm];exact List.take_succ_eq_append_getElem hkl
   obtain ⟨hs1,hs2⟩:=hs_snoc (ms.take k) n (ms.getD k dm)
   rw [← htk] at hs1 hs2
   have HN1:Hid (hsN n (ms.take (k+1))=spN (hsN n (ms.take k)) (ms.getD k dm)):=hs1
   have HE1:Hid (hsE n (ms.take (k+1))=spE (hsN n (ms.take k)) (ms.getD k dm)):=hs2 HZ.out
   have HBD:Hid (spE (hsN n (ms.take k)) (ms.getD k dm)≠0→res=spE (hsN n (ms.take k)) (ms.getD k dm)):=fun hne=>by
    have e1:hsE n (ms.take (k+1))≠0:=by rw [HE1.out];exact hne
    have e2:=hs_bad (ms.take (k+1)) (ms.drop (k+1)) n e1
    rw [List.take_append_drop,HE1.out] at e2
    exact HE2.out.trans (by rw [e2,if_neg hne])
   have HSPk:Hid (Sp (hsN n (ms.take k))):=hs_sp (ms.take k) n HSP0.out (fun m hm=>HME.out m (List.mem_of_mem_take hm)) HZ.out
   have HSC:Hid (∀ W,Below wr.heap.size wr W→Calls Tryz.prog 122 #[.pointer (some ⟨b,0,none⟩),.agg #[.string (ms.getD k dm).name,.int .i64 (ms.getD k dm).state,.int .i64 (ms.getD k dm).life,.int .i64 (ms.getD k dm).addr,.bool (ms.getD k dm).server]] W fun e w'=>e=.returned (.int .i64 (spE (hsN n (ms.take k)) (ms.getD k dm)))∧Sh (fun k=>k=b) W w'∧Hid (spE (hsN n (ms.take k)) (ms.getD k dm)=0→Wk L w' b (hsN n (ms.take (k+1))))):=fun W hW=>by
    have h:=spread_any L b (hsN n (ms.take k)) (ms.getD k dm) W (HW.out.below hW) hL HSPk.out.ms HSPk.out.rs HSPk.out.name hmk hmz
    rw [← HN1.out] at h;exact h
   clear htk hs1 hs2 hgm hmk
   generalize spE (hsN n (ms.take k)) (ms.getD k dm)=se at *
   generalize ms.getD k dm=mk at *
   obtain ⟨mn,st,lf,ad,sv2⟩:=mk
   simp only at c0 c1 c2 c3 c4 HSC
   go_wp2_with fail
   refine (HSC.out _ ((Below.refl _ _).alloc (Nat.le_refl _) _)).mono ?_
   rintro e w3 ⟨rfl,hs3,HK3⟩
   have HS3:Hid (Sh (fun k=>k=b) W0 w3):=(HS.out.alloc _).trans hs3
   have HSH3:Hid (Sh (fun k=>L≤k) w w3):=(HBB.out w3 HS3.out).2.2.1
   clear hs3 c0 c1 c2 c3 c4
   by_cases hse:se=0
   ·have HZ3:Hid (hsE n (ms.take (k+1))=0):=HE1.out.trans hse
    have HW3:Hid (Wk L w3 b (hsN n (ms.take (k+1)))):=HK3.out hse
    subst hse
    clear HK3 HBD HE1
    go_wp2_with fail
    go_roundw
    case rel=>exact ⟨k+1,by omega,by go_num,HS3,HZ3,HW3⟩
    case measure=>simp [intOf];omega
   ·have hse':(se != 0)=true:=by simpa using hse
    have HR:Hid (res=se):=HBD.out hse
    have HPN:Hid (se≠0):=hse
    clear hse HK3 HBD HE1
    go_wp2_with fail
    go_ret
    exact ⟨ret_int HR.out.symm,HSH3.out,fun h=>absurd (HR.out.symm.trans h) HPN.out⟩
  ·have hkk:km=k:=by omega
   subst hkk
   have htk:ms.take km=ms:=List.take_of_length_le (by rw [HKM.out];exact Nat.le_refl _)
   rw [htk] at HZ HW
   have HE3:Hid (res=(if Sv.joinE n.sv sv=0 then Gw.joinE n.gw gw else Sv.joinE n.sv sv)):=HE2.out.trans (if_pos HZ.out)
   clear htk HE2
   have HRT:Hid (Rest n (hsN n ms)):=HRS.out ms
   generalize hnd:hsN n ms=nd at *
   clear hnd
   obtain ⟨as_,ka,ca,ag_,kg2,cg2,vm2,vr2,vw2,h1,h2,h3⟩:=HW.out.cellsN
   rw [HRT.out.sv] at h2
   rw [HRT.out.gw] at h3
   have y4:wr.cell? ⟨b,4,none⟩=some (.slice as_ ka ca):=cellsAt h1 4
   have x3:wr.cell? ⟨w.heap.size,3,none⟩=some (.slice ps ks cs):=cellsAt HGr.out 3
   have HJC:Hid (Calls Tryz.prog 123 #[.slice as_ ka ca,.slice ps ks cs] wr.drew fun e w'=>∃ a k c,e=.returned (.tuple #[.slice a k c,.int .i64 (Sv.joinE n.sv sv)])∧Below wr.heap.size wr w'∧(Sv.joinE n.sv sv=0→Sv.Own wr.heap.size w' (.slice a k c) (Sv.joinL n.sv sv))):=(HJS.out wr.drew _ HBr.out.drew h2).mono (by rintro e w' ⟨a,k,c,rfl,hb,ho⟩;exact ⟨a,k,c,rfl,(Below.refl wr.heap.size wr).drew.trans hb,ho⟩)
   have HX1:Hid (∀ W,Below wr.heap.size wr W→W.heap[b]?=some (.cells (ndA nd vm2 vr2 (.slice as_ ka ca) (.slice ag_ kg2 cg2) vw2) 72 (0,0))):=fun W hW=>(hW.block _ HW.out.lt).trans h1
   have HST:Hid (∀ w1 a k c,Below wr.heap.size wr w1→(Sv.joinE n.sv sv=0→Sv.Own wr.heap.size w1 (.slice a k c) (Sv.joinL n.sv sv))→Sv.joinE n.sv sv=0→Wk L (w1.setCell ⟨b,4,none⟩ (.slice a k c)) b { nd with sv:=Sv.joinL n.sv sv }):=fun w1 a k c g1 g2 g0=>HW.out.set_sv (by have:=HW.out.lt;omega) g1 (g2 g0) HJO.out
   generalize Sv.joinE n.sv sv=je at *
   generalize Gw.joinE n.gw gw=ge at *
   clear h1 h2 h3 HJS
   go_wp2_with fail
   go_region_with (first | (go_at_call 123;refine HJC.out.mono ?_;rintro e w4 ⟨a,k1,c,rfl,hb4,ho4⟩;have HS4:Hid (Sh (fun k=>k=b) W0 (w4.setCell ⟨b,4,none⟩ (.slice a k1 c))):=(HS.out.next hb4).setCell (S:=fun k=>k=b) rfl _;have HO4:Hid (je=0→Wk L (w4.setCell ⟨b,4,none⟩ (.slice a k1 c)) b { nd with sv:=Sv.joinL n.sv sv }):=HST.out w4 a k1 c hb4 ho4;have hgx:=HX1.out w4 hb4;have z4:w4.cell? ⟨b,4,none⟩=some (.slice as_ ka ca):=cellsAt hgx 4;have zf:w4.frozen? ⟨b,4,none⟩=false:=frozen_of hgx 4;clear hb4 ho4 hgx))
   all_goals
    obtain ⟨W5,hW5⟩:∃ W5,W5=w4.setCell ⟨b,4,none⟩ (.slice a k1 c):=⟨_,rfl⟩
    rw [← hW5] at HS4 HO4
    rw [← hW5]
    clear hW5 z4 zf y4 x3 HX1 HJC HST
    obtain ⟨hB5,hg5,hsh5,hsz5⟩:=HBB.out W5 HS4.out
    have HB5:Hid (Below w0.heap.size w0 W5):=hB5
    have HG5:Hid (W5.heap[w.heap.size]?=some (.cells #[.string frm,.bool whole,.slice pm km cm,.slice ps ks cs,.slice pg kg cg,.slice ph kh ch] 44 (0,0))):=hg5
    have HSH5:Hid (Sh (fun k=>L≤k) w W5):=hsh5
    clear hB5 hg5 hsh5
    by_cases hje:je=0
    rotate_left
    ·have hje':(je != 0)=true:=by simpa using hje
     have HR:Hid (res=je):=HE3.out.trans (if_neg hje)
     have HPN:Hid (je≠0):=hje
     clear hje
     go_wp2_with fail
     go_ret
     exact ⟨ret_int HR.out.symm,HSH5.out,fun h=>absurd (HR.out.symm.trans h) HPN.out⟩
    ·have HW5:Hid (Wk L W5 b { nd with sv:=Sv.joinL n.sv sv }):=HO4.out hje
     have HE4:Hid (res=ge):=HE3.out.trans (if_pos hje)
     subst hje
     clear HO4 HE3
     obtain ⟨as3,ka3,ca3,ag3,kg3,cg3,vm3,vr3,vw3,h1,_,h3⟩:=HW5.out.cellsN
     have h3:Gw.Sl W5 (.slice ag3 kg3 cg3) n.gw:=by rw [← HRT.out.gw];exact h3
     have y5:W5.cell? ⟨b,5,none⟩=some (.slice ag3 kg3 cg3):=cellsAt h1 5
     have x4:W5.cell? ⟨w.heap.size,4,none⟩=some (.slice pg kg cg):=cellsAt HG5.out 4
     have HJC:Hid (Calls Tryz.prog 124 #[.slice ag3 kg3 cg3,.slice pg kg cg] W5.drew fun e w'=>∃ a k c,e=.returned (.tuple #[.slice a k c,.int .i64 ge])∧Below W5.heap.size W5 w'∧(ge=0→Gw.Own W5.heap.size w' (.slice a k c) (Gw.joinL n.gw gw))):=(HJG.out W5.drew _ HB5.out.drew h3).mono (by rintro e w' ⟨a,k,c,rfl,hb,ho⟩;exact ⟨a,k,c,rfl,(Below.refl W5.heap.size W5).drew.trans hb,ho⟩)
     have HX1:Hid (∀ W,Below W5.heap.size W5 W→W.heap[b]?=some (.cells (ndA { nd with sv:=Sv.joinL n.sv sv } vm3 vr3 (.slice as3 ka3 ca3) (.slice ag3 kg3 cg3) vw3) 72 (0,0))):=fun W hW=>(hW.block _ HW5.out.lt).trans h1
     have HST:Hid (∀ w1 a k c,Below W5.heap.size W5 w1→(ge=0→Gw.Own W5.heap.size w1 (.slice a k c) (Gw.joinL n.gw gw))→ge=0→Wk L (w1.setCell ⟨b,5,none⟩ (.slice a k c)) b { nd with sv:=Sv.joinL n.sv sv,gw:=Gw.joinL n.gw gw }):=fun w1 a k c g1 g2 g0=>HW5.out.set_gw (by have:=HW5.out.lt;omega) g1 (g2 g0) HJP.out
     clear h1 h3
     go_wp2_with fail
     go_region_with (first | (go_at_call 124;refine HJC.out.mono ?_;rintro e w6 ⟨a6,k6,c6,rfl,hb6,ho6⟩;have HS6:Hid (Sh (fun k=>k=b) W0 (w6.setCell ⟨b,5,none⟩ (.slice a6 k6 c6))):=(HS4.out.next hb6).setCell (S:=fun k=>k=b) rfl _;have HO6:Hid (ge=0→Wk L (w6.setCell ⟨b,5,none⟩ (.slice a6 k6 c6)) b { nd with sv:=Sv.joinL n.sv sv,gw:=Gw.joinL n.gw gw }):=HST.out w6 a6 k6 c6 hb6 ho6;have hgx:=HX1.out w6 hb6;have z5:w6.cell? ⟨b,5,none⟩=some (.slice ag3 kg3 cg3):=cellsAt hgx 5;have zf:w6.frozen? ⟨b,5,none⟩=false:=frozen_of hgx 5;clear hb6 ho6 hgx))
     all_goals
      obtain ⟨W7,hW7⟩:∃ W7,W7=w6.setCell ⟨b,5,none⟩ (.slice a6 k6 c6):=⟨_,rfl⟩
      rw [← hW7] at HS6 HO6
      rw [← hW7]
      clear hW7 z5 zf y5 x4 HX1 HJC HST
      obtain ⟨hB7,hg7,hsh7,hsz7⟩:=HBB.out W7 HS6.out
      have HB7:Hid (Below w0.heap.size w0 W7):=hB7
      have HSH7:Hid (Sh (fun k=>L≤k) w W7):=hsh7
      have x5:W7.cell? ⟨w.heap.size,5,none⟩=some (.slice ph kh ch):=cellsAt hg7 5
      clear hB7 hg7 hsh7
      by_cases hge:ge=0
      rotate_left
      ·have hge':(ge != 0)=true:=by simpa using hge
       have HPN:Hid (ge≠0):=hge
       clear hge
       go_wp2_with fail
       go_ret
       exact ⟨ret_int HE4.out.symm,HSH7.out,fun h=>absurd (HE4.out.symm.trans h) HPN.out⟩
      ·have HLC:=HLN.out W7 { nd with sv:=Sv.joinL n.sv sv,gw:=Gw.joinL n.gw gw } (HO6.out hge) HRT.out.wh HB7.out HWL.out
       have HR0:Hid (res=0):=HE4.out.trans hge
       subst hge
       clear HO6
       go_wp2_with fail
       refine HLC.mono ?_
       rintro e w8 ⟨rfl,hs8,hk8⟩
       have HS8:Hid (Sh (fun k=>L≤k) w w8):=HSH7.out.trans hs8
       have HK8:Hid (Wk L w8 b (hrN n ⟨frm,whole,ms,sv,gw,wh⟩)):=by rw [HNN.out];exact hk8
       clear hs8 hk8
       go_wp2_with fail
       go_ret
       exact ⟨ret_int HR0.out.symm,HS8.out,fun _=>HK8.out⟩
def OpSays (ne er:Int) (n':Nd) (w:World) (e:Ending) (w':World):Prop:=Below w.heap.size w w' ∧
 ((ne≠0∧e=.returned (.tuple #[.agg #[.string ⟨#[]⟩,.string ⟨#[]⟩,.slice none 0 0,.slice none 0 0,.slice none 0 0,.slice none 0 0,.int .i64 0,.int .i64 0,.int .i64 0,.int .i64 0,.int .i64 0,.slice none 0 0],.int .i64 ne]))∨(ne=0∧er≠0∧e=.returned (.tuple #[.agg #[.string ⟨#[]⟩,.string ⟨#[]⟩,.slice none 0 0,.slice none 0 0,.slice none 0 0,.slice none 0 0,.int .i64 0,.int .i64 0,.int .i64 0,.int .i64 0,.int .i64 0,.slice none 0 0],.int .i64 er])) ∨
 (ne=0∧er=0∧∃ um ur us ug uw,e=.returned (.tuple #[.agg (ndA n' um ur us ug uw),.int .i64 0])∧NdOwn w.heap.size w' n' um ur us ug uw∧NdOk n'))
theorem Nd.sp {n:Nd} (h:n.e=0):Sp n:=⟨(Nd.parts (Nd.e_zero h).1).ms,(Nd.parts (Nd.e_zero h).1).rs,(Nd.parts (Nd.e_zero h).1).name⟩
set_option maxHeartbeats 1600000 in
theorem doubtC_any (L b tb:Nat) (n:Nd) (t:ByteArray) (w:World) (h:Wk L w b n) (hL:L≤b) (hsp:Sp n) (ht:t.size≤maxLen) (hc:w.heap[tb]?=some (.cells #[.string t] 9 (0,0))) :
 Calls Tryz.prog 74 #[.pointer (some ⟨b,0,none⟩),.pointer (some ⟨tb,0,none⟩)] w fun e w'=>e=.returned (.int .i64 (wsE n t 1 2))∧Sh (fun k=>k=b) w w'∧Hid (wsE n t 1 2=0→Wk L w' b (wsN n t 2)):=by
 have HC:Hid (Calls Tryz.prog 75 #[.pointer (some ⟨b,0,none⟩),.string t,.int .i64 1,.int .i64 2] w fun e w'=>e=.returned (.int .i64 (wsE n t 1 2))∧Sh (fun k=>k=b) w w'∧Hid (wsE n t 1 2=0→Wk L w' b (wsN n t 2))):=worsen_any L b n t 1 2 w h hL hsp.ms hsp.rs hsp.name ht rfl
 have y0:w.cell? ⟨tb,0,none⟩=some (.string t):=cellsAt hc 0
 clear h hsp hc
 generalize wsE n t 1 2=we at *
 go_enter Tryz.func74,Tryz.ntmps74
 go_wp2_with fail
 refine HC.out.mono ?_
 rintro e w1 ⟨rfl,hs,hk⟩
 have HS:Hid (Sh (fun k=>k=b) w w1):=hs
 clear hs
 go_wp2_with fail
 go_ret
 exact ⟨rfl,HS.out,hk⟩
set_option maxHeartbeats 25600000 in
set_option maxRecDepth 100000 in
theorem Doubt_any (n:Nd) (t:ByteArray) (vm vr vs vg vw:Value) (w:World) (h:NdIs w n vm vr vs vg vw) (ht:t.size≤maxLen) :
 Calls Tryz.prog 26 #[.agg (ndA n vm vr vs vg vw),.string t] w fun e w'=>OpSays n.e (wsE n t 1 2) (wsN n t 2) w e w':=by
 have HIS:Hid (NdIs w n vm vr vs vg vw):=h
 obtain ⟨W0,hW0⟩:∃ W0,W0=w.heap.size:=⟨_,rfl⟩
 clear hW0 W0
 have HWS:Hid (∀ W0,Below w.heap.size w W0→W0.heap.size=w.heap.size+3→W0.heap[w.heap.size+1]?=some (.cells #[.string t] 9 (0,0))→Calls Tryz.prog 54 #[.agg (ndA n vm vr vs vg vw),.func (.func 74) #[] #[.pointer (some ⟨w.heap.size+1,0,none⟩)]] W0 fun e w'=>WorkSays n.e (wsE n t 1 2) (wsN n t 2) (fun _=>False) (fun _=>True) W0 e w'):=fun W0 hb hs hc1=>
  work_any 74 #[.pointer (some ⟨w.heap.size+1,0,none⟩)] (enters_of Tryz.func74 (by kernel_rfl) rfl) n vm vr vs vg vw W0 (h.below hb) (fun _=>False) (wsE n t 1 2) (wsN n t 2) (fun _=>True)
   (fun he W b hW hb2 hk=>by
     refine (doubtC_any (W0.heap.size+2) b (w.heap.size+1) n t W hk (by omega) (Nd.sp he) ht ((hW.block _ (by omega)).trans hc1)).mono ?_
     rintro e w' ⟨rfl,hs,hh⟩
     exact ⟨rfl,hs.mono (fun k hk=>.inl (by omega)),fun h=>⟨hh.out h,trivial⟩⟩
   ) (fun _ _ _ _=>trivial) (fun _ hk=>hk.elim)
 obtain ⟨nm,ct,ms,rs,sv,gw,⟨px,py,pz,ph,pq⟩,wh⟩:=n
 obtain ⟨⟨em,cm,rfl,_,_⟩,⟨er_,cr,rfl,_,_⟩,⟨es,cs_,rfl,_,_⟩,⟨eg_,cg,rfl,_,_⟩,⟨eh,ch,rfl,_,_⟩,_,_⟩:=h
 simp only [ndA] at HWS ⊢
 generalize ms.length=km at *
 generalize rs.length=kr at *
 generalize sv.length=ks at *
 generalize gw.length=kg at *
 generalize wh.length=kh at *
 generalize Nd.e ⟨nm,ct,ms,rs,sv,gw,⟨px,py,pz,ph,pq⟩,wh⟩=ne at *
 generalize wsE ⟨nm,ct,ms,rs,sv,gw,⟨px,py,pz,ph,pq⟩,wh⟩ t 1 2=er at *
 generalize wsN ⟨nm,ct,ms,rs,sv,gw,⟨px,py,pz,ph,pq⟩,wh⟩ t 2=n' at *
 obtain ⟨W0,hW0⟩:∃ W0,W0=(((w.alloc (.cells #[.string nm,.string ct,.slice em km cm,.slice er_ kr cr,.slice es ks cs_,.slice eg_ kg cg,.int .i64 px,.int .i64 py,.int .i64 pz,.int .i64 ph,.int .i64 pq,.slice eh kh ch] 30)).alloc (.cells #[.string t] 9)).alloc (.cells #[.string ⟨#[]⟩,.string ⟨#[]⟩,.slice none 0 0,.slice none 0 0,.slice none 0 0,.slice none 0 0,.int .i64 0,.int .i64 0,.int .i64 0,.int .i64 0,.int .i64 0,.slice none 0 0] 30)):=⟨_,rfl⟩
 have hb0:Below w.heap.size w W0:=by rw [hW0];exact (((Below.refl _ _).alloc (Nat.le_refl _) _).alloc (by simp<;>omega) _).alloc (by simp<;>omega) _
 have hs0:W0.heap.size=w.heap.size+3:=by rw [hW0];simp
 have hc1:W0.heap[w.heap.size+1]?=some (.cells #[.string t] 9 (0,0)):=by
  have h:=heap_alloc_new (w.alloc (.cells #[.string nm,.string ct,.slice em km cm,.slice er_ kr cr,.slice es ks cs_,.slice eg_ kg cg,.int .i64 px,.int .i64 py,.int .i64 pz,.int .i64 ph,.int .i64 pq,.slice eh kh ch] 30)) (.cells #[.string t] 9)
  rw [hW0,Below.heap_alloc _ _ _ (by simp<;>omega)];simpa using h
 have hz0:W0.heap[w.heap.size+2]?=some (.cells #[.string ⟨#[]⟩,.string ⟨#[]⟩,.slice none 0 0,.slice none 0 0,.slice none 0 0,.slice none 0 0,.int .i64 0,.int .i64 0,.int .i64 0,.int .i64 0,.int .i64 0,.slice none 0 0] 30 (0,0)):=by
  have h:=heap_alloc_new ((w.alloc (.cells #[.string nm,.string ct,.slice em km cm,.slice er_ kr cr,.slice es ks cs_,.slice eg_ kg cg,.int .i64 px,.int .i64 py,.int .i64 pz,.int .i64 ph,.int .i64 pq,.slice eh kh ch] 30)).alloc (.cells #[.string t] 9)) (.cells #[.string ⟨#[]⟩,.string ⟨#[]⟩,.slice none 0 0,.slice none 0 0,.slice none 0 0,.slice none 0 0,.int .i64 0,.int .i64 0,.int .i64 0,.int .i64 0,.int .i64 0,.slice none 0 0] 30)
  rw [hW0];simpa using h
 have HWC:=HWS.out W0 hb0 hs0 hc1
 have HB0:Hid (Below w.heap.size w W0):=hb0
 have HZ0:Hid (W0.heap[w.heap.size+2]?=some (.cells #[.string ⟨#[]⟩,.string ⟨#[]⟩,.slice none 0 0,.slice none 0 0,.slice none 0 0,.slice none 0 0,.int .i64 0,.int .i64 0,.int .i64 0,.int .i64 0,.int .i64 0,.slice none 0 0] 30 (0,0))):=hz0
 clear hb0 hz0 HWS hc1
 go_enter Tryz.func26,Tryz.ntmps26
 go_wp2_with fail
 rw [← hW0]
 refine HWC.mono ?_
 rintro e w1 ⟨hsh,hor⟩
 have hb1:Below W0.heap.size W0 w1:=hsh.below (Nat.le_refl _) (fun _ hk=>hk.elim)
 have hz1:w1.heap[w.heap.size+2]?=_:=(hb1.block _ (by omega)).trans HZ0.out
 have HB1:Hid (Below w.heap.size w w1):=HB0.out.trans (hb1.mono (by omega))
 have hs1:w.heap.size+2 < w1.heap.size:=(Array.getElem?_eq_some_iff.1 hz1).1
 obtain ⟨q0,q1,q2,q3,q4,q5,q6,q7,q8,q9,q10,q11⟩:=cells12 hz1
 obtain ⟨qz0,qz1,qz2,qz3,qz4,qz5,qz6,qz7,qz8,qz9,qz10,qz11⟩:=frz12 hz1
 clear hsh hb1 hz1 HWC hW0
 rcases hor with ⟨hne,rfl⟩ | ⟨hne,hee,rfl⟩ | ⟨hne,hee,um,ur,us,ug,uw,rfl,hown,hok,_⟩
 ·have HNE:Hid (ne≠0):=hne
  clear hne
  go_wp2_with fail
  refine bodyPost_ret (v:=.tuple #[.agg #[.string ⟨#[]⟩,.string ⟨#[]⟩,.slice none 0 0,.slice none 0 0,.slice none 0 0,.slice none 0 0,.int .i64 0,.int .i64 0,.int .i64 0,.int .i64 0,.int .i64 0,.slice none 0 0],.int .i64 ne]) ?_ rfl ?_
  ·simp [results,Tryz.results26,go_sem,q0,q1,q2,q3,q4,q5,q6,q7,q8,q9,q10,q11]
  ·unfold OpSays
   exact ⟨below_set12 HB1.out (by omega) _ _ _ _ _ _ _ _ _ _ _ _,.inl ⟨HNE.out,rfl⟩⟩
 ·have HNE:Hid (ne=0∧er≠0):=⟨hne,hee⟩
  clear hne hee
  go_wp2_with fail
  refine bodyPost_ret (v:=.tuple #[.agg #[.string ⟨#[]⟩,.string ⟨#[]⟩,.slice none 0 0,.slice none 0 0,.slice none 0 0,.slice none 0 0,.int .i64 0,.int .i64 0,.int .i64 0,.int .i64 0,.int .i64 0,.slice none 0 0],.int .i64 er]) ?_ rfl ?_
  ·simp [results,Tryz.results26,go_sem,q0,q1,q2,q3,q4,q5,q6,q7,q8,q9,q10,q11]
  ·unfold OpSays
   exact ⟨below_set12 HB1.out (by omega) _ _ _ _ _ _ _ _ _ _ _ _,.inr (.inl ⟨HNE.out.1,HNE.out.2,rfl⟩)⟩
 ·have HNE:Hid (ne=0∧er=0):=⟨hne,hee⟩
  have HOWN:Hid (NdOwn W0.heap.size w1 n' um ur us ug uw):=hown
  have HOK2:Hid (NdOk n'):=hok
  obtain ⟨im2,jm2,hvm,_⟩:=own_slice hown.ms
  obtain ⟨ir2,jr2,hvr,_⟩:=own_slice hown.rs
  obtain ⟨is2,js2,hvs,_⟩:=own_slice hown.sv
  obtain ⟨ig2,jg2,hvg,_⟩:=own_slice hown.gw
  obtain ⟨ih2,jh2,hvh,_⟩:=own_slice hown.wh
  subst hvm hvr hvs hvg hvh
  clear hown hok hne hee
  obtain ⟨n2,c2,ms2,rs2,sv2,gw2,⟨qx,qy,qz,qh,qq⟩,wh2⟩:=n'
  go_wp2_with fail
  refine bodyPost_ret (v:=.tuple #[.agg #[.string n2,.string c2,.slice im2 ms2.length jm2,.slice ir2 rs2.length jr2,.slice is2 sv2.length js2,.slice ig2 gw2.length jg2,.int .i64 qx,.int .i64 qy,.int .i64 qz,.int .i64 qh,.int .i64 qq,.slice ih2 wh2.length jh2],.int .i64 0]) ?_ rfl ?_
  ·simp [results,Tryz.results26,go_sem,q0,q1,q2,q3,q4,q5,q6,q7,q8,q9,q10,q11]
  ·unfold OpSays
   refine ⟨below_set12 HB1.out (by omega) _ _ _ _ _ _ _ _ _ _ _ _,.inr (.inr ⟨HNE.out.1,HNE.out.2,_,_,_,_,_,rfl,⟨?_,?_,?_,?_,?_⟩,HOK2.out⟩)⟩
   ·exact Own.mono (owns_set12 (HOWN.out.ms) (by omega) _ _ _ _ _ _ _ _ _ _ _ _) (by omega)
   ·exact ROwn.base (owns_set12 (HOWN.out.rs) (by omega) _ _ _ _ _ _ _ _ _ _ _ _) (by omega)
   ·exact Sv.Own.mono (owns_set12 (HOWN.out.sv) (by omega) _ _ _ _ _ _ _ _ _ _ _ _) (by omega)
   ·exact Gw.Own.mono (owns_set12 (HOWN.out.gw) (by omega) _ _ _ _ _ _ _ _ _ _ _ _) (by omega)
   ·exact Wh.Own.mono (owns_set12 (HOWN.out.wh) (by omega) _ _ _ _ _ _ _ _ _ _ _ _) (by omega)
theorem Wh.fine_chk {wh:List Wh.Whe} (h:Wh.chk wh=0) (hk:∀ m∈wh,m.ok):Wh.Fine wh:=⟨(Wh.chk_zero h).2.1,(Wh.chk_zero h).1,hk⟩
set_option maxHeartbeats 3200000 in
theorem hearC_any (L b tb:Nat) (n:Nd) (frm:ByteArray) (whole:Bool) (pms:List Mem) (psv:List Sv.Svc) (pgw:List Gw.Gwy) (pwh:List Wh.Whe) (am aS aG aH:Option Addr) (bm bS bG bH:Nat) (w0 w:World) (h:Wk L w b n) (hL:L≤b) (he:n.e=0) (hok:NdOk n) (hx:PkIs w0 ⟨frm,whole,pms,psv,pgw,pwh⟩ (.slice am pms.length bm) (.slice aS psv.length bS) (.slice aG pgw.length bG) (.slice aH pwh.length bH)) (hB:Below w0.heap.size w0 w) (hBL:w0.heap.size≤L) (hlen:whole=true∨psv.length+pgw.length+pwh.length≤4611686018427387904)
 (hc:w.heap[tb]?=some (.cells #[.string frm,.bool whole,.slice am pms.length bm,.slice aS psv.length bS,.slice aG pgw.length bG,.slice aH pwh.length bH] 44 (0,0))) :
 Calls Tryz.prog 66 #[.pointer (some ⟨b,0,none⟩),.pointer (some ⟨tb,0,none⟩)] w fun e w'=>e=.returned (.int .i64 (hrE n ⟨frm,whole,pms,psv,pgw,pwh⟩))∧Sh (fun k=>L≤k) w w'∧Hid (hrE n ⟨frm,whole,pms,psv,pgw,pwh⟩=0→Wk L w' b (hrN n ⟨frm,whole,pms,psv,pgw,pwh⟩)):=by
 have hp:=Nd.parts (Nd.e_zero he).1
 have HC:Hid (Calls Tryz.prog 67 #[.pointer (some ⟨b,0,none⟩),.agg #[.string frm,.bool whole,.slice am pms.length bm,.slice aS psv.length bS,.slice aG pgw.length bG,.slice aH pwh.length bH]] w fun e w'=>e=.returned (.int .i64 (hrE n ⟨frm,whole,pms,psv,pgw,pwh⟩))∧Sh (fun k=>L≤k) w w'∧Hid (hrE n ⟨frm,whole,pms,psv,pgw,pwh⟩=0→Wk L w' b (hrN n ⟨frm,whole,pms,psv,pgw,pwh⟩))):=
  whear_any L b n ⟨frm,whole,pms,psv,pgw,pwh⟩ _ _ _ _ w0 w h hL (Nd.sp he) hp.sv hp.gw (Wh.fine_chk hp.wh hok.wh) hx hB hBL hlen
 obtain ⟨y0,y1,y2,y3,y4,y5⟩:=cells6 hc
 clear h hp hc hx
 generalize hrE n ⟨frm,whole,pms,psv,pgw,pwh⟩=we at *
 generalize hrN n ⟨frm,whole,pms,psv,pgw,pwh⟩=nn at *
 generalize pms.length=k1 at *
 generalize psv.length=k2 at *
 generalize pgw.length=k3 at *
 generalize pwh.length=k4 at *
 go_enter Tryz.func66,Tryz.ntmps66
 go_wp2_with fail
 refine HC.out.mono ?_
 rintro e w1 ⟨rfl,hs,hk⟩
 have HS:Hid (Sh (fun k=>L≤k) w w1):=hs
 clear hs
 go_wp2_with fail
 go_ret
 exact ⟨rfl,HS.out,hk⟩
set_option maxHeartbeats 25600000 in
set_option maxRecDepth 100000 in
theorem Hear_any (n:Nd) (p:Pk) (zm zs zg zw:Value) (vm vr vs vg vw:Value) (w:World) (h:NdIs w n vm vr vs vg vw) (hx:PkIs w p zm zs zg zw) (hlen:p.whole=true∨p.sv.length+p.gw.length+p.wh.length≤4611686018427387904) :
 Calls Tryz.prog 24 #[.agg (ndA n vm vr vs vg vw),.agg #[.string p.frm,.bool p.whole,zm,zs,zg,zw]] w fun e w'=>OpSays n.e (hrE n p) (hrN n p) w e w':=by
 have HIS:Hid (NdIs w n vm vr vs vg vw):=h
 have HX:Hid (PkIs w p zm zs zg zw):=hx
 obtain ⟨frm,whole,pms,psv,pgw,pwh⟩:=p
 obtain ⟨⟨am,bm,rfl,_,_⟩,⟨aS,bS,rfl,_,_⟩,⟨aG,bG,rfl,_,_⟩,⟨aH,bH,rfl,_,_⟩,_,_⟩:=hx
 simp only at hlen HX ⊢
 obtain ⟨W0,hW0⟩:∃ W0,W0=w.heap.size:=⟨_,rfl⟩
 clear hW0 W0
 have HWS:Hid (∀ W0,Below w.heap.size w W0→W0.heap.size=w.heap.size+3→W0.heap[w.heap.size+1]?=some (.cells #[.string frm,.bool whole,.slice am pms.length bm,.slice aS psv.length bS,.slice aG pgw.length bG,.slice aH pwh.length bH] 44 (0,0))→Calls Tryz.prog 54 #[.agg (ndA n vm vr vs vg vw),.func (.func 66) #[] #[.pointer (some ⟨w.heap.size+1,0,none⟩)]] W0 fun e w'=>WorkSays n.e (hrE n ⟨frm,whole,pms,psv,pgw,pwh⟩) (hrN n ⟨frm,whole,pms,psv,pgw,pwh⟩) (fun _=>False) (fun _=>True) W0 e w'):=fun W0 hb hs hc1=>
  work_any 66 #[.pointer (some ⟨w.heap.size+1,0,none⟩)] (enters_of Tryz.func66 (by kernel_rfl) rfl) n vm vr vs vg vw W0 (h.below hb) (fun _=>False) (hrE n ⟨frm,whole,pms,psv,pgw,pwh⟩) (hrN n ⟨frm,whole,pms,psv,pgw,pwh⟩) (fun _=>True)
   (fun he W b hW hb2 hk=>by
     refine (hearC_any (W0.heap.size+2) b (w.heap.size+1) n frm whole pms psv pgw pwh am aS aG aH bm bS bG bH W0 W hk (by omega) he h.ok (HX.out.below hb) hW (by omega) hlen ((hW.block _ (by omega)).trans hc1)).mono ?_
     rintro e w' ⟨rfl,hs,hh⟩
     exact ⟨rfl,hs.mono (fun k hk=>.inl hk),fun h=>⟨hh.out h,trivial⟩⟩
   ) (fun _ _ _ _=>trivial) (fun _ hk=>hk.elim)
 obtain ⟨nm,ct,ms,rs,sv,gw,⟨px,py,pz,ph,pq⟩,wh⟩:=n
 obtain ⟨⟨em,cm,rfl,_,_⟩,⟨er_,cr,rfl,_,_⟩,⟨es,cs_,rfl,_,_⟩,⟨eg_,cg,rfl,_,_⟩,⟨eh,ch,rfl,_,_⟩,_,_⟩:=h
 simp only [ndA] at HWS ⊢
 generalize ms.length=km at *
 generalize rs.length=kr at *
 generalize sv.length=ks at *
 generalize gw.length=kg at *
 generalize wh.length=kh at *
 generalize pms.length=k1 at *
 generalize psv.length=k2 at *
 generalize pgw.length=k3 at *
 generalize pwh.length=k4 at *
 generalize Nd.e ⟨nm,ct,ms,rs,sv,gw,⟨px,py,pz,ph,pq⟩,wh⟩=ne at *
 generalize hrE ⟨nm,ct,ms,rs,sv,gw,⟨px,py,pz,ph,pq⟩,wh⟩ ⟨frm,whole,pms,psv,pgw,pwh⟩=er at *
 generalize hrN ⟨nm,ct,ms,rs,sv,gw,⟨px,py,pz,ph,pq⟩,wh⟩ ⟨frm,whole,pms,psv,pgw,pwh⟩=n' at *
 obtain ⟨W0,hW0⟩:∃ W0,W0=(((w.alloc (.cells #[.string nm,.string ct,.slice em km cm,.slice er_ kr cr,.slice es ks cs_,.slice eg_ kg cg,.int .i64 px,.int .i64 py,.int .i64 pz,.int .i64 ph,.int .i64 pq,.slice eh kh ch] 30)).alloc (.cells #[.string frm,.bool whole,.slice am k1 bm,.slice aS k2 bS,.slice aG k3 bG,.slice aH k4 bH] 44)).alloc (.cells #[.string ⟨#[]⟩,.string ⟨#[]⟩,.slice none 0 0,.slice none 0 0,.slice none 0 0,.slice none 0 0,.int .i64 0,.int .i64 0,.int .i64 0,.int .i64 0,.int .i64 0,.slice none 0 0] 30)):=⟨_,rfl⟩
 have hb0:Below w.heap.size w W0:=by rw [hW0];exact (((Below.refl _ _).alloc (Nat.le_refl _) _).alloc (by simp<;>omega) _).alloc (by simp<;>omega) _
 have hs0:W0.heap.size=w.heap.size+3:=by rw [hW0];simp
 have hc1:W0.heap[w.heap.size+1]?=some (.cells #[.string frm,.bool whole,.slice am k1 bm,.slice aS k2 bS,.slice aG k3 bG,.slice aH k4 bH] 44 (0,0)):=by
  have h:=heap_alloc_new (w.alloc (.cells #[.string nm,.string ct,.slice em km cm,.slice er_ kr cr,.slice es ks cs_,.slice eg_ kg cg,.int .i64 px,.int .i64 py,.int .i64 pz,.int .i64 ph,.int .i64 pq,.slice eh kh ch] 30)) (.cells #[.string frm,.bool whole,.slice am k1 bm,.slice aS k2 bS,.slice aG k3 bG,.slice aH k4 bH] 44)
  rw [hW0,Below.heap_alloc _ _ _ (by simp<;>omega)];simpa using h
 have hz0:W0.heap[w.heap.size+2]?=some (.cells #[.string ⟨#[]⟩,.string ⟨#[]⟩,.slice none 0 0,.slice none 0 0,.slice none 0 0,.slice none 0 0,.int .i64 0,.int .i64 0,.int .i64 0,.int .i64 0,.int .i64 0,.slice none 0 0] 30 (0,0)):=by
  have h:=heap_alloc_new ((w.alloc (.cells #[.string nm,.string ct,.slice em km cm,.slice er_ kr cr,.slice es ks cs_,.slice eg_ kg cg,.int .i64 px,.int .i64 py,.int .i64 pz,.int .i64 ph,.int .i64 pq,.slice eh kh ch] 30)).alloc (.cells #[.string frm,.bool whole,.slice am k1 bm,.slice aS k2 bS,.slice aG k3 bG,.slice aH k4 bH] 44)) (.cells #[.string ⟨#[]⟩,.string ⟨#[]⟩,.slice none 0 0,.slice none 0 0,.slice none 0 0,.slice none 0 0,.int .i64 0,.int .i64 0,.int .i64 0,.int .i64 0,.int .i64 0,.slice none 0 0] 30)
  rw [hW0];simpa using h
 have HWC:=HWS.out W0 hb0 hs0 hc1
 have HB0:Hid (Below w.heap.size w W0):=hb0
 have HZ0:Hid (W0.heap[w.heap.size+2]?=some (.cells #[.string ⟨#[]⟩,.string ⟨#[]⟩,.slice none 0 0,.slice none 0 0,.slice none 0 0,.slice none 0 0,.int .i64 0,.int .i64 0,.int .i64 0,.int .i64 0,.int .i64 0,.slice none 0 0] 30 (0,0))):=hz0
 clear hb0 hz0 HWS hc1
 go_enter Tryz.func24,Tryz.ntmps24
 go_wp2_with fail
 rw [← hW0]
 refine HWC.mono ?_
 rintro e w1 ⟨hsh,hor⟩
 have hb1:Below W0.heap.size W0 w1:=hsh.below (Nat.le_refl _) (fun _ hk=>hk.elim)
 have hz1:w1.heap[w.heap.size+2]?=_:=(hb1.block _ (by omega)).trans HZ0.out
 have HB1:Hid (Below w.heap.size w w1):=HB0.out.trans (hb1.mono (by omega))
 have hs1:w.heap.size+2 < w1.heap.size:=(Array.getElem?_eq_some_iff.1 hz1).1
 obtain ⟨q0,q1,q2,q3,q4,q5,q6,q7,q8,q9,q10,q11⟩:=cells12 hz1
 obtain ⟨qz0,qz1,qz2,qz3,qz4,qz5,qz6,qz7,qz8,qz9,qz10,qz11⟩:=frz12 hz1
 clear hsh hb1 hz1 HWC hW0
 rcases hor with ⟨hne,rfl⟩ | ⟨hne,hee,rfl⟩ | ⟨hne,hee,um,ur,us,ug,uw,rfl,hown,hok,_⟩
 ·have HNE:Hid (ne≠0):=hne
  clear hne
  go_wp2_with fail
  refine bodyPost_ret (v:=.tuple #[.agg #[.string ⟨#[]⟩,.string ⟨#[]⟩,.slice none 0 0,.slice none 0 0,.slice none 0 0,.slice none 0 0,.int .i64 0,.int .i64 0,.int .i64 0,.int .i64 0,.int .i64 0,.slice none 0 0],.int .i64 ne]) ?_ rfl ?_
  ·simp [results,Tryz.results24,go_sem,q0,q1,q2,q3,q4,q5,q6,q7,q8,q9,q10,q11]
  ·unfold OpSays
   exact ⟨below_set12 HB1.out (by omega) _ _ _ _ _ _ _ _ _ _ _ _,.inl ⟨HNE.out,rfl⟩⟩
 ·have HNE:Hid (ne=0∧er≠0):=⟨hne,hee⟩
  clear hne hee
  go_wp2_with fail
  refine bodyPost_ret (v:=.tuple #[.agg #[.string ⟨#[]⟩,.string ⟨#[]⟩,.slice none 0 0,.slice none 0 0,.slice none 0 0,.slice none 0 0,.int .i64 0,.int .i64 0,.int .i64 0,.int .i64 0,.int .i64 0,.slice none 0 0],.int .i64 er]) ?_ rfl ?_
  ·simp [results,Tryz.results24,go_sem,q0,q1,q2,q3,q4,q5,q6,q7,q8,q9,q10,q11]
  ·unfold OpSays
   exact ⟨below_set12 HB1.out (by omega) _ _ _ _ _ _ _ _ _ _ _ _,.inr (.inl ⟨HNE.out.1,HNE.out.2,rfl⟩)⟩
 ·have HNE:Hid (ne=0∧er=0):=⟨hne,hee⟩
  have HOWN:Hid (NdOwn W0.heap.size w1 n' um ur us ug uw):=hown
  have HOK2:Hid (NdOk n'):=hok
  obtain ⟨im2,jm2,hvm,_⟩:=own_slice hown.ms
  obtain ⟨ir2,jr2,hvr,_⟩:=own_slice hown.rs
  obtain ⟨is2,js2,hvs,_⟩:=own_slice hown.sv
  obtain ⟨ig2,jg2,hvg,_⟩:=own_slice hown.gw
  obtain ⟨ih2,jh2,hvh,_⟩:=own_slice hown.wh
  subst hvm hvr hvs hvg hvh
  clear hown hok hne hee
  obtain ⟨n2,c2,ms2,rs2,sv2,gw2,⟨qx,qy,qz,qh,qq⟩,wh2⟩:=n'
  go_wp2_with fail
  refine bodyPost_ret (v:=.tuple #[.agg #[.string n2,.string c2,.slice im2 ms2.length jm2,.slice ir2 rs2.length jr2,.slice is2 sv2.length js2,.slice ig2 gw2.length jg2,.int .i64 qx,.int .i64 qy,.int .i64 qz,.int .i64 qh,.int .i64 qq,.slice ih2 wh2.length jh2],.int .i64 0]) ?_ rfl ?_
  ·simp [results,Tryz.results24,go_sem,q0,q1,q2,q3,q4,q5,q6,q7,q8,q9,q10,q11]
  ·unfold OpSays
   refine ⟨below_set12 HB1.out (by omega) _ _ _ _ _ _ _ _ _ _ _ _,.inr (.inr ⟨HNE.out.1,HNE.out.2,_,_,_,_,_,rfl,⟨?_,?_,?_,?_,?_⟩,HOK2.out⟩)⟩
   ·exact Own.mono (owns_set12 (HOWN.out.ms) (by omega) _ _ _ _ _ _ _ _ _ _ _ _) (by omega)
   ·exact ROwn.base (owns_set12 (HOWN.out.rs) (by omega) _ _ _ _ _ _ _ _ _ _ _ _) (by omega)
   ·exact Sv.Own.mono (owns_set12 (HOWN.out.sv) (by omega) _ _ _ _ _ _ _ _ _ _ _ _) (by omega)
   ·exact Gw.Own.mono (owns_set12 (HOWN.out.gw) (by omega) _ _ _ _ _ _ _ _ _ _ _ _) (by omega)
   ·exact Wh.Own.mono (owns_set12 (HOWN.out.wh) (by omega) _ _ _ _ _ _ _ _ _ _ _ _) (by omega)
end Go.Proofs.YtikgjgmgbfjcgaaGreat
