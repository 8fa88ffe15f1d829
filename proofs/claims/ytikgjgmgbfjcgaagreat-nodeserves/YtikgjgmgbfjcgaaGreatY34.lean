import Derived.Test.YtikgjgmgbfjcgaaGreatY30
import Derived.Test.YtikgjgmgbfjcgaaGreatY32
import Derived.Test.YtikgjgmgbfjcgaaGreatY33
import Derived.Test.YtikgjgmgbfjcgaaGreatY17
namespace Go.Proofs.YtikgjgmgbfjcgaaGreat
open Go.RowKit
def wsE (n:Nd) (t:ByteArray) (frm to:Int):Int:=
 if labB t=true then (if (fstM n.ms t).isSome=true then (if t=n.name then 6 else if (mOf n.ms t).state=frm then spE n { mOf n.ms t with state:=to } else 4) else 5) else 1
def wsN (n:Nd) (t:ByteArray) (to:Int):Nd:=spN n { mOf n.ms t with state:=to }
theorem mOf_mem {ms:List Mem} {t:ByteArray} (h:(fstM ms t).isSome=true):mOf ms t∈ms∧(mOf ms t).name=t:=by
 obtain ⟨m,hm⟩:=Option.isSome_iff_exists.1 h
 rw [mOf_some hm]
 exact fstM_mem hm
set_option maxHeartbeats 12800000 in
set_option maxRecDepth 100000 in
theorem worsen_any (L b:Nat) (n:Nd) (t:ByteArray) (frm to:Int) (w:World) (h:Wk L w b n) (hL:L≤b) (hms:chk n.ms=0) (hrs:chkR n.rs=0) (hl:labB n.name=true) (ht:t.size≤maxLen) (hto:within to 1 4=true) :
 Calls Tryz.prog 75 #[.pointer (some ⟨b,0,none⟩),.string t,.int .i64 frm,.int .i64 to] w fun e w'=>e=.returned (.int .i64 (wsE n t frm to))∧Sh (fun k=>k=b) w w'∧Hid (wsE n t frm to=0→Wk L w' b (wsN n t to)):=by
 have HWK:Hid (Wk L w b n):=h
 have hbl:=h.lt
 obtain ⟨vm,vr,vs,vg,vw,h1,h2,h3,h4⟩:=h
 have HIS:Hid (NdIs w n vm vr vs vg vw):=h2.is h4
 obtain ⟨am,cm,hvm,_⟩:=own_slice h2.ms
 subst hvm
 have HMB:Hid (Calls Tryz.prog 104 #[.pointer (some ⟨b,0,none⟩),.string t] w fun e w'=>e=.returned (.tuple #[.agg #[.string (mOf n.ms t).name,.int .i64 (mOf n.ms t).state,.int .i64 (mOf n.ms t).life,.int .i64 (mOf n.ms t).addr,.bool (mOf n.ms t).server],.bool (fstM n.ms t).isSome])∧Below w.heap.size w w'):=
  wmember_any b am n.ms.length cm n.ms t w (cellsAt h1 2) HIS.out.ms (by have:=(chk_zero hms).1;omega)
 have HSP:Hid ((fstM n.ms t).isSome=true→∀ W,Below w.heap.size w W→Calls Tryz.prog 122 #[.pointer (some ⟨b,0,none⟩),.agg #[.string (mOf n.ms t).name,.int .i64 to,.int .i64 (mOf n.ms t).life,.int .i64 (mOf n.ms t).addr,.bool (mOf n.ms t).server]] W fun e w'=>e=.returned (.int .i64 (spE n { mOf n.ms t with state:=to }))∧Sh (fun k=>k=b) W w'∧Hid (spE n { mOf n.ms t with state:=to }=0→Wk L w' b (wsN n t to))):=fun hs W hW=>by
  obtain ⟨g1,g2⟩:=mOf_mem hs
  have he:=(mem_e0 _).1 (chk_e0 hms _ g1)
  exact spread_any L b n { mOf n.ms t with state:=to } W (HWK.out.below hW) hL hms hrs hl ((mem_e0 _).2 ⟨he.1,hto,he.2.2.1,he.2.2.2⟩) (show (mOf n.ms t).name.size≤maxLen from h4.ms _ g1)
 have HX:Hid (∀ W,Below w.heap.size w W→W.cell? ⟨b,0,none⟩=some (.string n.name)):=fun W hW=>cellsAt ((hW.block _ hbl).trans h1) 0
 have HE:Hid (wsE n t frm to=if labB t=true then (if (fstM n.ms t).isSome=true then (if t=n.name then 6 else if (mOf n.ms t).state=frm then spE n { mOf n.ms t with state:=to } else 4) else 5) else 1):=rfl
 generalize wsE n t frm to=res at *
 generalize spE n { mOf n.ms t with state:=to }=se at *
 clear h1 h2 h3 h4 hms hrs
 generalize (fstM n.ms t).isSome=fd at *
 generalize hmm:mOf n.ms t=m at *
 clear hmm
 obtain ⟨mn,st,lf,ad,sv⟩:=m
 simp only at HMB HSP HE
 go_enter Tryz.func75,Tryz.ntmps75
 rcases hlab:labB t with _ | _
 ·have HR:Hid (res=1):=HE.out.trans (by rw [hlab];rfl)
  go_wp2_with (go_at_call 96;refine (label_any _ _ ht).mono ?_;rintro e w' ⟨rfl,rfl⟩;rw [hlab])
  go_ret
  exact ⟨ret_int HR.out.symm,Sh.refl _ _,fun h=>by have:=HR.out.symm.trans h;cases this⟩
 have HE2:Hid (res=if fd=true then (if t=n.name then 6 else if st=frm then se else 4) else 5):=HE.out.trans (by rw [hlab];rfl)
 clear HE
 go_wp2_with (first | (go_at_call 96;refine (label_any _ _ ht).mono ?_;rintro e w' ⟨rfl,hww⟩;have hwq:=hww.symm;subst hwq;rw [hlab]) | fail)
 refine HMB.out.mono ?_
 rintro e w1 ⟨rfl,hb1⟩
 obtain ⟨W2,hW2⟩:∃ W2,W2=w1.alloc (.cells #[.string mn,.int .i64 st,.int .i64 lf,.int .i64 ad,.bool sv] 37):=⟨_,rfl⟩
 have hb2:Below w.heap.size w W2:=by rw [hW2];exact hb1.alloc hb1.size _
 have hbb:w1.heap.size < W2.heap.size:=by rw [hW2];simp
 have hg2:W2.heap[w1.heap.size]?=some (.cells #[.string mn,.int .i64 st,.int .i64 lf,.int .i64 ad,.bool sv] 37 (0,0)):=by rw [hW2];exact heap_alloc_new w1 _
 have HB2:Hid (Below w.heap.size w W2):=hb2
 have hs1:w.heap.size≤w1.heap.size:=hb1.size
 have x0:W2.cell? ⟨w1.heap.size,0,none⟩=some (.string mn):=cellsAt hg2 0
 have x1:W2.cell? ⟨w1.heap.size,1,none⟩=some (.int .i64 st):=cellsAt hg2 1
 have x2:W2.cell? ⟨w1.heap.size,2,none⟩=some (.int .i64 lf):=cellsAt hg2 2
 have x3:W2.cell? ⟨w1.heap.size,3,none⟩=some (.int .i64 ad):=cellsAt hg2 3
 have x4:W2.cell? ⟨w1.heap.size,4,none⟩=some (.bool sv):=cellsAt hg2 4
 have zf:W2.frozen? ⟨w1.heap.size,1,none⟩=false:=frozen_of hg2 1
 have y0:W2.cell? ⟨b,0,none⟩=some (.string n.name):=HX.out W2 hb2
 go_upto_region 4 with fail
 rw [← hW2]
 clear hW2 hb1 hb2 HMB
 cases fd
 ·have HR:Hid (res=5):=HE2.out.trans (by simp)
  go_wp2_with fail
  go_ret
  exact ⟨ret_int HR.out.symm,Sh.of HB2.out,fun h=>by have:=HR.out.symm.trans h;cases this⟩
 by_cases hnm:t=n.name
 ·have HR:Hid (res=6):=HE2.out.trans (by simp [hnm])
  have hq:(t.toList == n.name.toList)=true:=by rw [hnm];simp
  have hq2:t.toList=n.name.toList:=by rw [hnm]
  clear hnm
  go_wp2_with fail
  go_ret
  exact ⟨ret_int HR.out.symm,Sh.of HB2.out,fun h=>by have:=HR.out.symm.trans h;cases this⟩
 have hq:(t.toList == n.name.toList)=false:=by rw [beq_names,decide_eq_false hnm]
 by_cases hst:st=frm
 ·have HR:Hid (res=se):=HE2.out.trans (by simp [hnm,hst])
  subst hst
  have HSC:=fun W hW=>HSP.out rfl W hW
  clear hnm HE2
  obtain ⟨W3,hW3⟩:∃ W3,W3=W2.setCell ⟨w1.heap.size,1,none⟩ (.int .i64 to):=⟨_,rfl⟩
  have HB3:Hid (Below w.heap.size w W3):=by rw [hW3];exact HB2.out.setCell (p:=⟨w1.heap.size,1,none⟩) hs1 _
  have hg3:W3.heap[w1.heap.size]?=some (.cells #[.string mn,.int .i64 to,.int .i64 lf,.int .i64 ad,.bool sv] 37 (0,0)):=by rw [hW3];exact Joins.block_setCell (i:=1) hg2 _
  have v0:W3.cell? ⟨w1.heap.size,0,none⟩=some (.string mn):=cellsAt hg3 0
  have v1:W3.cell? ⟨w1.heap.size,1,none⟩=some (.int .i64 to):=cellsAt hg3 1
  have v2:W3.cell? ⟨w1.heap.size,2,none⟩=some (.int .i64 lf):=cellsAt hg3 2
  have v3:W3.cell? ⟨w1.heap.size,3,none⟩=some (.int .i64 ad):=cellsAt hg3 3
  have v4:W3.cell? ⟨w1.heap.size,4,none⟩=some (.bool sv):=cellsAt hg3 4
  have HSC2:Hid (Calls Tryz.prog 122 #[.pointer (some ⟨b,0,none⟩),.agg #[.string mn,.int .i64 to,.int .i64 lf,.int .i64 ad,.bool sv]] W3 fun e w'=>e=.returned (.int .i64 se)∧Sh (fun k=>k=b) W3 w'∧Hid (se=0→Wk L w' b (wsN n t to))):=HSC W3 HB3.out
  clear HSC hg3 hg2
  go_upto_region 11 with fail
  rw [← hW3]
  clear hW3 x0 x1 x2 x3 x4 zf y0
  go_wp2_with fail
  refine HSC2.out.mono ?_
  rintro e w5 ⟨rfl,hs5,HK5⟩
  have HS5:Hid (Sh (fun k=>k=b) w w5):=(Sh.of HB3.out).trans hs5
  clear hs5
  go_wp2_with fail
  go_ret
  exact ⟨ret_int HR.out.symm,HS5.out,fun h=>HK5.out (HR.out.symm.trans h)⟩
 ·have HR:Hid (res=4):=HE2.out.trans (by simp [hnm,hst])
  have hst':(st != frm)=true:=by simpa using hst
  clear hnm hst HE2
  go_wp2_with fail
  go_ret
  exact ⟨ret_int HR.out.symm,Sh.of HB2.out,fun h=>by have:=HR.out.symm.trans h;cases this⟩
theorem rise_set {ms:List Mem} {p:Nat} {x:Mem} (hr:Rise ms) (hx:x.name=(ms.getD p dm).name):Rise (ms.set p x):=by
 have hn:∀ j (h:j < ms.length),((ms.set p x)[j]'(by rw [List.length_set];exact h)).name=ms[j].name:=fun j h=>by
  rw [List.getElem_set]
  split
  ·rename_i e;subst e;rw [hx];simp [List.getD,List.getElem?_eq_getElem h]
  ·rfl
 refine List.pairwise_iff_getElem.2 fun i j hi hj hij=>?_
 rw [List.length_set] at hi hj
 rw [hn i hi,hn j hj]
 exact List.pairwise_iff_getElem.1 hr i j hi hj hij
structure Sp (n:Nd):Prop where
 ms:chk n.ms=0
 rs:chkR n.rs=0
 name:labB n.name=true
theorem rf_sp {n:Nd} (h:Sp n) (h0:rfE n=0):Sp (rfN n):=by
 unfold rfE at h0
 unfold rfN
 by_cases hR:refR n.ms (rfP n) (rfF n)=true
 ·obtain ⟨f1,f2,f3,f4,f5,f6,f7⟩:=rf_facts h.ms hR
  rw [if_pos (refE_of hR),if_pos hR] at h0
  rw [if_pos hR]
  obtain ⟨l1,l2,_⟩:=chk_zero h.ms
  refine ⟨chk_of ?_ ?_ ?_,chkR_put h.rs f5 h0,h.name⟩
  ·show (rfL n).length≤20;rw [f3,List.length_set];exact l1
  ·show Rise (rfL n);rw [f3];exact rise_set l2 rfl
  ·intro m hm
   have hm:m∈rfL n:=hm
   rw [f3] at hm
   rcases List.mem_or_eq_of_mem_set hm with hm | rfl
   ·exact chk_e0 h.ms m hm
   ·rw [← f4];exact f5
 ·rw [if_neg hR]
  have:rfL n=n.ms:=by unfold rfL refL;rw [if_neg hR]
  rw [this]
  exact h
theorem sp_sp {n:Nd} {m:Mem} (h:Sp n) (hm:m.e=0) (h0:spE n m=0):Sp (spN n m):=by
 unfold spE at h0
 split at h0
 ·rename_i h1
  have h2:Sp (sp1 n m):=⟨(sp1_ok h.ms h.rs hm h1).1,(sp1_ok h.ms h.rs hm h1).2,by rw [sp1_name];exact h.name⟩
  unfold spN
  by_cases hn:m.name=n.name
  ·rw [if_pos hn] at h0 ⊢;exact rf_sp h2 h0
  ·rw [if_neg hn];exact h2
 ·rename_i h1;exact absurd h0 h1
structure Rest (n n':Nd):Prop where
 name:n'.name=n.name
 centre:n'.centre=n.centre
 sv:n'.sv=n.sv
 gw:n'.gw=n.gw
 p:n'.p=n.p
 wh:n'.wh=n.wh
theorem Rest.refl (n:Nd):Rest n n:=⟨rfl,rfl,rfl,rfl,rfl,rfl⟩
theorem Rest.trans {a b c:Nd} (h:Rest a b) (k:Rest b c):Rest a c:=⟨k.name.trans h.name,k.centre.trans h.centre,k.sv.trans h.sv,k.gw.trans h.gw,k.p.trans h.p,k.wh.trans h.wh⟩
theorem rest_rf (n:Nd):Rest n (rfN n):=by unfold rfN;split<;>exact ⟨rfl,rfl,rfl,rfl,rfl,rfl⟩
theorem rest_sp1 (n:Nd) (m:Mem):Rest n (sp1 n m):=by unfold sp1;split<;>exact ⟨rfl,rfl,rfl,rfl,rfl,rfl⟩
theorem rest_sp (n:Nd) (m:Mem):Rest n (spN n m):=by
 unfold spN
 split
 ·exact (rest_sp1 n m).trans (rest_rf _)
 ·exact rest_sp1 n m
def hsE:Nd→List Mem→Int
 | _,[]=>0
 | n,m :: r=>if spE n m=0 then hsE (spN n m) r else spE n m
def hsN:Nd→List Mem→Nd
 | n,[]=>n
 | n,m :: r=>hsN (spN n m) r
theorem hs_snoc:∀ (l:List Mem) (n:Nd) (m:Mem),hsN n (l++[m])=spN (hsN n l) m∧(hsE n l=0→hsE n (l++[m])=spE (hsN n l) m)
 | [],n,m=>⟨rfl,fun _=>by
    show hsE n [m]=spE n m
    rw [hsE]
    split
    ·rename_i h;rw [h];rfl
    ·rfl⟩
 | x :: r,n,m=>by
   obtain ⟨h1,h2⟩:=hs_snoc r (spN n x) m
   refine ⟨h1,fun h=>?_⟩
   rw [hsE] at h
   split at h
   ·rename_i h0
    show hsE n (x :: (r++[m]))=_
    rw [hsE,if_pos h0]
    exact h2 h
   ·rename_i h0;exact absurd h h0
theorem hs_bad:∀ (l r:List Mem) (n:Nd),hsE n l≠0→hsE n (l++r)=hsE n l
 | [],r,n,h=>absurd rfl h
 | x :: l,r,n,h=>by
   show hsE n (x :: (l++r))=_
   rw [hsE] at h ⊢
   rw [hsE]
   split
   ·rename_i h0;rw [if_pos h0] at h;exact hs_bad l r _ h
   ·rfl
theorem hs_sp:∀ (l:List Mem) (n:Nd),Sp n→(∀ m∈l,m.e=0)→hsE n l=0→Sp (hsN n l)
 | [],n,h,_,_=>h
 | x :: r,n,h,hl,h0=>by
   rw [hsE] at h0
   split at h0
   ·rename_i h1
    exact hs_sp r (spN n x) (sp_sp h (hl x (by simp)) h1) (fun m hm=>hl m (by simp [hm])) h0
   ·rename_i h1;exact absurd h0 h1
theorem rest_hs:∀ (l:List Mem) (n:Nd),Rest n (hsN n l)
 | [],n=>Rest.refl n
 | x :: r,n=>(rest_sp n x).trans (rest_hs r _)
def hrE (n:Nd) (p:Pk):Int:=
 if p.e=0 then (if hsE n p.ms=0 then (if Sv.joinE n.sv p.sv=0 then Gw.joinE n.gw p.gw else Sv.joinE n.sv p.sv) else hsE n p.ms) else p.e
def hrN (n:Nd) (p:Pk):Nd:={ hsN n p.ms with sv:=Sv.joinL n.sv p.sv,gw:=Gw.joinL n.gw p.gw,wh:=lrn n.wh p.wh }
theorem pk_ms {p:Pk} (h:p.e=0):(∀ m∈p.ms,m.e=0)∧p.ms.length≤20∧Wh.chk p.wh=0∧Sv.chk p.sv=0∧Gw.chk p.gw=0:=by
 unfold Pk.e at h
 split at h
 ·rename_i h0
  split at h
  ·rename_i h1
   have hm:(∀ m∈p.ms,m.e=0)∧p.ms.length≤20:=by
    unfold Pk.mE at h1
    split at h1
    ·exact ⟨chk_e0 h1,(chk_zero h1).1⟩
    ·obtain ⟨a,b,_⟩:=chkT_zero h1
     exact ⟨firstE_mem _ b,by omega⟩
   split at h
   ·rename_i h2
    split at h
    ·rename_i h3;exact ⟨hm.1,hm.2,h,h2,h3⟩
    ·rename_i h3;exact absurd h h3
   ·rename_i h2;exact absurd h h2
  ·rename_i h1;exact absurd h h1
 ·cases h
end Go.Proofs.YtikgjgmgbfjcgaaGreat
