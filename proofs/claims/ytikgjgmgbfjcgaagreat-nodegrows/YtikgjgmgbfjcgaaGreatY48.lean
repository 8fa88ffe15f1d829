import Derived.Test.YtikgjgmgbfjcgaaGreatY47
import Derived.Test.YtikgjgmgbfjcgaaGreatY28
import Derived.Test.YtikgjgmgbfjcgaaGreatY26
namespace Go.Proofs.YtikgjgmgbfjcgaaGreat
open Go.RowKit
def lvM (n:Nd):Mem:={ mOf n.ms n.name with state:=4,life:=(mOf n.ms n.name).life+1 }
def lvE (n:Nd):Int:=if (mOf n.ms n.name).state=4 then 4 else if (mOf n.ms n.name).life=1000000 then 3 else spE n (lvM n)
def lvN (n:Nd):Nd:=spN n (lvM n)
set_option maxHeartbeats 12800000 in
set_option maxRecDepth 100000 in
theorem wleave_any (L b:Nat) (n:Nd) (w:World) (h:Wk L w b n) (hL:L≤b) (hms:chk n.ms=0) (hrs:chkR n.rs=0) (hl:labB n.name=true) (hfd:(fstM n.ms n.name).isSome=true) :
 Calls Tryz.prog 78 #[.pointer (some ⟨b,0,none⟩)] w fun e w'=>e=.returned (.int .i64 (lvE n))∧Sh (fun k=>k=b) w w'∧Hid (lvE n=0→Wk L w' b (lvN n)):=by
 have HWK:Hid (Wk L w b n):=h
 have hbl:=h.lt
 obtain ⟨vm,vr,vs,vg,vw,h1,h2,h3,h4⟩:=h
 have HIS:Hid (NdIs w n vm vr vs vg vw):=h2.is h4
 obtain ⟨am,cm,hvm,_⟩:=own_slice h2.ms
 subst hvm
 have HMB:Hid (Calls Tryz.prog 104 #[.pointer (some ⟨b,0,none⟩),.string n.name] w fun e w'=>e=.returned (.tuple #[.agg #[.string (mOf n.ms n.name).name,.int .i64 (mOf n.ms n.name).state,.int .i64 (mOf n.ms n.name).life,.int .i64 (mOf n.ms n.name).addr,.bool (mOf n.ms n.name).server],.bool (fstM n.ms n.name).isSome])∧Below w.heap.size w w'):=
  wmember_any b am n.ms.length cm n.ms n.name w (cellsAt h1 2) HIS.out.ms (by have:=(chk_zero hms).1;omega)
 obtain ⟨g1,g2⟩:=mOf_mem hfd
 have he:=(mem_e0 _).1 (chk_e0 hms _ g1)
 have HLF:Hid (1≤(mOf n.ms n.name).life∧(mOf n.ms n.name).life≤1000000):=by
  have h5:=he.2.2.1
  simp [within] at h5
  exact h5
 have HSP:Hid ((mOf n.ms n.name).life≠1000000→∀ W,Below w.heap.size w W→Calls Tryz.prog 122 #[.pointer (some ⟨b,0,none⟩),.agg #[.string (mOf n.ms n.name).name,.int .i64 4,.int .i64 ((mOf n.ms n.name).life+1),.int .i64 (mOf n.ms n.name).addr,.bool (mOf n.ms n.name).server]] W fun e w'=>e=.returned (.int .i64 (spE n (lvM n)))∧Sh (fun k=>k=b) W w'∧Hid (spE n (lvM n)=0→Wk L w' b (lvN n))):=fun hne W hW=>by
  have h6:=HLF.out
  have h7:within ((mOf n.ms n.name).life+1) 1 1000000=true:=by
   simp only [within,Bool.and_eq_true,decide_eq_true_eq]
   omega
  exact spread_any L b n (lvM n) W (HWK.out.below hW) hL hms hrs hl ((mem_e0 _).2 ⟨he.1,(by decide:within 4 1 4=true),h7,he.2.2.2⟩) (show (mOf n.ms n.name).name.size≤maxLen from h4.ms _ g1)
 have y0:w.cell? ⟨b,0,none⟩=some (.string n.name):=cellsAt h1 0
 have HE:Hid (lvE n=if (mOf n.ms n.name).state=4 then 4 else if (mOf n.ms n.name).life=1000000 then 3 else spE n (lvM n)):=rfl
 generalize lvE n=res at *
 generalize spE n (lvM n)=se at *
 generalize lvN n=ln at *
 clear h1 h2 h3 h4 hms hrs g1 g2 he hfd
 generalize (fstM n.ms n.name).isSome=fd at *
 generalize hmm:mOf n.ms n.name=m at *
 clear hmm
 obtain ⟨mn,st,lf,ad,sv⟩:=m
 simp only at HMB HSP HE HLF
 go_enter Tryz.func78,Tryz.ntmps78
 go_wp2_with fail
 refine HMB.out.mono ?_
 rintro e w1 ⟨rfl,hb1⟩
 obtain ⟨W2,hW2⟩:∃ W2,W2=w1.alloc (.cells #[.string mn,.int .i64 st,.int .i64 lf,.int .i64 ad,.bool sv] 37):=⟨_,rfl⟩
 have hb2:Below w.heap.size w W2:=by rw [hW2];exact hb1.alloc hb1.size _
 have hg2:W2.heap[w1.heap.size]?=some (.cells #[.string mn,.int .i64 st,.int .i64 lf,.int .i64 ad,.bool sv] 37 (0,0)):=by rw [hW2];exact heap_alloc_new w1 _
 have HB2:Hid (Below w.heap.size w W2):=hb2
 have hs1:w.heap.size≤w1.heap.size:=hb1.size
 have x1:W2.cell? ⟨w1.heap.size,1,none⟩=some (.int .i64 st):=cellsAt hg2 1
 have x2:W2.cell? ⟨w1.heap.size,2,none⟩=some (.int .i64 lf):=cellsAt hg2 2
 have zf:W2.frozen? ⟨w1.heap.size,1,none⟩=false:=frozen_of hg2 1
 have zg:W2.frozen? ⟨w1.heap.size,2,none⟩=false:=frozen_of hg2 2
 go_upto_region 2 with fail
 rw [← hW2]
 clear hW2 hb1 hb2 HMB y0
 by_cases hst:st=4
 ·have HR:Hid (res=4):=HE.out.trans (if_pos hst)
  subst hst
  clear HE
  go_wp2_with fail
  go_ret
  exact ⟨ret_int HR.out.symm,Sh.of HB2.out,fun h=>by have:=HR.out.symm.trans h;cases this⟩
 have hst':(st == 4)=false:=by simpa using hst
 by_cases hlf:lf=1000000
 ·have HR:Hid (res=3):=HE.out.trans ((if_neg hst).trans (if_pos hlf))
  subst hlf
  clear HE hst
  go_wp2_with fail
  go_ret
  exact ⟨ret_int HR.out.symm,Sh.of HB2.out,fun h=>by have:=HR.out.symm.trans h;cases this⟩
 have HR:Hid (res=se):=HE.out.trans ((if_neg hst).trans (if_neg hlf))
 have hlf':(lf == 1000000)=false:=by simpa using hlf
 have HSC:=fun W hW=>HSP.out hlf W hW
 have hr1:=HLF.out.1
 have hr2:=HLF.out.2
 clear HE hst hlf HSP HLF
 obtain ⟨W3,hW3⟩:∃ W3,W3=(W2.setCell ⟨w1.heap.size,1,none⟩ (.int .i64 4)).setCell ⟨w1.heap.size,2,none⟩ (.int .i64 (lf+1)):=⟨_,rfl⟩
 have HB3:Hid (Below w.heap.size w W3):=by rw [hW3];exact (HB2.out.setCell (p:=⟨w1.heap.size,1,none⟩) hs1 _).setCell (p:=⟨w1.heap.size,2,none⟩) hs1 _
 have hg3:W3.heap[w1.heap.size]?=some (.cells #[.string mn,.int .i64 4,.int .i64 (lf+1),.int .i64 ad,.bool sv] 37 (0,0)):=by rw [hW3];exact Joins.block_setCell (i:=2) (Joins.block_setCell (i:=1) hg2 _) _
 obtain ⟨v0,v1,v2,v3,v4⟩:=cells5 hg3
 have HSC2:Hid (Calls Tryz.prog 122 #[.pointer (some ⟨b,0,none⟩),.agg #[.string mn,.int .i64 4,.int .i64 (lf+1),.int .i64 ad,.bool sv]] W3 fun e w'=>e=.returned (.int .i64 se)∧Sh (fun k=>k=b) W3 w'∧Hid (se=0→Wk L w' b ln)):=HSC W3 HB3.out
 clear HSC hg3 hg2
 go_upto_region 8 with fail
 rw [← hW3]
 clear hW3 x1 x2 zf zg
 go_wp2_with fail
 refine HSC2.out.mono ?_
 rintro e w5 ⟨rfl,hs5,HK5⟩
 have HS5:Hid (Sh (fun k=>k=b) w w5):=(Sh.of HB3.out).trans hs5
 clear hs5
 go_wp2_with fail
 go_ret
 exact ⟨ret_int HR.out.symm,HS5.out,fun h=>HK5.out (HR.out.symm.trans h)⟩
set_option maxHeartbeats 1600000 in
theorem leaveC_any (L b:Nat) (n:Nd) (w:World) (h:Wk L w b n) (hL:L≤b) (he:n.e=0) :
 Calls Tryz.prog 77 #[.pointer (some ⟨b,0,none⟩)] w fun e w'=>e=.returned (.int .i64 (lvE n))∧Sh (fun k=>k=b) w w'∧Hid (lvE n=0→Wk L w' b (lvN n)):=by
 have hp:=Nd.parts (Nd.e_zero he).1
 obtain ⟨me,hme,_⟩:=Nd.wE_zero (Nd.e_zero he).2
 have HC:Hid (Calls Tryz.prog 78 #[.pointer (some ⟨b,0,none⟩)] w fun e w'=>e=.returned (.int .i64 (lvE n))∧Sh (fun k=>k=b) w w'∧Hid (lvE n=0→Wk L w' b (lvN n))):=wleave_any L b n w h hL hp.ms hp.rs hp.name (by rw [hme];rfl)
 clear h hp hme he
 generalize lvE n=we at *
 generalize lvN n=ln at *
 go_enter Tryz.func77,Tryz.ntmps77
 go_wp2_with fail
 refine HC.out.mono ?_
 rintro e w1 ⟨rfl,hs,hk⟩
 have HS:Hid (Sh (fun k=>k=b) w w1):=hs
 clear hs
 go_wp2_with fail
 go_ret
 exact ⟨rfl,HS.out,hk⟩
set_option maxHeartbeats 25600000 in
set_option maxRecDepth 100000 in
theorem Leave_any (n:Nd)  (vm vr vs vg vw:Value) (w:World) (h:NdIs w n vm vr vs vg vw)  :
 Calls Tryz.prog 28 #[.agg (ndA n vm vr vs vg vw)] w fun e w'=>OpSays n.e (lvE n) (lvN n) w e w':=by
 have HIS:Hid (NdIs w n vm vr vs vg vw):=h
 obtain ⟨W0,hW0⟩:∃ W0,W0=w.heap.size:=⟨_,rfl⟩
 clear hW0 W0
 have HWS:Hid (∀ W0,Below w.heap.size w W0→W0.heap.size=w.heap.size+2→Calls Tryz.prog 54 #[.agg (ndA n vm vr vs vg vw),.func (.func 77) #[] #[]] W0 fun e w'=>WorkSays n.e (lvE n) (lvN n) (fun _=>False) (fun _=>True) W0 e w'):=fun W0 hb hs  =>
  work_any 77 #[] (enters_of Tryz.func77 (by kernel_rfl) rfl) n vm vr vs vg vw W0 (h.below hb) (fun _=>False) (lvE n) (lvN n) (fun _=>True)
   (fun he W b hW hb2 hk=>by
     refine (leaveC_any (W0.heap.size+2) b n W hk (by omega) he).mono ?_
     rintro e w' ⟨rfl,hs,hh⟩
     exact ⟨rfl,hs.mono (fun k hk=>.inl (by omega)),fun h=>⟨hh.out h,trivial⟩⟩
   ) (fun _ _ _ _=>trivial) (fun _ hk=>hk.elim)
 obtain ⟨nm,ct,ms,rs,sv,gw,⟨px,py,pz,ph,pq⟩,wh⟩:=n
 obtain ⟨⟨em,cm,rfl,_,_⟩,⟨er_,cr,rfl,_,_⟩,⟨es,cs_,rfl,_,_⟩,⟨eg_,cg,rfl,_,_⟩,⟨eh,ch,rfl,_,_⟩,_,_⟩:=h
 simp only [ndA] at HWS ⊢
 generalize ms.length=km at *
 generalize rs.length=kr at *
 generalize sv.length=ks at *
 generalize gw.length=kg at *
 generalize wh.length=kh at *
 generalize Nd.e ⟨nm,ct,ms,rs,sv,gw,⟨px,py,pz,ph,pq⟩,wh⟩=ne at *
 generalize lvE ⟨nm,ct,ms,rs,sv,gw,⟨px,py,pz,ph,pq⟩,wh⟩=er at *
 generalize lvN ⟨nm,ct,ms,rs,sv,gw,⟨px,py,pz,ph,pq⟩,wh⟩=n' at *
 obtain ⟨W0,hW0⟩:∃ W0,W0=((w.alloc (.cells #[.string nm,.string ct,.slice em km cm,.slice er_ kr cr,.slice es ks cs_,.slice eg_ kg cg,.int .i64 px,.int .i64 py,.int .i64 pz,.int .i64 ph,.int .i64 pq,.slice eh kh ch] 30)).alloc (.cells #[.string ⟨#[]⟩,.string ⟨#[]⟩,.slice none 0 0,.slice none 0 0,.slice none 0 0,.slice none 0 0,.int .i64 0,.int .i64 0,.int .i64 0,.int .i64 0,.int .i64 0,.slice none 0 0] 30)):=⟨_,rfl⟩
 have hb0:Below w.heap.size w W0:=by rw [hW0];exact ((Below.refl _ _).alloc (Nat.le_refl _) _).alloc (by simp<;>omega) _
 have hs0:W0.heap.size=w.heap.size+2:=by rw [hW0];simp
 have hz0:W0.heap[w.heap.size+1]?=some (.cells #[.string ⟨#[]⟩,.string ⟨#[]⟩,.slice none 0 0,.slice none 0 0,.slice none 0 0,.slice none 0 0,.int .i64 0,.int .i64 0,.int .i64 0,.int .i64 0,.int .i64 0,.slice none 0 0] 30 (0,0)):=by
  have h:=heap_alloc_new (w.alloc (.cells #[.string nm,.string ct,.slice em km cm,.slice er_ kr cr,.slice es ks cs_,.slice eg_ kg cg,.int .i64 px,.int .i64 py,.int .i64 pz,.int .i64 ph,.int .i64 pq,.slice eh kh ch] 30)) (.cells #[.string ⟨#[]⟩,.string ⟨#[]⟩,.slice none 0 0,.slice none 0 0,.slice none 0 0,.slice none 0 0,.int .i64 0,.int .i64 0,.int .i64 0,.int .i64 0,.int .i64 0,.slice none 0 0] 30)
  rw [hW0];simpa using h
 have HWC:=HWS.out W0 hb0 hs0
 have HB0:Hid (Below w.heap.size w W0):=hb0
 have HZ0:Hid (W0.heap[w.heap.size+1]?=some (.cells #[.string ⟨#[]⟩,.string ⟨#[]⟩,.slice none 0 0,.slice none 0 0,.slice none 0 0,.slice none 0 0,.int .i64 0,.int .i64 0,.int .i64 0,.int .i64 0,.int .i64 0,.slice none 0 0] 30 (0,0))):=hz0
 clear hb0 hz0 HWS
 go_enter Tryz.func28,Tryz.ntmps28
 go_wp2_with fail
 rw [← hW0]
 refine HWC.mono ?_
 rintro e w1 ⟨hsh,hor⟩
 have hb1:Below W0.heap.size W0 w1:=hsh.below (Nat.le_refl _) (fun _ hk=>hk.elim)
 have hz1:w1.heap[w.heap.size+1]?=_:=(hb1.block _ (by omega)).trans HZ0.out
 have HB1:Hid (Below w.heap.size w w1):=HB0.out.trans (hb1.mono (by omega))
 have hs1:w.heap.size+1 < w1.heap.size:=(Array.getElem?_eq_some_iff.1 hz1).1
 obtain ⟨q0,q1,q2,q3,q4,q5,q6,q7,q8,q9,q10,q11⟩:=cells12 hz1
 obtain ⟨qz0,qz1,qz2,qz3,qz4,qz5,qz6,qz7,qz8,qz9,qz10,qz11⟩:=frz12 hz1
 clear hsh hb1 hz1 HWC hW0
 rcases hor with ⟨hne,rfl⟩ | ⟨hne,hee,rfl⟩ | ⟨hne,hee,um,ur,us,ug,uw,rfl,hown,hok,_⟩
 ·have HNE:Hid (ne≠0):=hne
  clear hne
  go_wp2_with fail
  refine bodyPost_ret (v:=.tuple #[.agg #[.string ⟨#[]⟩,.string ⟨#[]⟩,.slice none 0 0,.slice none 0 0,.slice none 0 0,.slice none 0 0,.int .i64 0,.int .i64 0,.int .i64 0,.int .i64 0,.int .i64 0,.slice none 0 0],.int .i64 ne]) ?_ rfl ?_
  ·simp [results,Tryz.results28,go_sem,q0,q1,q2,q3,q4,q5,q6,q7,q8,q9,q10,q11]
  ·unfold OpSays
   exact ⟨below_set12 HB1.out (by omega) _ _ _ _ _ _ _ _ _ _ _ _,.inl ⟨HNE.out,rfl⟩⟩
 ·have HNE:Hid (ne=0∧er≠0):=⟨hne,hee⟩
  clear hne hee
  go_wp2_with fail
  refine bodyPost_ret (v:=.tuple #[.agg #[.string ⟨#[]⟩,.string ⟨#[]⟩,.slice none 0 0,.slice none 0 0,.slice none 0 0,.slice none 0 0,.int .i64 0,.int .i64 0,.int .i64 0,.int .i64 0,.int .i64 0,.slice none 0 0],.int .i64 er]) ?_ rfl ?_
  ·simp [results,Tryz.results28,go_sem,q0,q1,q2,q3,q4,q5,q6,q7,q8,q9,q10,q11]
  ·unfold OpSays
   exact ⟨below_set12 HB1.out (by omega) _ _ _ _ _ _ _ _ _ _ _ _,.inr (.inl ⟨HNE.out.1,HNE.out.2,rfl⟩)⟩
 ·have HNE:Hid (ne=0∧er=0):=⟨hne,hee⟩
  have HOWN:Hid (NdOwn W0.heap.size w1 n' um ur us ug uw):=hown
  have HOK2:Hid (NdOk n'):=hok
  obtain ⟨im2,jm2,hvm,_⟩:=own_slice hown.ms
  obtain ⟨ir2,jr2,hvr,_⟩:=own_slice hown.rs
  obtain ⟨is2,js2,hvs,_⟩:=own_slice hown.sv
  obtain ⟨ig2,jg2,hvg,_⟩:=own_slice hown.gw
  obtain ⟨ih2,jh2,hvh,_⟩:=own_slice hown.wh
  subst hvm hvr hvs hvg hvh
  clear hown hok hne hee
  obtain ⟨n2,c2,ms2,rs2,sv2,gw2,⟨qx,qy,qz,qh,qq⟩,wh2⟩:=n'
  go_wp2_with fail
  refine bodyPost_ret (v:=.tuple #[.agg #[.string n2,.string c2,.slice im2 ms2.length jm2,.slice ir2 rs2.length jr2,.slice is2 sv2.length js2,.slice ig2 gw2.length jg2,.int .i64 qx,.int .i64 qy,.int .i64 qz,.int .i64 qh,.int .i64 qq,.slice ih2 wh2.length jh2],.int .i64 0]) ?_ rfl ?_
  ·simp [results,Tryz.results28,go_sem,q0,q1,q2,q3,q4,q5,q6,q7,q8,q9,q10,q11]
  ·unfold OpSays
   exact ⟨below_set12 HB1.out (by omega) _ _ _ _ _ _ _ _ _ _ _ _,.inr (.inr ⟨HNE.out.1,HNE.out.2,_,_,_,_,_,rfl,ndOwn_set12 HOWN.out (by omega) (by omega) _ _ _ _ _ _ _ _ _ _ _ _,HOK2.out⟩)⟩
end Go.Proofs.YtikgjgmgbfjcgaaGreat
