import Derived.Test.YtikgjgmgbfjcgaaGreatY22
import Derived.Test.YtikgjgmgbfjcgaaGreatY23
namespace Go.Proofs.YtikgjgmgbfjcgaaGreat
open Go.RowKit
abbrev ndA (n:Nd) (vm vr vs vg vw:Value):Array Value:=#[.string n.name,.string n.centre,vm,vr,vs,vg,.int .i64 n.p.x,.int .i64 n.p.y,.int .i64 n.p.z,.int .i64 n.p.h,.int .i64 n.p.s,vw]
structure NdIs (w:World) (n:Nd) (vm vr vs vg vw:Value):Prop where
 ms:Sl w vm n.ms
 rs:RSl w vr n.rs
 sv:Sv.Sl w vs n.sv
 gw:Gw.Sl w vg n.gw
 wh:Wh.Sl w vw n.wh
 name:n.name.size≤maxLen
 centre:n.centre.size≤maxLen
theorem NdIs.below {w w':World} {n:Nd} {vm vr vs vg vw:Value} (h:NdIs w n vm vr vs vg vw) (hb:Below w.heap.size w w'):NdIs w' n vm vr vs vg vw:=⟨h.ms.below hb,h.rs.below hb,h.sv.below hb,h.gw.below hb,h.wh.below hb,h.name,h.centre⟩
theorem Sl_nil (w:World):Sl w (.slice none 0 0) []:=⟨none,0,rfl,ns_get (fun m hm=>by simp at hm),.inl rfl⟩
theorem Sv.Sl_nil (w:World):Sv.Sl w (.slice none 0 0) []:=⟨none,0,rfl,Sv.ns_get (fun m hm=>by simp at hm),.inl rfl⟩
theorem Gw.Sl_nil (w:World):Gw.Sl w (.slice none 0 0) []:=⟨none,0,rfl,Gw.ns_get (fun m hm=>by simp at hm),.inl rfl⟩
theorem Wh.Sl_nil (w:World):Wh.Sl w (.slice none 0 0) []:=⟨none,0,rfl,Wh.ns_get (fun m hm=>by simp at hm),.inl rfl⟩
theorem pk_where {nm:ByteArray} {wh:List Wh.Whe} (h:labB nm=true):Pk.e ⟨nm,true,[],[],[],wh⟩=Wh.chk wh:=by
 unfold Pk.e
 rw [if_pos (by simp [h])]
 rfl
theorem roomy_nil:Roomy (.slice none 0 0):=by unfold Roomy;exact Nat.le_refl _
theorem pcheck_where (nm:ByteArray) (wh:List Wh.Whe) (vw:Value) (W:World) (hwh:Wh.Sl W vw wh) (hnm:nm.size≤maxLen) (hl:labB nm=true) :
 Calls Tryz.prog 103 #[.agg #[.string nm,.bool true,.slice none 0 0,.slice none 0 0,.slice none 0 0,vw]] W fun e w'=>e=.returned (.int .i64 (Wh.chk wh))∧Below W.heap.size W w':=by
 have hp:PkIs W ⟨nm,true,[],[],[],wh⟩ (.slice none 0 0) (.slice none 0 0) (.slice none 0 0) vw:=⟨Sl_nil W,Sv.Sl_nil W,Gw.Sl_nil W,hwh,hnm,roomy_nil⟩
 rw [← pk_where hl]
 exact pcheck_any ⟨nm,true,[],[],[],wh⟩ (.slice none 0 0) (.slice none 0 0) (.slice none 0 0) vw W hp (.inl rfl)
theorem cell_topW {W:World} {cs:Array Value} {t:TypeId} {g k:Nat} (hg:g=W.heap.size):((W.alloc (.cells cs t)).drew).cell? ⟨g,k,none⟩=cs[k]?:=by subst hg;exact cellsAt (heap_alloc_new W _) k
theorem lab2_any (a b:ByteArray) (ha:a.size≤maxLen) (hb:b.size≤maxLen) (g c:Nat) (W:World) (h0:W.cell? ⟨g,0,none⟩=some (.string a)) (h1:W.cell? ⟨g,1,none⟩=some (.string b)) :
 Calls Tryz.prog 41 #[.slice (some ⟨g,0,none⟩) 2 c] W fun e w'=>e=.returned (.bool (labB a && labB b))∧w'=W:=by
 have h:=labels_any [a,b] g c W (fun j hj=>by
  have:j=0∨j=1:=by simp at hj;omega
  rcases this with rfl | rfl
  ·exact h0
  ·exact h1) (fun j=>by
  match j with
  | 0=>exact ha
  | 1=>exact hb
  | _+2=>simp [List.getD]) (by simp)
 rw [show [a,b].all labB=(labB a && labB b) by simp] at h
 exact h
set_option maxHeartbeats 12800000 in
set_option maxRecDepth 100000 in
theorem checkParts_any (n:Nd) (b:Nat) (vm vr vs vg vw:Value) (w:World) (h:NdIs w n vm vr vs vg vw) (hg:w.heap[b]?=some (.cells (ndA n vm vr vs vg vw) 72 (0,0))) :
 Calls Tryz.prog 44 #[.pointer (some ⟨b,0,none⟩)] w fun e w'=>e=.returned (.int .i64 n.pE)∧Below w.heap.size w w':=by
 obtain ⟨nm,ct,ms,rs,sv,gw,⟨px,py,pz,ph,pq⟩,wh⟩:=n
 obtain ⟨hms,hrs,hsv,hgw,hwh,hnm,hct⟩:=h
 simp only at hms hrs hsv hgw hwh hnm hct hg
 have hb:b < w.heap.size:=(Array.getElem?_eq_some_iff.1 hg).1
 have HM:Hid (∀ W,Below w.heap.size w W→Calls Tryz.prog 98 #[vm] W fun e w'=>e=.returned (.int .i64 (chk ms))∧Below W.heap.size W w'):=fun W hW=>check_any ms vm W (hms.below hW)
 have HRC:Hid (∀ W,Below w.heap.size w W→Calls Tryz.prog 99 #[vr] W fun e w'=>e=.returned (.int .i64 (chkR rs))∧Below W.heap.size W w'):=fun W hW=>checkR_any rs vr W (hrs.below hW)
 have HS:Hid (∀ W,Below w.heap.size w W→Calls Tryz.prog 100 #[vs] W fun e w'=>e=.returned (.int .i64 (Sv.chk sv))∧Below W.heap.size W w'):=fun W hW=>Sv.check_any sv vs W (hsv.below hW)
 have HG:Hid (∀ W,Below w.heap.size w W→Calls Tryz.prog 101 #[vg] W fun e w'=>e=.returned (.int .i64 (Gw.chk gw))∧Below W.heap.size W w'):=fun W hW=>Gw.check_any gw vg W (hgw.below hW)
 have HP:Hid (∀ W,Below w.heap.size w W→Calls Tryz.prog 102 #[.agg #[.int .i64 px,.int .i64 py,.int .i64 pz,.int .i64 ph,.int .i64 pq]] W fun e w'=>e=.returned (.int .i64 (chkP ⟨px,py,pz,ph,pq⟩))∧Below W.heap.size W w'):=fun W _=>checkP_any ⟨px,py,pz,ph,pq⟩ W
 have HX:Hid (∀ W,Below w.heap.size w W→W.cell? ⟨b,0,none⟩=some (.string nm)∧W.cell? ⟨b,1,none⟩=some (.string ct)∧W.cell? ⟨b,2,none⟩=some vm∧W.cell? ⟨b,3,none⟩=some vr∧W.cell? ⟨b,4,none⟩=some vs∧W.cell? ⟨b,5,none⟩=some vg∧W.cell? ⟨b,6,none⟩=some (.int .i64 px)∧W.cell? ⟨b,7,none⟩=some (.int .i64 py)∧W.cell? ⟨b,8,none⟩=some (.int .i64 pz)∧W.cell? ⟨b,9,none⟩=some (.int .i64 ph)∧W.cell? ⟨b,10,none⟩=some (.int .i64 pq)∧W.cell? ⟨b,11,none⟩=some vw):=fun W hW=>
  have hg':=(hW.block _ hb).trans hg
  ⟨cellsAt hg' 0,cellsAt hg' 1,cellsAt hg' 2,cellsAt hg' 3,cellsAt hg' 4,cellsAt hg' 5,cellsAt hg' 6,cellsAt hg' 7,cellsAt hg' 8,cellsAt hg' 9,cellsAt hg' 10,cellsAt hg' 11⟩
 have HE:Nd.pE ⟨nm,ct,ms,rs,sv,gw,⟨px,py,pz,ph,pq⟩,wh⟩=if (labB nm && labB ct)=true then
  (if chk ms=0 then (if chkR rs=0 then (if Sv.chk sv=0 then (if Gw.chk gw=0 then (if chkP ⟨px,py,pz,ph,pq⟩=0 then Wh.chk wh else chkP ⟨px,py,pz,ph,pq⟩) else Gw.chk gw) else Sv.chk sv) else chkR rs) else chk ms) else 1:=by unfold Nd.pE;with_reducible rfl
 have HL:Hid (∀ (W:World) (g:Nat),W.cell? ⟨g,0,none⟩=some (.string nm)→W.cell? ⟨g,1,none⟩=some (.string ct)→Calls Tryz.prog 41 #[.slice (some ⟨g,0,none⟩) 2 2] W fun e w'=>e=.returned (.bool (labB nm && labB ct))∧w'=W):=fun W g h0 h1=>lab2_any nm ct hnm hct g 2 W h0 h1
 have HW:Hid (labB nm=true→∀ W,Below w.heap.size w W→Calls Tryz.prog 103 #[.agg #[.string nm,.bool true,.slice none 0 0,.slice none 0 0,.slice none 0 0,vw]] W fun e w'=>e=.returned (.int .i64 (Wh.chk wh))∧Below W.heap.size W w'):=fun hl W hW=>pcheck_where nm wh vw W (hwh.below hW) hnm hl
 have HLN:Hid ((labB nm && labB ct)=true→labB nm=true):=fun h=>by rw [Bool.and_eq_true] at h;exact h.1
 generalize (labB nm && labB ct)=lb at *
 generalize Nd.pE ⟨nm,ct,ms,rs,sv,gw,⟨px,py,pz,ph,pq⟩,wh⟩=res at *
 generalize chk ms=m1 at *
 generalize chkR rs=r1 at *
 generalize Sv.chk sv=s1 at *
 generalize Gw.chk gw=g1 at *
 generalize chkP ⟨px,py,pz,ph,pq⟩=p1 at *
 generalize Wh.chk wh=wz at *
 obtain ⟨a5,c5,rfl,_,_⟩:=hwh
 generalize wh.length=n5 at *
 clear hms hrs hsv hgw
 obtain ⟨y0,y1,y2,y3,y4,y5,y6,y7,y8,y9,y10,y11⟩:=HX.out w (Below.refl _ _)
 clear hg
 go_enter Tryz.func44,Tryz.ntmps44
 go_wp2_with fail
 go_region_held3 (fun w'=>w'.cell? ⟨b,0,none⟩=some (.string nm)∧w'.cell? ⟨b,1,none⟩=some (.string ct)) (go_keep) (first | (go_at_call 41;refine (HL.out _ _ (cell_topW rfl) (cell_topW rfl)).mono ?_;rintro e w' ⟨rfl,rfl⟩))
 obtain ⟨W0,hW0⟩:∃ W0,W0=(w.alloc (.cells #[.string nm,.string ct] 9)).drew:=⟨_,rfl⟩
 have HB0:Hid (Below w.heap.size w W0):=by rw [hW0];exact ((Below.refl _ _).alloc (Nat.le_refl _) _).drew
 rw [← hW0]
 clear hW0 HL y0 y1 y2 y3 y4 y5 y6 y7 y8 y9 y10 y11
 obtain ⟨y0,y1,y2,y3,y4,y5,y6,y7,y8,y9,y10,y11⟩:=HX.out W0 HB0.out
 cases lb
 ·rw [if_neg (by simp)] at HE
  have HR:Hid (res=1):=HE
  clear HE
  go_wp2_with fail
  go_ret
  exact ⟨ret_int HR.out.symm,HB0.out⟩
 rw [if_pos rfl] at HE
 have HW:Hid (∀ W,Below w.heap.size w W→Calls Tryz.prog 103 #[.agg #[.string nm,.bool true,.slice none 0 0,.slice none 0 0,.slice none 0 0,.slice a5 n5 c5]] W fun e w'=>e=.returned (.int .i64 wz)∧Below W.heap.size W w'):=HW.out (HLN.out rfl)
 go_wp2_with fail
 refine (HM.out _ HB0.out).mono ?_
 rintro e w1 ⟨rfl,hb1⟩
 have HB1:Hid (Below w.heap.size w w1):=HB0.out.trans (hb1.mono HB0.out.size)
 clear hb1 y0 y1 y2 y3 y4 y5 y6 y7 y8 y9 y10 y11
 obtain ⟨y0,y1,y2,y3,y4,y5,y6,y7,y8,y9,y10,y11⟩:=HX.out w1 HB1.out
 by_cases hm1:m1=0
 ·rw [if_pos hm1] at HE
  subst hm1
  go_wp2_with fail
  refine (HRC.out _ HB1.out).mono ?_
  rintro e w2 ⟨rfl,hb2⟩
  have HB2:Hid (Below w.heap.size w w2):=HB1.out.trans (hb2.mono HB1.out.size)
  clear hb2 y0 y1 y2 y3 y4 y5 y6 y7 y8 y9 y10 y11
  obtain ⟨y0,y1,y2,y3,y4,y5,y6,y7,y8,y9,y10,y11⟩:=HX.out w2 HB2.out
  by_cases hr1:r1=0
  ·rw [if_pos hr1] at HE
   subst hr1
   go_wp2_with fail
   refine (HS.out _ HB2.out).mono ?_
   rintro e w3 ⟨rfl,hb3⟩
   have HB3:Hid (Below w.heap.size w w3):=HB2.out.trans (hb3.mono HB2.out.size)
   clear hb3 y0 y1 y2 y3 y4 y5 y6 y7 y8 y9 y10 y11
   obtain ⟨y0,y1,y2,y3,y4,y5,y6,y7,y8,y9,y10,y11⟩:=HX.out w3 HB3.out
   by_cases hs1:s1=0
   ·rw [if_pos hs1] at HE
    subst hs1
    go_wp2_with fail
    refine (HG.out _ HB3.out).mono ?_
    rintro e w4 ⟨rfl,hb4⟩
    have HB4:Hid (Below w.heap.size w w4):=HB3.out.trans (hb4.mono HB3.out.size)
    clear hb4 y0 y1 y2 y3 y4 y5 y6 y7 y8 y9 y10 y11
    obtain ⟨y0,y1,y2,y3,y4,y5,y6,y7,y8,y9,y10,y11⟩:=HX.out w4 HB4.out
    by_cases hg1:g1=0
    ·rw [if_pos hg1] at HE
     subst hg1
     go_wp2_with fail
     refine (HP.out _ HB4.out).mono ?_
     rintro e w5 ⟨rfl,hb5⟩
     have HB5:Hid (Below w.heap.size w w5):=HB4.out.trans (hb5.mono HB4.out.size)
     clear hb5 y0 y1 y2 y3 y4 y5 y6 y7 y8 y9 y10 y11
     obtain ⟨y0,y1,y2,y3,y4,y5,y6,y7,y8,y9,y10,y11⟩:=HX.out w5 HB5.out
     by_cases hp1:p1=0
     ·rw [if_pos hp1] at HE
      subst hp1
      go_wp2_with fail
      go_region_held3 (fun w'=>w'.cell? ⟨b,0,none⟩=some (.string nm)∧w'.cell? ⟨b,11,none⟩=some (.slice a5 n5 c5)) (first | assumption | go_keep) (first | (go_at_call 103;refine (HW.out _ HB5.out.drew).mono ?_;rintro e w9 ⟨rfl,hb9⟩;have HB9:Hid (Below w.heap.size w w9):=HB5.out.drew.trans (hb9.mono HB5.out.size);have hS:w9.cell? ⟨b,0,none⟩=some (.string nm)∧w9.cell? ⟨b,11,none⟩=some (.slice a5 n5 c5):=⟨(HX.out w9 HB9.out).1,(HX.out w9 HB9.out).2.2.2.2.2.2.2.2.2.2.2⟩))
      go_wp2_with fail
      go_ret
      exact ⟨ret_int HE.symm,HB9.out⟩
     ·have hp1':(p1 != 0)=true:=by simpa using hp1
      rw [if_neg hp1] at HE
      have HR:Hid (res=p1):=HE
      clear hp1 HE
      go_wp2_with fail
      go_ret
      exact ⟨ret_int HR.out.symm,HB5.out⟩
    ·have hg1':(g1 != 0)=true:=by simpa using hg1
     rw [if_neg hg1] at HE
     have HR:Hid (res=g1):=HE
     clear hg1 HE
     go_wp2_with fail
     go_ret
     exact ⟨ret_int HR.out.symm,HB4.out⟩
   ·have hs1':(s1 != 0)=true:=by simpa using hs1
    rw [if_neg hs1] at HE
    have HR:Hid (res=s1):=HE
    clear hs1 HE
    go_wp2_with fail
    go_ret
    exact ⟨ret_int HR.out.symm,HB3.out⟩
  ·have hr1':(r1 != 0)=true:=by simpa using hr1
   rw [if_neg hr1] at HE
   have HR:Hid (res=r1):=HE
   clear hr1 HE
   go_wp2_with fail
   go_ret
   exact ⟨ret_int HR.out.symm,HB2.out⟩
 ·have hm1':(m1 != 0)=true:=by simpa using hm1
  rw [if_neg hm1] at HE
  have HR:Hid (res=m1):=HE
  clear hm1 HE
  go_wp2_with fail
  go_ret
  exact ⟨ret_int HR.out.symm,HB1.out⟩
theorem newE0n {a b:Mem} (ha:a.e=0) (hb:b.e=0) (hn:a.name=b.name):newE a b=0:=by
 unfold newE
 have h:chkTwo [a] [b]=0:=by
  unfold chkTwo
  rw [chk_oneR,chk_oneR,if_pos ha,hb]
 rw [if_pos h,if_pos hn]
theorem chk_e0 {ms:List Mem} (h:chk ms=0):∀ m∈ms,m.e=0:=by
 obtain ⟨_,_,h3⟩:=chk_zero h
 exact firstE_mem ms h3
theorem chkR_e0 {rs:List Rum} (h:chkR rs=0):rs.length≤20∧(∀ r∈rs,r.m.e=0)∧AllTold rs∧Distinct rs:=by
 unfold chkR at h
 split at h
 ·cases h
 ·rename_i hn
  split at h
  ·rename_i h1
   split at h
   ·rename_i h2
    split at h
    ·rename_i h3
     refine ⟨by omega,fun r hr=>?_,h2,h3⟩
     exact firstE_mem _ h1 r.m (List.mem_map.2 ⟨r,hr,rfl⟩)
    ·cases h
   ·cases h
  ·rename_i h1;exact absurd h h1
theorem aheadP_eq {ms:List Mem} {r:Rum} (h:chk ms=0) (hr:r.m.e=0):aheadP ms r=aheadB ms r:=by
 unfold aheadP aheadB
 rcases hf:fstM ms r.m.name with _ | k
 ·rfl
 ·have hk:=fstM_mem hf
  simp only
  rw [newE0n hr (chk_e0 h k hk.1) hk.2.symm]
  simp
theorem any_ahead {ms:List Mem} {rs:List Rum} (h:chk ms=0) (hr:chkR rs=0):rs.any (aheadP ms)=rs.any (aheadB ms):=by
 have h2:=(chkR_e0 hr).2.1
 clear hr
 induction rs with
 | nil=>rfl
 | cons r l ih=>
   rw [List.any_cons,List.any_cons,aheadP_eq h (h2 r (by simp)),ih (fun x hx=>h2 x (by simp [hx]))]
set_option maxHeartbeats 6400000 in
set_option maxRecDepth 100000 in
theorem checkWhole_any (n:Nd) (b:Nat) (vm vr vs vg vw:Value) (w:World) (h:NdIs w n vm vr vs vg vw) (hg:w.heap[b]?=some (.cells (ndA n vm vr vs vg vw) 72 (0,0))) (hp:n.pE=0) :
 Calls Tryz.prog 45 #[.pointer (some ⟨b,0,none⟩)] w fun e w'=>e=.returned (.int .i64 n.wE)∧Below w.heap.size w w':=by
 have HPT:Hid n.Parts:=Nd.parts hp
 have hb:b < w.heap.size:=(Array.getElem?_eq_some_iff.1 hg).1
 have hml:n.ms.length≤20:=(chk_zero HPT.out.ms).1
 have hrl:n.rs.length≤20:=(chkR_e0 HPT.out.rs).1
 have HWE:Hid (n.wE=match fstM n.ms n.name with
  | none=>5
  | some m=>if m.state=2∨m.state=3 then 4 else if n.rs.any (aheadP n.ms)=true then 4 else 0):=by
  show n.wE=_
  rw [any_ahead HPT.out.ms HPT.out.rs];rfl
 obtain ⟨nm,ct,ms,rs,sv,gw,⟨px,py,pz,ph,pq⟩,wh⟩:=n
 obtain ⟨hms,hrs,_,_,_,_,_⟩:=h
 simp only at hms hrs hg hml hrl HWE
 generalize Nd.wE ⟨nm,ct,ms,rs,sv,gw,⟨px,py,pz,ph,pq⟩,wh⟩=res at *
 obtain ⟨am,cm,rfl,hms1,hms2⟩:=hms
 have hms:Sl w (.slice am ms.length cm) ms:=⟨am,cm,rfl,hms1,hms2⟩
 clear hms1 hms2
 have HX:Hid (∀ W,Below w.heap.size w W→W.cell? ⟨b,0,none⟩=some (.string nm)∧W.cell? ⟨b,2,none⟩=some (.slice am ms.length cm)∧W.cell? ⟨b,3,none⟩=some vr):=fun W hW=>
  have hg':=(hW.block _ hb).trans hg
  ⟨cellsAt hg' 0,cellsAt hg' 2,cellsAt hg' 3⟩
 have HMB:Hid (∀ (W:World) (t:ByteArray),Below w.heap.size w W→Calls Tryz.prog 104 #[.pointer (some ⟨b,0,none⟩),.string t] W fun e w'=>e=.returned (.tuple #[.agg #[.string (mOf ms t).name,.int .i64 (mOf ms t).state,.int .i64 (mOf ms t).life,.int .i64 (mOf ms t).addr,.bool (mOf ms t).server],.bool (fstM ms t).isSome])∧Below W.heap.size W w'):=fun W t hW=>
  wmember_any b am ms.length cm ms t W (HX.out W hW).2.1 (hms.below hW) (by omega)
 have HCF:Hid (∀ W,Below w.heap.size w W→Calls Tryz.prog 105 #[vr,.func (.func 106) #[.pointer (some ⟨b,0,none⟩)] #[]] W fun e w'=>e=.returned (.bool (rs.any (aheadP ms)))∧Below W.heap.size W w'):=fun W hW=>
  contains_any b am ms.length cm ms rs vr W (hrs.below hW) (HX.out W hW).2.1 (hms.below hW) (by omega) (by omega)
 clear hms hrs
 generalize rs.any (aheadP ms)=ab at *
 obtain ⟨y0,y2,y3⟩:=HX.out w (Below.refl _ _)
 clear hg
 go_enter Tryz.func45,Tryz.ntmps45
 go_wp2_with fail
 refine (HMB.out _ nm (Below.refl _ _)).mono ?_
 rintro e w1 ⟨rfl,hb1⟩
 have HB1:Hid (Below w.heap.size w w1):=hb1
 clear hb1 y0 y2 y3
 rcases hf:fstM ms nm with _ | m
 ·have HR:Hid (res=5):=HWE.out.trans (by rw [hf])
  have hmo:mOf ms nm=dm:=mOf_none hf
  rw [hmo]
  clear hf hmo
  go_wp2_with fail
  go_ret
  exact ⟨ret_int HR.out.symm,HB1.out.alloc HB1.out.size _⟩
 ·have HR:Hid (res=if m.state=2∨m.state=3 then 4 else if ab=true then 4 else 0):=HWE.out.trans (by rw [hf])
  have hmo:mOf ms nm=m:=mOf_some hf
  rw [hmo]
  clear hf hmo
  obtain ⟨mn,st,lf,ad,sv2⟩:=m
  simp only at HR
  by_cases h2:st=2
  ·subst h2
   have HR2:Hid (res=4):=HR.out.trans (by simp)
   go_wp2_with fail
   go_ret
   exact ⟨ret_int HR2.out.symm,HB1.out.alloc HB1.out.size _⟩
  ·by_cases h3:st=3
   ·subst h3
    have HR2:Hid (res=4):=HR.out.trans (by simp)
    go_wp2_with fail
    go_ret
    exact ⟨ret_int HR2.out.symm,HB1.out.alloc HB1.out.size _⟩
   ·have HR2:Hid (res=if ab=true then 4 else 0):=HR.out.trans (if_neg (by omega))
    have h2':(st == 2)=false:=by simpa using h2
    have h3':(st == 3)=false:=by simpa using h3
    clear h2 h3 HR
    obtain ⟨W2,hW2⟩:∃ W2,W2=w1.alloc (.cells #[.string mn,.int .i64 st,.int .i64 lf,.int .i64 ad,.bool sv2] 37):=⟨_,rfl⟩
    have HB2:Hid (Below w.heap.size w W2):=by rw [hW2];exact HB1.out.alloc HB1.out.size _
    obtain ⟨y0,y2,y3⟩:=HX.out W2 HB2.out
    rw [hW2] at y0 y2 y3
    go_wp2_with fail
    rw [← hW2]
    refine (HCF.out _ HB2.out).mono ?_
    rintro e w3 ⟨rfl,hb3⟩
    have HB3:Hid (Below w.heap.size w w3):=HB2.out.trans (hb3.mono HB2.out.size)
    clear hb3 y0 y2 y3 hW2
    cases ab
    ·go_wp2_with fail
     go_ret
     exact ⟨ret_int HR2.out.symm,HB3.out⟩
    ·go_wp2_with fail
     go_ret
     exact ⟨ret_int HR2.out.symm,HB3.out⟩
set_option maxHeartbeats 6400000 in
set_option maxRecDepth 100000 in
theorem ncheck_any (n:Nd) (vm vr vs vg vw:Value) (w:World) (h:NdIs w n vm vr vs vg vw) :
 Calls Tryz.prog 17 #[.agg (ndA n vm vr vs vg vw)] w fun e w'=>e=.returned (.int .i64 n.e)∧Below w.heap.size w w':=by
 have HI:Hid (NdIs w n vm vr vs vg vw):=h
 have HE:Hid (n.e=if n.pE=0 then n.wE else n.pE):=rfl
 obtain ⟨W,hW⟩:∃ W,W=(w.alloc (.cells (ndA n vm vr vs vg vw) 30)).alloc (.cells (ndA n vm vr vs vg vw) 72):=⟨_,rfl⟩
 have hbW:Below w.heap.size w W:=by rw [hW];exact ((Below.refl _ _).alloc (Nat.le_refl _) _).alloc (by simp) _
 have hg:W.heap[w.heap.size+1]?=some (.cells (ndA n vm vr vs vg vw) 72 (0,0)):=by
  have h:=heap_alloc_new (w.alloc (.cells (ndA n vm vr vs vg vw) 30)) (.cells (ndA n vm vr vs vg vw) 72)
  rw [hW];simpa using h
 have hsW:W.heap.size=w.heap.size+2:=by rw [hW];simp
 have HBW:Hid (Below w.heap.size w W):=hbW
 have HC:Hid (Calls Tryz.prog 44 #[.pointer (some ⟨w.heap.size+1,0,none⟩)] W fun e w'=>e=.returned (.int .i64 n.pE)∧Below W.heap.size W w'):=checkParts_any n (w.heap.size+1) vm vr vs vg vw W (h.below hbW) hg
 have HD:Hid (n.pE=0→∀ W1,Below W.heap.size W W1→Calls Tryz.prog 45 #[.pointer (some ⟨w.heap.size+1,0,none⟩)] W1 fun e w'=>e=.returned (.int .i64 n.wE)∧Below W1.heap.size W1 w'):=fun hp W1 h1=>
  checkWhole_any n (w.heap.size+1) vm vr vs vg vw W1 ((h.below hbW).below h1) ((h1.block _ (by omega)).trans hg) hp
 obtain ⟨nm,ct,ms,rs,sv,gw,⟨px,py,pz,ph,pq⟩,wh⟩:=n
 obtain ⟨⟨am,cm,rfl,_,_⟩,⟨ar,cr,rfl,_,_⟩,⟨aq,cq,rfl,_,_⟩,⟨ag,cg,rfl,_,_⟩,⟨aw,cw,rfl,_,_⟩,_,_⟩:=h
 generalize Nd.e ⟨nm,ct,ms,rs,sv,gw,⟨px,py,pz,ph,pq⟩,wh⟩=res at *
 generalize Nd.pE ⟨nm,ct,ms,rs,sv,gw,⟨px,py,pz,ph,pq⟩,wh⟩=pe at *
 generalize Nd.wE ⟨nm,ct,ms,rs,sv,gw,⟨px,py,pz,ph,pq⟩,wh⟩=we at *
 simp only [ndA] at hW ⊢
 clear hg hbW
 generalize ms.length=nms at *
 generalize rs.length=nrs at *
 generalize sv.length=nsv at *
 generalize gw.length=ngw at *
 generalize wh.length=nwh at *
 go_enter Tryz.func17,Tryz.ntmps17
 go_wp2_with fail
 rw [← hW]
 refine HC.out.mono ?_
 rintro e w1 ⟨rfl,hb1⟩
 have HB1:Hid (Below W.heap.size W w1):=hb1
 have HBW1:Hid (Below w.heap.size w w1):=HBW.out.trans (hb1.mono (by omega))
 clear hb1
 by_cases hp:pe=0
 ·have HD2:=HD.out hp w1 HB1.out
  have HR:Hid (res=we):=HE.out.trans (if_pos hp)
  subst hp
  clear HD HE
  go_wp2_with fail
  refine HD2.mono ?_
  rintro e w2 ⟨rfl,hb2⟩
  have HBW2:Hid (Below w.heap.size w w2):=HBW1.out.trans (hb2.mono HBW1.out.size)
  clear hb2
  go_wp2_with fail
  go_ret
  exact ⟨ret_int HR.out.symm,HBW2.out⟩
 ·have hp':(pe != 0)=true:=by simpa using hp
  have HR:Hid (res=pe):=HE.out.trans (if_neg hp)
  clear hp HD HE
  go_wp2_with fail
  go_ret
  exact ⟨ret_int HR.out.symm,HBW1.out⟩
end Go.Proofs.YtikgjgmgbfjcgaaGreat
