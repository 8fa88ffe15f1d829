import Derived.Test.YtffdoiokmiklgaaGreatDoortr8
import Derived.Laws.StructEq
import Derived.Deep.Slices
import Derived.Lib.SmallJoins
import Derived.ProofKit
import Derived.Test.YtffdoiokmiklgaaGreatDoortr13
import Derived.Test.YtffdoiokmiklgaaGreatDoortr14
namespace Go.Proofs.YtffdoiokmiklgaaGreatDoor
namespace Gw
open Go.RowKit
section
open Go.ChangeShapes Go.WideShapes Go.ChangeAt
variable {H:Type} {enc:TypeId × Value→H} {w:World} {base:Nat} {spare:Nat→Bool} {held:Bool}
end
end Gw
namespace Gw
open Go.RowKit
end Gw
namespace Gw
open Go.RowKit
end Gw
end Go.Proofs.YtffdoiokmiklgaaGreatDoor
namespace Go.Proofs.YtffdoiokmiklgaaGreatDoor
open Go.RowKit
abbrev ndA (n:Nd) (vm vr vs vg vw:Value):Array Value:=#[.string n.name,.string n.centre,vm,vr,vs,vg,.int .i64 n.p.x,.int .i64 n.p.y,.int .i64 n.p.z,.int .i64 n.p.h,.int .i64 n.p.s,vw]
structure NdIs (w:World) (n:Nd) (vm vr vs vg vw:Value):Prop where
 ms:Sl w vm n.ms
 rs:RSl w vr n.rs
 sv:Sv.Sl w vs n.sv
 gw:Gw.Sl w vg n.gw
 wh:Wh.Sl w vw n.wh
 name:n.name.size≤maxLen
 centre:n.centre.size≤maxLen
theorem NdIs.below {w w':World} {n:Nd} {vm vr vs vg vw:Value} (h:NdIs w n vm vr vs vg vw) (hb:Below w.heap.size w w'):NdIs w' n vm vr vs vg vw:=⟨h.ms.below hb,h.rs.below hb,h.sv.below hb,h.gw.below hb,h.wh.below hb,h.name,h.centre⟩
theorem Sl_nil (w:World):Sl w (.slice none 0 0) []:=⟨none,0,rfl,ns_get (fun m hm=>by simp at hm),.inl rfl⟩
theorem Sv.Sl_nil (w:World):Sv.Sl w (.slice none 0 0) []:=⟨none,0,rfl,Sv.ns_get (fun m hm=>by simp at hm),.inl rfl⟩
theorem Gw.Sl_nil (w:World):Gw.Sl w (.slice none 0 0) []:=⟨none,0,rfl,Gw.ns_get (fun m hm=>by simp at hm),.inl rfl⟩
theorem pk_where {nm:ByteArray} {wh:List Wh.Whe} (h:labB nm=true):Pk.e ⟨nm,true,[],[],[],wh⟩=Wh.chk wh:=by
 unfold Pk.e
 rw [if_pos (by simp [h])]
 rfl
theorem roomy_nil:Roomy (.slice none 0 0):=by unfold Roomy;exact Nat.le_refl _
theorem pcheck_where (nm:ByteArray) (wh:List Wh.Whe) (vw:Value) (W:World) (hwh:Wh.Sl W vw wh) (hnm:nm.size≤maxLen) (hl:labB nm=true) :
 Calls Tryz.prog 88 #[.agg #[.string nm,.bool true,.slice none 0 0,.slice none 0 0,.slice none 0 0,vw]] W fun e w'=>e=.returned (.int .i64 (Wh.chk wh))∧Below W.heap.size W w':=by
 have hp:PkIs W ⟨nm,true,[],[],[],wh⟩ (.slice none 0 0) (.slice none 0 0) (.slice none 0 0) vw:=⟨Sl_nil W,Sv.Sl_nil W,Gw.Sl_nil W,hwh,hnm,roomy_nil⟩
 rw [← pk_where hl]
 exact pcheck_any ⟨nm,true,[],[],[],wh⟩ (.slice none 0 0) (.slice none 0 0) (.slice none 0 0) vw W hp (.inl rfl)
theorem cell_topW {W:World} {cs:Array Value} {t:TypeId} {g k:Nat} (hg:g=W.heap.size):((W.alloc (.cells cs t)).drew).cell? ⟨g,k,none⟩=cs[k]?:=by subst hg;exact cellsAt (heap_alloc_new W _) k
theorem lab2_any (a b:ByteArray) (ha:a.size≤maxLen) (hb:b.size≤maxLen) (g c:Nat) (W:World) (h0:W.cell? ⟨g,0,none⟩=some (.string a)) (h1:W.cell? ⟨g,1,none⟩=some (.string b)) :
 Calls Tryz.prog 38 #[.slice (some ⟨g,0,none⟩) 2 c] W fun e w'=>e=.returned (.bool (labB a && labB b))∧w'=W:=by
 have h:=labels_any [a,b] g c W (fun j hj=>by
  have:j=0∨j=1:=by simp at hj;omega
  rcases this with rfl | rfl
  ·exact h0
  ·exact h1) (fun j=>by
  match j with
  | 0=>exact ha
  | 1=>exact hb
  | _+2=>simp [List.getD]) (by simp)
 rw [show [a,b].all labB=(labB a && labB b) by simp] at h
 exact h
set_option maxHeartbeats 12800000 in
set_option maxRecDepth 100000 in
theorem checkParts_any (n:Nd) (b:Nat) (vm vr vs vg vw:Value) (w:World) (h:NdIs w n vm vr vs vg vw) (hg:w.heap[b]?=some (.cells (ndA n vm vr vs vg vw) 133 (0,0))) :
 Calls Tryz.prog 86 #[.pointer (some ⟨b,0,none⟩)] w fun e w'=>e=.returned (.int .i64 n.pE)∧Below w.heap.size w w':=by
 obtain ⟨nm,ct,ms,rs,sv,gw,⟨px,py,pz,ph,pq⟩,wh⟩:=n
 obtain ⟨hms,hrs,hsv,hgw,hwh,hnm,hct⟩:=h
 simp only at hms hrs hsv hgw hwh hnm hct hg
 have hb:b < w.heap.size:=(Array.getElem?_eq_some_iff.1 hg).1
 have HM:Hid (∀ W,Below w.heap.size w W→Calls Tryz.prog 125 #[vm] W fun e w'=>e=.returned (.int .i64 (chk ms))∧Below W.heap.size W w'):=fun W hW=>check_any ms vm W (hms.below hW)
 have HRC:Hid (∀ W,Below w.heap.size w W→Calls Tryz.prog 126 #[vr] W fun e w'=>e=.returned (.int .i64 (chkR rs))∧Below W.heap.size W w'):=fun W hW=>checkR_any rs vr W (hrs.below hW)
 have HS:Hid (∀ W,Below w.heap.size w W→Calls Tryz.prog 127 #[vs] W fun e w'=>e=.returned (.int .i64 (Sv.chk sv))∧Below W.heap.size W w'):=fun W hW=>Sv.check_any sv vs W (hsv.below hW)
 have HG:Hid (∀ W,Below w.heap.size w W→Calls Tryz.prog 128 #[vg] W fun e w'=>e=.returned (.int .i64 (Gw.chk gw))∧Below W.heap.size W w'):=fun W hW=>Gw.check_any gw vg W (hgw.below hW)
 have HP:Hid (∀ W,Below w.heap.size w W→Calls Tryz.prog 129 #[.agg #[.int .i64 px,.int .i64 py,.int .i64 pz,.int .i64 ph,.int .i64 pq]] W fun e w'=>e=.returned (.int .i64 (chkP ⟨px,py,pz,ph,pq⟩))∧Below W.heap.size W w'):=fun W _=>checkP_any ⟨px,py,pz,ph,pq⟩ W
 have HX:Hid (∀ W,Below w.heap.size w W→W.cell? ⟨b,0,none⟩=some (.string nm)∧W.cell? ⟨b,1,none⟩=some (.string ct)∧W.cell? ⟨b,2,none⟩=some vm∧W.cell? ⟨b,3,none⟩=some vr∧W.cell? ⟨b,4,none⟩=some vs∧W.cell? ⟨b,5,none⟩=some vg∧W.cell? ⟨b,6,none⟩=some (.int .i64 px)∧W.cell? ⟨b,7,none⟩=some (.int .i64 py)∧W.cell? ⟨b,8,none⟩=some (.int .i64 pz)∧W.cell? ⟨b,9,none⟩=some (.int .i64 ph)∧W.cell? ⟨b,10,none⟩=some (.int .i64 pq)∧W.cell? ⟨b,11,none⟩=some vw):=fun W hW=>
  have hg':=(hW.block _ hb).trans hg
  ⟨cellsAt hg' 0,cellsAt hg' 1,cellsAt hg' 2,cellsAt hg' 3,cellsAt hg' 4,cellsAt hg' 5,cellsAt hg' 6,cellsAt hg' 7,cellsAt hg' 8,cellsAt hg' 9,cellsAt hg' 10,cellsAt hg' 11⟩
 have HE:Nd.pE ⟨nm,ct,ms,rs,sv,gw,⟨px,py,pz,ph,pq⟩,wh⟩=if (labB nm && labB ct)=true then
  (if chk ms=0 then (if chkR rs=0 then (if Sv.chk sv=0 then (if Gw.chk gw=0 then (if chkP ⟨px,py,pz,ph,pq⟩=0 then Wh.chk wh else chkP ⟨px,py,pz,ph,pq⟩) else Gw.chk gw) else Sv.chk sv) else chkR rs) else chk ms) else 1:=by unfold Nd.pE;with_reducible rfl
 have HL:Hid (∀ (W:World) (g:Nat),W.cell? ⟨g,0,none⟩=some (.string nm)→W.cell? ⟨g,1,none⟩=some (.string ct)→Calls Tryz.prog 38 #[.slice (some ⟨g,0,none⟩) 2 2] W fun e w'=>e=.returned (.bool (labB nm && labB ct))∧w'=W):=fun W g h0 h1=>lab2_any nm ct hnm hct g 2 W h0 h1
 have HW:Hid (labB nm=true→∀ W,Below w.heap.size w W→Calls Tryz.prog 88 #[.agg #[.string nm,.bool true,.slice none 0 0,.slice none 0 0,.slice none 0 0,vw]] W fun e w'=>e=.returned (.int .i64 (Wh.chk wh))∧Below W.heap.size W w'):=fun hl W hW=>pcheck_where nm wh vw W (hwh.below hW) hnm hl
 have HLN:Hid ((labB nm && labB ct)=true→labB nm=true):=fun h=>by rw [Bool.and_eq_true] at h;exact h.1
 generalize (labB nm && labB ct)=lb at *
 generalize Nd.pE ⟨nm,ct,ms,rs,sv,gw,⟨px,py,pz,ph,pq⟩,wh⟩=res at *
 generalize chk ms=m1 at *
 generalize chkR rs=r1 at *
 generalize Sv.chk sv=s1 at *
 generalize Gw.chk gw=g1 at *
 generalize chkP ⟨px,py,pz,ph,pq⟩=p1 at *
 generalize Wh.chk wh=wz at *
 obtain ⟨a5,c5,rfl,_,_⟩:=hwh
 generalize wh.length=n5 at *
 clear hms hrs hsv hgw
 obtain ⟨y0,y1,y2,y3,y4,y5,y6,y7,y8,y9,y10,y11⟩:=HX.out w (Below.refl _ _)
 clear hg
 go_enter Tryz.func86,Tryz.ntmps86
 go_wp2_with fail
 go_region_held3 (fun w'=>w'.cell? ⟨b,0,none⟩=some (.string nm)∧w'.cell? ⟨b,1,none⟩=some (.string ct)) (go_keep) (first | (go_at_call 38;refine (HL.out _ _ (cell_topW rfl) (cell_topW rfl)).mono ?_;rintro e w' ⟨rfl,rfl⟩))
 obtain ⟨W0,hW0⟩:∃ W0,W0=(w.alloc (.cells #[.string nm,.string ct] 9)).drew:=⟨_,rfl⟩
 have HB0:Hid (Below w.heap.size w W0):=by rw [hW0];exact ((Below.refl _ _).alloc (Nat.le_refl _) _).drew
 rw [← hW0]
 clear hW0 HL y0 y1 y2 y3 y4 y5 y6 y7 y8 y9 y10 y11
 obtain ⟨y0,y1,y2,y3,y4,y5,y6,y7,y8,y9,y10,y11⟩:=HX.out W0 HB0.out
 cases lb
 ·rw [if_neg (by simp)] at HE
  have HR:Hid (res=1):=HE
  clear HE
  go_wp2_with fail
  go_ret
  exact ⟨ret_int HR.out.symm,HB0.out⟩
 rw [if_pos rfl] at HE
 have HW:Hid (∀ W,Below w.heap.size w W→Calls Tryz.prog 88 #[.agg #[.string nm,.bool true,.slice none 0 0,.slice none 0 0,.slice none 0 0,.slice a5 n5 c5]] W fun e w'=>e=.returned (.int .i64 wz)∧Below W.heap.size W w'):=HW.out (HLN.out rfl)
 go_wp2_with fail
 refine (HM.out _ HB0.out).mono ?_
 rintro e w1 ⟨rfl,hb1⟩
 have HB1:Hid (Below w.heap.size w w1):=HB0.out.trans (hb1.mono HB0.out.size)
 clear hb1 y0 y1 y2 y3 y4 y5 y6 y7 y8 y9 y10 y11
 obtain ⟨y0,y1,y2,y3,y4,y5,y6,y7,y8,y9,y10,y11⟩:=HX.out w1 HB1.out
 by_cases hm1:m1=0
 ·rw [if_pos hm1] at HE
  subst hm1
  go_wp2_with fail
  refine (HRC.out _ HB1.out).mono ?_
  rintro e w2 ⟨rfl,hb2⟩
  have HB2:Hid (Below w.heap.size w w2):=HB1.out.trans (hb2.mono HB1.out.size)
  clear hb2 y0 y1 y2 y3 y4 y5 y6 y7 y8 y9 y10 y11
  obtain ⟨y0,y1,y2,y3,y4,y5,y6,y7,y8,y9,y10,y11⟩:=HX.out w2 HB2.out
  by_cases hr1:r1=0
  ·rw [if_pos hr1] at HE
   subst hr1
   go_wp2_with fail
   refine (HS.out _ HB2.out).mono ?_
   rintro e w3 ⟨rfl,hb3⟩
   have HB3:Hid (Below w.heap.size w w3):=HB2.out.trans (hb3.mono HB2.out.size)
   clear hb3 y0 y1 y2 y3 y4 y5 y6 y7 y8 y9 y10 y11
   obtain ⟨y0,y1,y2,y3,y4,y5,y6,y7,y8,y9,y10,y11⟩:=HX.out w3 HB3.out
   by_cases hs1:s1=0
   ·rw [if_pos hs1] at HE
    subst hs1
    go_wp2_with fail
    refine (HG.out _ HB3.out).mono ?_
    rintro e w4 ⟨rfl,hb4⟩
    have HB4:Hid (Below w.heap.size w w4):=HB3.out.trans (hb4.mono HB3.out.size)
    clear hb4 y0 y1 y2 y3 y4 y5 y6 y7 y8 y9 y10 y11
    obtain ⟨y0,y1,y2,y3,y4,y5,y6,y7,y8,y9,y10,y11⟩:=HX.out w4 HB4.out
    by_cases hg1:g1=0
    ·rw [if_pos hg1] at HE
     subst hg1
     go_wp2_with fail
     refine (HP.out _ HB4.out).mono ?_
     rintro e w5 ⟨rfl,hb5⟩
     have HB5:Hid (Below w.heap.size w w5):=HB4.out.trans (hb5.mono HB4.out.size)
     clear hb5 y0 y1 y2 y3 y4 y5 y6 y7 y8 y9 y10 y11
     obtain ⟨y0,y1,y2,y3,y4,y5,y6,y7,y8,y9,y10,y11⟩:=HX.out w5 HB5.out
     by_cases hp1:p1=0
     ·rw [if_pos hp1] at HE
      subst hp1
      go_wp2_with fail
      go_region_held3 (fun w'=>w'.cell? ⟨b,0,none⟩=some (.string nm)∧w'.cell? ⟨b,11,none⟩=some (.slice a5 n5 c5)) (first | assumption | go_keep) (first | (go_at_call 88;refine (HW.out _ HB5.out.drew).mono ?_;rintro e w9 ⟨rfl,hb9⟩;have HB9:Hid (Below w.heap.size w w9):=HB5.out.drew.trans (hb9.mono HB5.out.size);have hS:w9.cell? ⟨b,0,none⟩=some (.string nm)∧w9.cell? ⟨b,11,none⟩=some (.slice a5 n5 c5):=⟨(HX.out w9 HB9.out).1,(HX.out w9 HB9.out).2.2.2.2.2.2.2.2.2.2.2⟩))
      go_wp2_with fail
      go_ret
      exact ⟨ret_int HE.symm,HB9.out⟩
     ·have hp1':(p1 != 0)=true:=by simpa using hp1
      rw [if_neg hp1] at HE
      have HR:Hid (res=p1):=HE
      clear hp1 HE
      go_wp2_with fail
      go_ret
      exact ⟨ret_int HR.out.symm,HB5.out⟩
    ·have hg1':(g1 != 0)=true:=by simpa using hg1
     rw [if_neg hg1] at HE
     have HR:Hid (res=g1):=HE
     clear hg1 HE
     go_wp2_with fail
     go_ret
     exact ⟨ret_int HR.out.symm,HB4.out⟩
   ·have hs1':(s1 != 0)=true:=by simpa using hs1
    rw [if_neg hs1] at HE
    have HR:Hid (res=s1):=HE
    clear hs1 HE
    go_wp2_with fail
    go_ret
    exact ⟨ret_int HR.out.symm,HB3.out⟩
  ·have hr1':(r1 != 0)=true:=by simpa using hr1
   rw [if_neg hr1] at HE
   have HR:Hid (res=r1):=HE
   clear hr1 HE
   go_wp2_with fail
   go_ret
   exact ⟨ret_int HR.out.symm,HB2.out⟩
 ·have hm1':(m1 != 0)=true:=by simpa using hm1
  rw [if_neg hm1] at HE
  have HR:Hid (res=m1):=HE
  clear hm1 HE
  go_wp2_with fail
  go_ret
  exact ⟨ret_int HR.out.symm,HB1.out⟩
theorem newE0n {a b:Mem} (ha:a.e=0) (hb:b.e=0) (hn:a.name=b.name):newE a b=0:=by
 unfold newE
 have h:chkTwo [a] [b]=0:=by
  unfold chkTwo
  rw [chk_oneR,chk_oneR,if_pos ha,hb]
 rw [if_pos h,if_pos hn]
theorem chk_e0 {ms:List Mem} (h:chk ms=0):∀ m∈ms,m.e=0:=by
 obtain ⟨_,_,h3⟩:=chk_zero h
 exact firstE_mem ms h3
theorem chkR_e0 {rs:List Rum} (h:chkR rs=0):rs.length≤20∧(∀ r∈rs,r.m.e=0)∧AllTold rs∧Distinct rs:=by
 unfold chkR at h
 split at h
 ·cases h
 ·rename_i hn
  split at h
  ·rename_i h1
   split at h
   ·rename_i h2
    split at h
    ·rename_i h3
     refine ⟨by omega,fun r hr=>?_,h2,h3⟩
     exact firstE_mem _ h1 r.m (List.mem_map.2 ⟨r,hr,rfl⟩)
    ·cases h
   ·cases h
  ·rename_i h1;exact absurd h h1
theorem aheadP_eq {ms:List Mem} {r:Rum} (h:chk ms=0) (hr:r.m.e=0):aheadP ms r=aheadB ms r:=by
 unfold aheadP aheadB
 rcases hf:fstM ms r.m.name with _ | k
 ·rfl
 ·have hk:=fstM_mem hf
  simp only
  rw [newE0n hr (chk_e0 h k hk.1) hk.2.symm]
  simp
theorem any_ahead {ms:List Mem} {rs:List Rum} (h:chk ms=0) (hr:chkR rs=0):rs.any (aheadP ms)=rs.any (aheadB ms):=by
 have h2:=(chkR_e0 hr).2.1
 clear hr
 induction rs with
 | nil=>rfl
 | cons r l ih=>
   rw [List.any_cons,List.any_cons,aheadP_eq h (h2 r (by simp)),ih (fun x hx=>h2 x (by simp [hx]))]
set_option maxHeartbeats 6400000 in
set_option maxRecDepth 100000 in
theorem checkWhole_any (n:Nd) (b:Nat) (vm vr vs vg vw:Value) (w:World) (h:NdIs w n vm vr vs vg vw) (hg:w.heap[b]?=some (.cells (ndA n vm vr vs vg vw) 133 (0,0))) (hp:n.pE=0) :
 Calls Tryz.prog 87 #[.pointer (some ⟨b,0,none⟩)] w fun e w'=>e=.returned (.int .i64 n.wE)∧Below w.heap.size w w':=by
 have HPT:Hid n.Parts:=Nd.parts hp
 have hb:b < w.heap.size:=(Array.getElem?_eq_some_iff.1 hg).1
 have hml:n.ms.length≤20:=(chk_zero HPT.out.ms).1
 have hrl:n.rs.length≤20:=(chkR_e0 HPT.out.rs).1
 have HWE:Hid (n.wE=match fstM n.ms n.name with
  | none=>5
  | some m=>if m.state=2∨m.state=3 then 4 else if n.rs.any (aheadP n.ms)=true then 4 else 0):=by
  show n.wE=_
  rw [any_ahead HPT.out.ms HPT.out.rs];rfl
 obtain ⟨nm,ct,ms,rs,sv,gw,⟨px,py,pz,ph,pq⟩,wh⟩:=n
 obtain ⟨hms,hrs,_,_,_,_,_⟩:=h
 simp only at hms hrs hg hml hrl HWE
 generalize Nd.wE ⟨nm,ct,ms,rs,sv,gw,⟨px,py,pz,ph,pq⟩,wh⟩=res at *
 obtain ⟨am,cm,rfl,hms1,hms2⟩:=hms
 have hms:Sl w (.slice am ms.length cm) ms:=⟨am,cm,rfl,hms1,hms2⟩
 clear hms1 hms2
 have HX:Hid (∀ W,Below w.heap.size w W→W.cell? ⟨b,0,none⟩=some (.string nm)∧W.cell? ⟨b,2,none⟩=some (.slice am ms.length cm)∧W.cell? ⟨b,3,none⟩=some vr):=fun W hW=>
  have hg':=(hW.block _ hb).trans hg
  ⟨cellsAt hg' 0,cellsAt hg' 2,cellsAt hg' 3⟩
 have HMB:Hid (∀ (W:World) (t:ByteArray),Below w.heap.size w W→Calls Tryz.prog 93 #[.pointer (some ⟨b,0,none⟩),.string t] W fun e w'=>e=.returned (.tuple #[.agg #[.string (mOf ms t).name,.int .i64 (mOf ms t).state,.int .i64 (mOf ms t).life,.int .i64 (mOf ms t).addr,.bool (mOf ms t).server],.bool (fstM ms t).isSome])∧Below W.heap.size W w'):=fun W t hW=>
  wmember_any b am ms.length cm ms t W (HX.out W hW).2.1 (hms.below hW) (by omega)
 have HCF:Hid (∀ W,Below w.heap.size w W→Calls Tryz.prog 130 #[vr,.func (.func 131) #[.pointer (some ⟨b,0,none⟩)] #[]] W fun e w'=>e=.returned (.bool (rs.any (aheadP ms)))∧Below W.heap.size W w'):=fun W hW=>
  contains_any b am ms.length cm ms rs vr W (hrs.below hW) (HX.out W hW).2.1 (hms.below hW) (by omega) (by omega)
 clear hms hrs
 generalize rs.any (aheadP ms)=ab at *
 obtain ⟨y0,y2,y3⟩:=HX.out w (Below.refl _ _)
 clear hg
 go_enter Tryz.func87,Tryz.ntmps87
 go_wp2_with fail
 refine (HMB.out _ nm (Below.refl _ _)).mono ?_
 rintro e w1 ⟨rfl,hb1⟩
 have HB1:Hid (Below w.heap.size w w1):=hb1
 clear hb1 y0 y2 y3
 rcases hf:fstM ms nm with _ | m
 ·have HR:Hid (res=5):=HWE.out.trans (by rw [hf])
  have hmo:mOf ms nm=dm:=mOf_none hf
  rw [hmo]
  clear hf hmo
  go_wp2_with fail
  go_ret
  exact ⟨ret_int HR.out.symm,HB1.out.alloc HB1.out.size _⟩
 ·have HR:Hid (res=if m.state=2∨m.state=3 then 4 else if ab=true then 4 else 0):=HWE.out.trans (by rw [hf])
  have hmo:mOf ms nm=m:=mOf_some hf
  rw [hmo]
  clear hf hmo
  obtain ⟨mn,st,lf,ad,sv2⟩:=m
  simp only at HR
  by_cases h2:st=2
  ·subst h2
   have HR2:Hid (res=4):=HR.out.trans (by simp)
   go_wp2_with fail
   go_ret
   exact ⟨ret_int HR2.out.symm,HB1.out.alloc HB1.out.size _⟩
  ·by_cases h3:st=3
   ·subst h3
    have HR2:Hid (res=4):=HR.out.trans (by simp)
    go_wp2_with fail
    go_ret
    exact ⟨ret_int HR2.out.symm,HB1.out.alloc HB1.out.size _⟩
   ·have HR2:Hid (res=if ab=true then 4 else 0):=HR.out.trans (if_neg (by omega))
    have h2':(st == 2)=false:=by simpa using h2
    have h3':(st == 3)=false:=by simpa using h3
    clear h2 h3 HR
    obtain ⟨W2,hW2⟩:∃ W2,W2=w1.alloc (.cells #[.string mn,.int .i64 st,.int .i64 lf,.int .i64 ad,.bool sv2] 56):=⟨_,rfl⟩
    have HB2:Hid (Below w.heap.size w W2):=by rw [hW2];exact HB1.out.alloc HB1.out.size _
    obtain ⟨y0,y2,y3⟩:=HX.out W2 HB2.out
    rw [hW2] at y0 y2 y3
    go_wp2_with fail
    rw [← hW2]
    refine (HCF.out _ HB2.out).mono ?_
    rintro e w3 ⟨rfl,hb3⟩
    have HB3:Hid (Below w.heap.size w w3):=HB2.out.trans (hb3.mono HB2.out.size)
    clear hb3 y0 y2 y3 hW2
    cases ab
    ·go_wp2_with fail
     go_ret
     exact ⟨ret_int HR2.out.symm,HB3.out⟩
    ·go_wp2_with fail
     go_ret
     exact ⟨ret_int HR2.out.symm,HB3.out⟩
set_option maxHeartbeats 6400000 in
set_option maxRecDepth 100000 in
theorem ncheck_any (n:Nd) (vm vr vs vg vw:Value) (w:World) (h:NdIs w n vm vr vs vg vw) :
 Calls Tryz.prog 60 #[.agg (ndA n vm vr vs vg vw)] w fun e w'=>e=.returned (.int .i64 n.e)∧Below w.heap.size w w':=by
 have HI:Hid (NdIs w n vm vr vs vg vw):=h
 have HE:Hid (n.e=if n.pE=0 then n.wE else n.pE):=rfl
 obtain ⟨W,hW⟩:∃ W,W=(w.alloc (.cells (ndA n vm vr vs vg vw) 51)).alloc (.cells (ndA n vm vr vs vg vw) 133):=⟨_,rfl⟩
 have hbW:Below w.heap.size w W:=by rw [hW];exact ((Below.refl _ _).alloc (Nat.le_refl _) _).alloc (by simp) _
 have hg:W.heap[w.heap.size+1]?=some (.cells (ndA n vm vr vs vg vw) 133 (0,0)):=by
  have h:=heap_alloc_new (w.alloc (.cells (ndA n vm vr vs vg vw) 51)) (.cells (ndA n vm vr vs vg vw) 133)
  rw [hW];simpa using h
 have hsW:W.heap.size=w.heap.size+2:=by rw [hW];simp
 have HBW:Hid (Below w.heap.size w W):=hbW
 have HC:Hid (Calls Tryz.prog 86 #[.pointer (some ⟨w.heap.size+1,0,none⟩)] W fun e w'=>e=.returned (.int .i64 n.pE)∧Below W.heap.size W w'):=checkParts_any n (w.heap.size+1) vm vr vs vg vw W (h.below hbW) hg
 have HD:Hid (n.pE=0→∀ W1,Below W.heap.size W W1→Calls Tryz.prog 87 #[.pointer (some ⟨w.heap.size+1,0,none⟩)] W1 fun e w'=>e=.returned (.int .i64 n.wE)∧Below W1.heap.size W1 w'):=fun hp W1 h1=>
  checkWhole_any n (w.heap.size+1) vm vr vs vg vw W1 ((h.below hbW).below h1) ((h1.block _ (by omega)).trans hg) hp
 obtain ⟨nm,ct,ms,rs,sv,gw,⟨px,py,pz,ph,pq⟩,wh⟩:=n
 obtain ⟨⟨am,cm,rfl,_,_⟩,⟨ar,cr,rfl,_,_⟩,⟨aq,cq,rfl,_,_⟩,⟨ag,cg,rfl,_,_⟩,⟨aw,cw,rfl,_,_⟩,_,_⟩:=h
 generalize Nd.e ⟨nm,ct,ms,rs,sv,gw,⟨px,py,pz,ph,pq⟩,wh⟩=res at *
 generalize Nd.pE ⟨nm,ct,ms,rs,sv,gw,⟨px,py,pz,ph,pq⟩,wh⟩=pe at *
 generalize Nd.wE ⟨nm,ct,ms,rs,sv,gw,⟨px,py,pz,ph,pq⟩,wh⟩=we at *
 simp only [ndA] at hW ⊢
 clear hg hbW
 generalize ms.length=nms at *
 generalize rs.length=nrs at *
 generalize sv.length=nsv at *
 generalize gw.length=ngw at *
 generalize wh.length=nwh at *
 go_enter Tryz.func60,Tryz.ntmps60
 go_wp2_with fail
 rw [← hW]
 refine HC.out.mono ?_
 rintro e w1 ⟨rfl,hb1⟩
 have HB1:Hid (Below W.heap.size W w1):=hb1
 have HBW1:Hid (Below w.heap.size w w1):=HBW.out.trans (hb1.mono (by omega))
 clear hb1
 by_cases hp:pe=0
 ·have HD2:=HD.out hp w1 HB1.out
  have HR:Hid (res=we):=HE.out.trans (if_pos hp)
  subst hp
  clear HD HE
  go_wp2_with fail
  refine HD2.mono ?_
  rintro e w2 ⟨rfl,hb2⟩
  have HBW2:Hid (Below w.heap.size w w2):=HBW1.out.trans (hb2.mono HBW1.out.size)
  clear hb2
  go_wp2_with fail
  go_ret
  exact ⟨ret_int HR.out.symm,HBW2.out⟩
 ·have hp':(pe != 0)=true:=by simpa using hp
  have HR:Hid (res=pe):=HE.out.trans (if_neg hp)
  clear hp HD HE
  go_wp2_with fail
  go_ret
  exact ⟨ret_int HR.out.symm,HBW1.out⟩
def posM (ms:List Mem) (t:ByteArray):Nat:=ms.findIdx fun m => !decide (cmpI m.name t < 0)
def isM (ms:List Mem) (t:ByteArray):Bool:=decide (posM ms t < ms.length) && decide (cmpI (ms.getD (posM ms t) dm).name t=0)
theorem at_pos {ms:List Mem} (hr:Rise ms) (t:ByteArray):At ms t (posM ms t) (isM ms t):=by
 have hget:∀ j (h:j < ms.length),ms.getD j dm=ms[j]:=fun j h=>by simp [List.getD,List.getElem?_eq_getElem h]
 refine ⟨List.findIdx_le_length,fun j hj=>?_,fun j hj hl=>?_,?_⟩
 ·have hl:j < ms.length:=Nat.lt_of_lt_of_le hj List.findIdx_le_length
  have h:=List.not_of_lt_findIdx hj
  rw [hget j hl]
  simpa using h
 ·have hp:posM ms t < ms.length:=by omega
  have h:=List.findIdx_getElem (xs:=ms) (p:=fun m:Mem => !decide (cmpI m.name t < 0)) (w:=hp)
  apply Int.not_lt.1
  intro hx
  have h2:=rise_mono hr t (posM ms t) j hj hl hx
  rw [hget _ hp] at h2
  have h3:(!decide (cmpI (ms[posM ms t]'hp).name t < 0))=true:=h
  rw [decide_eq_true h2] at h3
  cases h3
 ·unfold isM
  rw [Bool.and_eq_true,decide_eq_true_eq,decide_eq_true_eq]
theorem fst_some_of {ms:List Mem} {t:ByteArray} {p:Nat} (h:At ms t p true):fstM ms t=some (ms.getD p dm):=by
 obtain ⟨h1,h2⟩:=h.is.1 rfl
 refine fstM_some h1 (fun j hj e=>?_) ((cmpI_eq _ _).1 h2)
 have:=h.lo j hj
 rw [e,(cmpI_eq t t).2 rfl] at this
 omega
theorem fst_none_of {ms:List Mem} {t:ByteArray} {p:Nat} (hr:Rise ms) (h:At ms t p false):fstM ms t=none:=by
 refine fstM_none fun j hj e=>?_
 have hget:∀ j (h:j < ms.length),ms.getD j dm=ms[j]:=fun j h=>by simp [List.getD,List.getElem?_eq_getElem h]
 have h2:At ms t j true:=by
  refine ⟨by omega,fun i hi=>?_,fun i hi hl=>?_,⟨fun _=>⟨hj,(cmpI_eq _ _).2 e⟩,fun _=>rfl⟩⟩
  ·have:=List.pairwise_iff_getElem.1 hr i j (by omega) hj hi
   rw [← e,cmpI_lt,hget i (by omega),hget j hj];exact this
  ·rcases Nat.lt_or_eq_of_le hi with h3 | rfl
   ·have:=List.pairwise_iff_getElem.1 hr j i hj hl h3
    have h4:0 < cmpI (ms.getD i dm).name t:=by rw [← e,cmpI_gt,hget i hl,hget j hj];exact this
    omega
   ·rw [(cmpI_eq _ _).2 e];omega
 have:=(at_uniq h h2).2
 cases this
theorem fst_at {ms:List Mem} {t:ByteArray} {p:Nat} {f:Bool} (hr:Rise ms) (h:At ms t p f):fstM ms t=if f=true then some (ms.getD p dm) else none:=by
 cases f
 ·rw [fst_none_of hr h];rfl
 ·rw [fst_some_of h];rfl
theorem cmp_ne {a b:ByteArray} (h:cmpI a b < 0):a≠b:=fun e=>by rw [(cmpI_eq a b).2 e] at h;omega
theorem fst_cons (x:Mem) (r:List Mem) (t:ByteArray):fstM (x :: r) t=if x.name=t then some x else fstM r t:=by
 unfold fstM
 rw [List.find?_cons]
 by_cases h:x.name=t<;>simp [h]
theorem fst_hear (m:Mem):∀ ms,hearL ms m≠ms→fstM (hearL ms m) m.name=some m
 | [],_=>by rw [hearL,fst_cons,if_pos rfl]
 | x :: r,h=>by
   rw [hearL] at h ⊢
   split
   ·rename_i h1
    rw [if_pos h1] at h
    rw [fst_cons,if_neg (cmp_ne h1)]
    exact fst_hear m r (fun e=>h (by rw [e]))
   ·rename_i h1
    rw [if_neg h1] at h
    split
    ·rename_i h2
     rw [if_pos h2] at h
     split
     ·rw [fst_cons,if_pos rfl]
     ·rename_i h3;rw [if_neg h3] at h;exact absurd rfl h
    ·rw [fst_cons,if_pos rfl]
def rAt (rs:List Rum) (t:ByteArray):Nat:=rs.findIdx fun r=>decide (r.m.name=t)
theorem rAt_lo {rs:List Rum} {t:ByteArray} {j:Nat} (h:j < rAt rs t):(rs.getD j dr).m.name≠t:=by
 have hl:j < rs.length:=Nat.lt_of_lt_of_le h List.findIdx_le_length
 have h:=List.not_of_lt_findIdx h
 rw [show rs.getD j dr=rs[j] by simp [List.getD,List.getElem?_eq_getElem hl]]
 simpa using h
theorem rAt_is {rs:List Rum} {t:ByteArray} (h:rAt rs t < rs.length):(rs.getD (rAt rs t) dr).m.name=t:=by
 have h2:=List.findIdx_getElem (xs:=rs) (p:=fun r:Rum=>decide (r.m.name=t)) (w:=h)
 rw [show rs.getD (rAt rs t) dr=rs[rAt rs t] by simp [List.getD,List.getElem?_eq_getElem h]]
 exact of_decide_eq_true h2
theorem rAt_no {rs:List Rum} {t:ByteArray} (h:¬ rAt rs t < rs.length):NotIn rs t:=fun j hj=>rAt_lo (by
 have:rAt rs t≤rs.length:=List.findIdx_le_length
 omega)
theorem rAt_ne {rs:List Rum} (hd:Distinct rs) {t:ByteArray} {j:Nat} (hj:j < rs.length) (hne:j≠rAt rs t):(rs.getD j dr).m.name≠t:=by
 rcases Nat.lt_or_ge j (rAt rs t) with h | h
 ·exact rAt_lo h
 ·have hlt:rAt rs t < j:=by omega
  intro e
  exact hd (rAt rs t) j hlt hj (by rw [e];exact rAt_is (by omega))
def putL (rs:List Rum) (m:Mem):List Rum:=
 if rAt rs m.name < rs.length then (if newM m (rs.getD (rAt rs m.name) dr).m=true then rs.eraseIdx (rAt rs m.name)++[⟨m,0⟩] else rs) else rs++[⟨m,0⟩]
def putE (rs:List Rum) (m:Mem):Int:=if 20 < (putL rs m).length then 2 else 0
set_option maxHeartbeats 800000 in
theorem put_any (rs:List Rum) (v:Value) (m:Mem) (w:World) (hv:RSl w v rs) (hm:m.name.size≤maxLen) (h0:chkR rs=0) (he:m.e=0) :
 Calls Tryz.prog 195 #[v,.agg #[.string m.name,.int .i64 m.state,.int .i64 m.life,.int .i64 m.addr,.bool m.server]] w fun e w'=>∃ a k c,e=.returned (.tuple #[.slice a k c,.int .i64 (putE rs m)])∧Below w.heap.size w w'∧(putE rs m=0→ROwn w.heap.size w' (.slice a k c) (putL rs m)):=by
 have hl:=(chkR_e0 h0).1
 have sl:∀ {W:World} {B:Nat} {u:Value} {l:List Rum},ROwn B W u l→∃ a k c,u=.slice a k c:=fun h=>by
  obtain ⟨a,c,e⟩:=h.slice
  exact ⟨a,_,c,e⟩
 by_cases hp:rAt rs m.name < rs.length
 ·rcases hn:newM m (rs.getD (rAt rs m.name) dr).m with _ | _
  ·have e1:putL rs m=rs:=by unfold putL;rw [if_pos hp,if_neg (by rw [hn];simp)]
   have e2:putE rs m=0:=by unfold putE;rw [e1,if_neg (by omega)]
   refine (put_old rs v m w hv hm h0 he _ hp (rAt_is hp) hn).mono ?_
   rintro e w' ⟨v',rfl,ho,hb⟩
   obtain ⟨a,k,c,rfl⟩:=sl ho
   exact ⟨a,k,c,by rw [e2],hb,fun _=>by rw [e1];exact ho⟩
  ·have e1:putL rs m=rs.eraseIdx (rAt rs m.name)++[⟨m,0⟩]:=by unfold putL;rw [if_pos hp,if_pos hn]
   have e2:putE rs m=0:=by unfold putE;rw [e1,if_neg (by rw [List.length_append,List.length_eraseIdx_of_lt hp];simp;omega)]
   refine (put_newer rs v m w hv hm h0 he _ hp (rAt_is hp) hn).mono ?_
   rintro e w' ⟨v',rfl,ho,hb⟩
   obtain ⟨a,k,c,rfl⟩:=sl ho
   exact ⟨a,k,c,by rw [e2],hb,fun _=>by rw [e1];exact ho⟩
 ·have e1:putL rs m=rs++[⟨m,0⟩]:=by unfold putL;rw [if_neg hp]
  by_cases hf:rs.length=20
  ·have e2:putE rs m=2:=by unfold putE;rw [e1,if_pos (by rw [List.length_append];simp;omega)]
   refine (put_full rs v m w hv hm h0 he (rAt_no hp) hf).mono ?_
   rintro e w' ⟨rfl,hb⟩
   exact ⟨none,0,0,by rw [e2],hb,fun h=>by rw [e2] at h;cases h⟩
  ·have e2:putE rs m=0:=by unfold putE;rw [e1,if_neg (by rw [List.length_append];simp;omega)]
   refine (put_new rs v m w hv hm h0 he (rAt_no hp) (by omega)).mono ?_
   rintro e w' ⟨v',rfl,ho,hb⟩
   obtain ⟨a,k,c,rfl⟩:=sl ho
   exact ⟨a,k,c,by rw [e2],hb,fun _=>by rw [e1];exact ho⟩
theorem distinct_pw (rs:List Rum):Distinct rs↔rs.Pairwise fun a b=>a.m.name≠b.m.name:=by
 have hget:∀ j (h:j < rs.length),rs.getD j dr=rs[j]:=fun j h=>by simp [List.getD,List.getElem?_eq_getElem h]
 rw [List.pairwise_iff_getElem]
 exact ⟨fun h i j hi hj hij=>by have:=h i j hij hj;rwa [hget i hi,hget j hj] at this,fun h i j hij hj=>by rw [hget i (by omega),hget j hj];exact h i j (by omega) hj hij⟩
theorem told_mem (rs:List Rum):AllTold rs↔∀ r∈rs,within r.told 0 100=true:=by
 have hget:∀ j (h:j < rs.length),rs.getD j dr=rs[j]:=fun j h=>by simp [List.getD,List.getElem?_eq_getElem h]
 constructor
 ·intro h r hr
  obtain ⟨j,hj,rfl⟩:=List.getElem_of_mem hr
  have:=h j hj;rwa [hget j hj] at this
 ·intro h j hj
  rw [hget j hj];exact h _ (List.getElem_mem _)
theorem chkR_of {rs:List Rum} (h1:rs.length≤20) (h2:∀ r∈rs,r.m.e=0) (h3:∀ r∈rs,within r.told 0 100=true) (h4:rs.Pairwise fun a b=>a.m.name≠b.m.name):chkR rs=0:=by
 have hget:∀ j (h:j < rs.length),rs.getD j dr=rs[j]:=fun j h=>by simp [List.getD,List.getElem?_eq_getElem h]
 exact chkR_ok h1 (fun j hj=>by rw [hget j hj];exact h2 _ (List.getElem_mem _)) ((told_mem rs).2 h3) ((distinct_pw rs).2 h4)
theorem putL_mem {rs:List Rum} {m:Mem} {r:Rum} (h:r∈putL rs m):r∈rs∨r=⟨m,0⟩:=by
 unfold putL at h
 split at h
 ·split at h
  ·rcases List.mem_append.1 h with h | h
   ·exact .inl (List.mem_of_mem_eraseIdx h)
   ·exact .inr (by simpa using h)
  ·exact .inl h
 ·rcases List.mem_append.1 h with h | h
  ·exact .inl h
  ·exact .inr (by simpa using h)
theorem chkR_put {rs:List Rum} {m:Mem} (h:chkR rs=0) (hm:m.e=0) (hp:putE rs m=0):chkR (putL rs m)=0:=by
 obtain ⟨l1,l2,l3,l4⟩:=chkR_e0 h
 have hlen:(putL rs m).length≤20:=by
  unfold putE at hp
  split at hp
  ·cases hp
  ·omega
 rw [told_mem] at l3
 have hd:=(distinct_pw rs).1 l4
 refine chkR_of hlen (fun r hr=>?_) (fun r hr=>?_) ?_
 ·rcases putL_mem hr with h | rfl
  ·exact l2 r h
  ·exact hm
 ·rcases putL_mem hr with h | rfl
  ·exact l3 r h
  ·rfl
 ·unfold putL
  split
  ·rename_i hlt
   split
   ·rw [List.pairwise_append]
    refine ⟨hd.sublist (List.eraseIdx_sublist _ _),by simp,fun a ha b hb=>?_⟩
    simp at hb;subst hb
    obtain ⟨i,hi,hne,rfl⟩:=List.mem_eraseIdx_iff_getElem.1 ha
    have:=rAt_ne l4 hi hne
    rwa [show rs.getD i dr=rs[i] by simp [List.getD,List.getElem?_eq_getElem hi]] at this
   ·exact hd
  ·rename_i hlt
   rw [List.pairwise_append]
   refine ⟨hd,by simp,fun a ha b hb=>?_⟩
   simp at hb;subst hb
   obtain ⟨i,hi,rfl⟩:=List.getElem_of_mem ha
   have:=rAt_no hlt i hi
   rwa [show rs.getD i dr=rs[i] by simp [List.getD,List.getElem?_eq_getElem hi]] at this
theorem chk_of {ms:List Mem} (h1:ms.length≤20) (h2:Rise ms) (h3:∀ m∈ms,m.e=0):chk ms=0:=by
 have hget:∀ j (h:j < ms.length),ms.getD j dm=ms[j]:=fun j h=>by simp [List.getD,List.getElem?_eq_getElem h]
 rw [chk_r ms h1 (fun j hj=>by rw [hget j hj];exact h3 _ (List.getElem_mem _)),if_pos (rises_of ms h2)]
theorem chk_hear {ms:List Mem} {m:Mem} (h:chk ms=0) (hm:m.e=0) (hl:(hearL ms m).length≤20):chk (hearL ms m)=0:=by
 obtain ⟨_,h2,_⟩:=chk_zero h
 refine chk_of hl (hearL_rise ms m h2) (fun x hx=>?_)
 rcases hearL_mem ms m x hx with rfl | hx
 ·exact hm
 ·exact chk_e0 h x hx
theorem joinE_one {ms:List Mem} {m:Mem} (h:chk ms=0) (hm:m.e=0):joinE ms [m]=if 20 < (hearL ms m).length then 2 else 0:=by
 unfold joinE chkTwo
 rw [if_pos h,chk_oneR,if_pos hm]
 rfl
def chgB (ms:List Mem) (m:Mem):Bool:=match fstM ms m.name with
 | none=>true
 | some k=>newM m k
theorem newM_self (m:Mem):newM m m=false:=by
 unfold newM newB
 simp
theorem chgB_iff {ms:List Mem} (hr:Rise ms) (m:Mem):chgB ms m=true↔hearL ms m≠ms:=by
 have hat:=at_pos hr m.name
 have hf:=fst_at hr hat
 have hh:=hearL_at ms m _ _ hat
 unfold chgB
 rw [hf,hh]
 rcases he:isM ms m.name with _ | _
 ·simp only [Bool.false_eq_true,if_false,ne_eq,true_iff]
  intro e
  have:=congrArg List.length e
  have hle:=hat.le
  simp at this
  omega
 ·simp only [if_true]
  rw [he] at hat
  have hp:=(hat.is.1 rfl).1
  by_cases hn:newM m (ms.getD (posM ms m.name) dm)=true
  ·rw [if_pos hn]
   refine ⟨fun _ e=>?_,fun _=>hn⟩
   have h2:ms.getD (posM ms m.name) dm=m:=by
    have:(ms.set (posM ms m.name) m).getD (posM ms m.name) dm=m:=by simp [List.getD,hp]
    rwa [e] at this
   rw [h2,newM_self] at hn
   cases hn
  ·rw [if_neg hn]
   exact ⟨fun h=>absurd h hn,fun h=>absurd rfl h⟩
def rfP (n:Nd):Nat:=posM n.ms n.name
def rfF (n:Nd):Bool:=isM n.ms n.name
def rfL (n:Nd):List Mem:=refL n.ms (rfP n) (rfF n)
def rfM (n:Nd):Mem:=mOf (rfL n) n.name
def rfE (n:Nd):Int:=if refE n.ms (rfP n) (rfF n)=0 then (if refR n.ms (rfP n) (rfF n)=true then putE n.rs (rfM n) else 0) else refE n.ms (rfP n) (rfF n)
def rfN (n:Nd):Nd:=if refR n.ms (rfP n) (rfF n)=true then { n with ms:=rfL n,rs:=putL n.rs (rfM n) } else { n with ms:=rfL n }
def sp1 (n:Nd) (m:Mem):Nd:=if chgB n.ms m=true then { n with ms:=hearL n.ms m,rs:=putL n.rs m } else { n with ms:=hearL n.ms m }
def sp1E (n:Nd) (m:Mem):Int:=if joinE n.ms [m]=0 then (if chgB n.ms m=true then putE n.rs m else 0) else joinE n.ms [m]
def spE (n:Nd) (m:Mem):Int:=if sp1E n m=0 then (if m.name=n.name then rfE (sp1 n m) else 0) else sp1E n m
def spN (n:Nd) (m:Mem):Nd:=if m.name=n.name then rfN (sp1 n m) else sp1 n m
theorem mOf_at {ms:List Mem} {t:ByteArray} {p:Nat} (h:At ms t p true):mOf ms t=ms.getD p dm:=mOf_some (fst_some_of h)
theorem at_set {ms:List Mem} {t:ByteArray} {p:Nat} (h:At ms t p true) {x:Mem} (hx:x.name=t):At (ms.set p x) t p true:=by
 obtain ⟨h1,h2⟩:=h.is.1 rfl
 have hg:∀ j,(ms.set p x).getD j dm=if j=p then x else ms.getD j dm:=fun j=>by
  by_cases e:j=p
  ·subst e;simp [List.getD,h1]
  ·simp [List.getD,List.getElem?_set_ne (Ne.symm e),e]
 refine ⟨by rw [List.length_set];exact h.le,fun j hj=>?_,fun j hj hl=>?_,⟨fun _=>⟨by rw [List.length_set];exact h1,?_⟩,fun _=>rfl⟩⟩
 ·rw [hg j,if_neg (by omega)];exact h.lo j hj
 ·rw [hg j]
  split
  ·rw [hx,(cmpI_eq t t).2 rfl];omega
  ·rw [List.length_set] at hl;exact h.hi j hj hl
 ·rw [hg p,if_pos rfl,hx];exact (cmpI_eq t t).2 rfl
theorem mem_e0 (m:Mem):m.e=0↔labB m.name=true∧within m.state 1 4=true∧within m.life 1 1000000=true∧within m.addr 0 4294967295=true:=by
 unfold Mem.e oneE
 constructor
 ·intro h
  split at h
  ·rename_i h1
   split at h
   ·rename_i h2
    split at h
    ·rename_i h3
     split at h
     ·rename_i h4;exact ⟨h1,h2,h3,h4⟩
     ·cases h
    ·cases h
   ·cases h
  ·cases h
 ·rintro ⟨h1,h2,h3,h4⟩
  rw [if_pos h1,if_pos h2,if_pos h3,if_pos h4]
theorem within_iff {n a b:Int}:within n a b=true↔a≤n∧n≤b:=by unfold within;rw [Bool.and_eq_true,decide_eq_true_eq,decide_eq_true_eq]
theorem liveAgain_e {m:Mem} (h:m.e=0) (hl:m.life≠1000000):(liveAgain m).e=0:=by
 obtain ⟨h1,h2,h3,h4⟩:=(mem_e0 m).1 h
 rw [within_iff] at h3
 exact (mem_e0 _).2 ⟨h1,rfl,within_iff.2 ⟨by show (1:Int)≤m.life+1;omega,by show m.life+1≤1000000;omega⟩,h4⟩
theorem rf_facts {n:Nd} (h:chk n.ms=0) (hR:refR n.ms (rfP n) (rfF n)=true) :
 rfF n=true∧At n.ms n.name (rfP n) true∧rfL n=n.ms.set (rfP n) (liveAgain (n.ms.getD (rfP n) dm))∧rfM n=liveAgain (n.ms.getD (rfP n) dm)∧(rfM n).e=0∧(n.ms.getD (rfP n) dm).name=n.name∧rfP n < n.ms.length:=by
 have hr:=(chk_zero h).2.1
 have hat:At n.ms n.name (rfP n) (rfF n):=at_pos hr n.name
 have hR2:=hR
 unfold refR at hR
 rw [Bool.and_eq_true,Bool.and_eq_true] at hR
 obtain ⟨⟨h1,_⟩,h3⟩:=hR
 rw [h1] at hat
 obtain ⟨hp,hc⟩:=hat.is.1 rfl
 have hn:(n.ms.getD (rfP n) dm).name=n.name:=(cmpI_eq _ _).1 hc
 have hL:rfL n=n.ms.set (rfP n) (liveAgain (n.ms.getD (rfP n) dm)):=by unfold rfL refL;rw [if_pos hR2]
 have hM:rfM n=liveAgain (n.ms.getD (rfP n) dm):=by
  unfold rfM
  rw [hL,mOf_at (at_set hat (x:=liveAgain (n.ms.getD (rfP n) dm)) hn)]
  simp [List.getD,hp]
 have he:(n.ms.getD (rfP n) dm).e=0:=chk_e0 h _ (by rw [show n.ms.getD (rfP n) dm=n.ms[rfP n] by simp [List.getD,List.getElem?_eq_getElem hp]];exact List.getElem_mem _)
 exact ⟨h1,hat,hL,hM,by rw [hM];exact liveAgain_e he (by simpa using h3),hn,hp⟩
end Go.Proofs.YtffdoiokmiklgaaGreatDoor
namespace Go.Proofs.YtffdoiokmiklgaaGreatDoor
namespace Gw
open Go.RowKit
end Gw
namespace Gw
open Go.RowKit
end Gw
end Go.Proofs.YtffdoiokmiklgaaGreatDoor
