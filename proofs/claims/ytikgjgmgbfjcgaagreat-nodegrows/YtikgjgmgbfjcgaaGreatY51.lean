import Derived.Test.YtikgjgmgbfjcgaaGreatY37
import Derived.Test.YtikgjgmgbfjcgaaGreatY49
import Derived.Lib.QuietBelow
import Derived.Test.YtikgjgmgbfjcgaaGreatY50
namespace Go.Proofs.YtikgjgmgbfjcgaaGreat
open Go.RowKit
theorem check_is {w:World} {n:Nd} {A:Array Value} (h:IsNd w n A):Calls Tryz.prog 17 #[.agg A] w fun e w'=>e=.returned (.int .i64 n.e)∧Below w.heap.size w w':=by
 obtain ⟨_,_,_,_,_,rfl,h⟩:=h
 exact ncheck_any n _ _ _ _ _ w h
theorem Nd.Parts.smallP {n:Nd} (h:n.Parts):n.Small:=by
 have l1:=(chk_zero h.ms).1
 have l2:=(chkR_e0 h.rs).1
 have l3:=(Sv.chk_zero h.sv).1
 have l4:=(Gw.chk_zero h.gw).1
 have l5:=(Wh.chk_zero h.wh).1
 exact ⟨by omega,by omega,by omega,by omega,by omega⟩
theorem OpSays.one {ne er R:Int} {n':Nd} {w w':World} {e:Ending} (hR:R=if ne=0 then er else ne) (h:OpSays ne er n' w e w'):∃ A,e=.returned (.tuple #[.agg A,.int .i64 R])∧Res w' R n' A∧Below w.heap.size w w':=by
 rw [hR];exact h.res
theorem op_fine {ne er R:Int} {n n':Nd} (hR:R=if ne=0 then er else ne) (hf:ne=0→er=0→n'.e=0∧NotOlder n n') (h0:R=0):n'.e=0∧NotOlder n n'∧n'.Small∧n'.Parts:=by
 rw [hR] at h0
 split at h0
 ·rename_i h1
  obtain ⟨h2,h3⟩:=hf h1 h0
  have hp:=Nd.parts (Nd.e_zero h2).1
  exact ⟨h2,h3,hp.smallP,hp⟩
 ·rename_i h1;exact absurd h0 h1
set_option maxHeartbeats 51200000 in
set_option maxRecDepth 100000 in
theorem nodeGrows_walk (n:Nd) (A:Array Value) (p:Pk) (zm zs zg zw:Value) (t:ByteArray) (w:World) (h:IsNd w n A) (hx:PkIs w p zm zs zg zw) (hlen:p.whole=true∨p.sv.length+p.gw.length+p.wh.length≤4611686018427387904) (ht:t.size≤maxLen) :
 Calls Tryz.prog 10 #[.agg A,.agg #[.string p.frm,.bool p.whole,zm,zs,zg,zw],.string t] w fun e w'=>e=.returned (.bool true)∧Below w.heap.size w w':=by
 obtain ⟨R1,hR1⟩:∃ R1,R1=if n.e=0 then hrE n p else n.e:=⟨_,rfl⟩
 obtain ⟨R2,hR2⟩:∃ R2,R2=if n.e=0 then wsE n t 1 2 else n.e:=⟨_,rfl⟩
 obtain ⟨R3,hR3⟩:∃ R3,R3=if n.e=0 then lvE n else n.e:=⟨_,rfl⟩
 have hwo:∀ m∈p.wh,m.ok:=by
  obtain ⟨_,_,_,hs,_⟩:=hx.wh
  exact Wh.ns_mem hs
 have hok:=h.ok
 have HP1:Hid (∀ W,Below w.heap.size w W→Calls Tryz.prog 24 #[.agg A,.agg #[.string p.frm,.bool p.whole,zm,zs,zg,zw]] W fun e w'=>∃ A,e=.returned (.tuple #[.agg A,.int .i64 R1])∧Res w' R1 (hrN n p) A∧Below W.heap.size W w'):=fun W hW=>(hear_is (h.below hW) ⟨_,_,_,_,rfl,hx.below hW⟩ hlen).mono (fun _ _ hh=>hh.one hR1)
 have HP2:Hid (∀ W,Below w.heap.size w W→Calls Tryz.prog 26 #[.agg A,.string t] W fun e w'=>∃ A,e=.returned (.tuple #[.agg A,.int .i64 R2])∧Res w' R2 (wsN n t 2) A∧Below W.heap.size W w'):=fun W hW=>(doubt_is (h.below hW) t ht).mono (fun _ _ hh=>hh.one hR2)
 have HP3:Hid (∀ W,Below w.heap.size w W→Calls Tryz.prog 28 #[.agg A] W fun e w'=>∃ A,e=.returned (.tuple #[.agg A,.int .i64 R3])∧Res w' R3 (lvN n) A∧Below W.heap.size W w'):=fun W hW=>by
  obtain ⟨_,_,_,_,_,rfl,hi⟩:=h
  exact (Leave_any n _ _ _ _ _ W (hi.below hW)).mono (fun _ _ hh=>hh.one hR3)
 have HOK1:Hid (R1=0→(hrN n p).e=0∧NotOlder n (hrN n p)∧(hrN n p).Small∧(hrN n p).Parts):=op_fine hR1 (fun h1 h2=>⟨hr_e0 h1 hok.wh hwo h2,hr_not_older h1 h2⟩)
 have HOK2:Hid (R2=0→(wsN n t 2).e=0∧NotOlder n (wsN n t 2)∧(wsN n t 2).Small∧(wsN n t 2).Parts):=op_fine hR2 (fun h1 h2=>ws_fine h1 rfl h2)
 have HOK3:Hid (R3=0→(lvN n).e=0∧NotOlder n (lvN n)∧(lvN n).Small∧(lvN n).Parts):=op_fine hR3 (fun h1 h2=>lv_fine h1 h2)
 have HZE:Hid (R1=0∨R2=0∨R3=0→n.Small):=fun h=>by
  have h0:n.e=0:=by
   by_cases h0:n.e=0
   ·exact h0
   ·rw [if_neg h0] at hR1 hR2 hR3
    rcases h with h | h | h
    ·rw [← hR1];exact h
    ·rw [← hR2];exact h
    ·rw [← hR3];exact h
  exact (Nd.parts (Nd.e_zero h0).1).smallP
 have HIN:Hid (∀ W,Below w.heap.size w W→IsNd W n A):=fun W hW=>h.below hW
 obtain ⟨t0a,t1a,p2a,k2a,c2a,p3a,k3a,c3a,p4a,k4a,c4a,p5a,k5a,c5a,i6a,i7a,i8a,i9a,i10a,p11a,k11a,c11a,rfl⟩:=h.letters
 generalize hrN n p=N1 at *
 generalize wsN n t 2=N2 at *
 generalize lvN n=N3 at *
 obtain ⟨frm,whole,ms,sv,gw,wh⟩:=p
 obtain ⟨⟨pm,cm,rfl,_,_⟩,⟨ps,cs,rfl,_,_⟩,⟨pg,cg,rfl,_,_⟩,⟨ph,ch,rfl,_,_⟩,_,_⟩:=hx
 simp only [ndV] at HP1 HP2 HP3 HIN ⊢
 generalize ms.length=nm at *
 generalize sv.length=ns at *
 generalize gw.length=ng at *
 generalize wh.length=nh at *
 clear h hlen hwo hok ht hR1 hR2 hR3
 obtain ⟨W0,hW0⟩:∃ W0,W0=(w.alloc (.cells #[.string t0a,.string t1a,.slice p2a k2a c2a,.slice p3a k3a c3a,.slice p4a k4a c4a,.slice p5a k5a c5a,.int .i64 i6a,.int .i64 i7a,.int .i64 i8a,.int .i64 i9a,.int .i64 i10a,.slice p11a k11a c11a] 30)).alloc (.cells #[.string frm,.bool whole,.slice pm nm cm,.slice ps ns cs,.slice pg ng cg,.slice ph nh ch] 44):=⟨_,rfl⟩
 have HBX:Hid (∀ W,Below W0.heap.size W0 W→W.heap[w.heap.size]?=some (.cells #[.string t0a,.string t1a,.slice p2a k2a c2a,.slice p3a k3a c3a,.slice p4a k4a c4a,.slice p5a k5a c5a,.int .i64 i6a,.int .i64 i7a,.int .i64 i8a,.int .i64 i9a,.int .i64 i10a,.slice p11a k11a c11a] 30 (0,0))∧W.heap[w.heap.size+1]?=some (.cells #[.string frm,.bool whole,.slice pm nm cm,.slice ps ns cs,.slice pg ng cg,.slice ph nh ch] 44 (0,0))∧Below w.heap.size w W):=fun W hW=>by
  have hb0:Below w.heap.size w W0:=by rw [hW0];exact ((Below.refl _ _).alloc (Nat.le_refl _) _).alloc (by simp) _
  have hs:W0.heap.size=w.heap.size+2:=by rw [hW0];simp
  refine ⟨(hW.block _ (by omega)).trans ?_,(hW.block _ (by omega)).trans ?_,hb0.trans (hW.mono hb0.size)⟩
  ·rw [hW0,Below.heap_alloc _ _ _ (by simp)];exact heap_alloc_new w _
  ·have h:=heap_alloc_new (w.alloc (.cells #[.string t0a,.string t1a,.slice p2a k2a c2a,.slice p3a k3a c3a,.slice p4a k4a c4a,.slice p5a k5a c5a,.int .i64 i6a,.int .i64 i7a,.int .i64 i8a,.int .i64 i9a,.int .i64 i10a,.slice p11a k11a c11a] 30)) (.cells #[.string frm,.bool whole,.slice pm nm cm,.slice ps ns cs,.slice pg ng cg,.slice ph nh ch] 44)
   rw [hW0];simpa using h
 go_enter Tryz.func10,Tryz.ntmps10
 go_upto_region 1 with fail
 rw [← hW0]
 clear hW0
 go_wp2_with fail
 refine (nodeBegun_any W0).mono ?_
 rintro e V0 ⟨rfl,hv⟩
 have HLV0:Hid (Below W0.heap.size W0 V0):=hv
 clear hv
 obtain ⟨hg,hpk,hbel⟩:=HBX.out V0 HLV0.out
 obtain ⟨a0,a1,a2,a3,a4,a5,a6,a7,a8,a9,a10,a11⟩:=cells12 hg
 obtain ⟨p0,p1,p2,p3,p4,p5⟩:=cells6 hpk
 clear hg hpk
 go_wp2_with fail
 refine (HP1.out V0 hbel).mono ?_
 rintro e w1 ⟨A1,rfl,hR,hb⟩
 obtain ⟨t0x,t1x,p2x,k2x,c2x,p3x,k3x,c3x,p4x,k4x,c4x,p5x,k5x,c5x,i6x,i7x,i8x,i9x,i10x,p11x,k11x,c11x,rfl⟩:=hR.is.letters
 simp only [ndV] at hR ⊢
 obtain ⟨W1,hW1⟩:∃ W1,W1=w1.alloc (.cells #[.string t0x,.string t1x,.slice p2x k2x c2x,.slice p3x k3x c3x,.slice p4x k4x c4x,.slice p5x k5x c5x,.int .i64 i6x,.int .i64 i7x,.int .i64 i8x,.int .i64 i9x,.int .i64 i10x,.slice p11x k11x c11x] 30):=⟨_,rfl⟩
 have ha1:Below w1.heap.size w1 W1:=by rw [hW1];exact (Below.refl _ _).alloc (Nat.le_refl _) _
 have HG1:Hid (W1.heap[w1.heap.size]?=some (.cells #[.string t0x,.string t1x,.slice p2x k2x c2x,.slice p3x k3x c3x,.slice p4x k4x c4x,.slice p5x k5x c5x,.int .i64 i6x,.int .i64 i7x,.int .i64 i8x,.int .i64 i9x,.int .i64 i10x,.slice p11x k11x c11x] 30 (0,0))):=by rw [hW1];exact heap_alloc_new w1 _
 have hs1:W1.heap.size=w1.heap.size+1:=by rw [hW1];simp
 have HR1:Hid (Res W1 R1 N1 #[.string t0x,.string t1x,.slice p2x k2x c2x,.slice p3x k3x c3x,.slice p4x k4x c4x,.slice p5x k5x c5x,.int .i64 i6x,.int .i64 i7x,.int .i64 i8x,.int .i64 i9x,.int .i64 i10x,.slice p11x k11x c11x]):=hR.below ha1
 have HL1:Hid (Below W0.heap.size W0 W1):=HLV0.out.trans ((hb.trans (ha1.mono hb.size)).mono HLV0.out.size)
 clear a0 a1 a2 a3 a4 a5 a6 a7 a8 a9 a10 a11 p0 p1 p2 p3 p4 p5 hR hb ha1 hbel
 go_upto_region 4 with fail
 rw [← hW1]
 clear hW1
 by_cases hr:R1=0
 ·subst hr
  obtain ⟨hge,hno,hsm,hpt⟩:=HOK1.out rfl
  have HSN:=HZE.out (by simp)
  have hN:IsNd W1 N1 #[.string t0x,.string t1x,.slice p2x k2x c2x,.slice p3x k3x c3x,.slice p4x k4x c4x,.slice p5x k5x c5x,.int .i64 i6x,.int .i64 i7x,.int .i64 i8x,.int .i64 i9x,.int .i64 i10x,.slice p11x k11x c11x]:=by
   rcases HR1.out with ⟨h,_⟩ | ⟨_,h⟩
   ·exact absurd rfl h
   ·exact h
  have HO:Hid (∀ W,Below W1.heap.size W1 W→Calls Tryz.prog 39 #[.agg #[.string t0a,.string t1a,.slice p2a k2a c2a,.slice p3a k3a c3a,.slice p4a k4a c4a,.slice p5a k5a c5a,.int .i64 i6a,.int .i64 i7a,.int .i64 i8a,.int .i64 i9a,.int .i64 i10a,.slice p11a k11a c11a],.agg #[.string t0x,.string t1x,.slice p2x k2x c2x,.slice p3x k3x c3x,.slice p4x k4x c4x,.slice p5x k5x c5x,.int .i64 i6x,.int .i64 i7x,.int .i64 i8x,.int .i64 i9x,.int .i64 i10x,.slice p11x k11x c11x]] W fun e w'=>e=.returned (.bool false)∧Below W.heap.size W w'):=fun W hW=>older_any n N1 _ _ W (HIN.out W (HBX.out W (HL1.out.trans (hW.mono HL1.out.size))).2.2) (hN.below hW) hno HSN hsm hpt
  have HC:Hid (∀ W,Below W1.heap.size W1 W→Calls Tryz.prog 17 #[.agg #[.string t0x,.string t1x,.slice p2x k2x c2x,.slice p3x k3x c3x,.slice p4x k4x c4x,.slice p5x k5x c5x,.int .i64 i6x,.int .i64 i7x,.int .i64 i8x,.int .i64 i9x,.int .i64 i10x,.slice p11x k11x c11x]] W fun e w'=>e=.returned (.int .i64 0)∧Below W.heap.size W w'):=fun W hW=>by
   have h:=check_is (hN.below hW)
   rw [hge] at h
   exact h
  clear hge hno hsm hpt hN HSN
  obtain ⟨hg,_,_⟩:=HBX.out W1 HL1.out
  have hx:=HG1.out
  obtain ⟨a0,a1,a2,a3,a4,a5,a6,a7,a8,a9,a10,a11⟩:=cells12 hg
  obtain ⟨b0,b1,b2,b3,b4,b5,b6,b7,b8,b9,b10,b11⟩:=cells12 hx
  clear hg hx
  go_wp2_with fail
  refine (HO.out W1 (Below.refl _ _)).mono ?_
  rintro e v1 ⟨rfl,hv⟩
  have HV1:Hid (Below W1.heap.size W1 v1):=hv
  have hx:v1.heap[w1.heap.size]?=some (.cells #[.string t0x,.string t1x,.slice p2x k2x c2x,.slice p3x k3x c3x,.slice p4x k4x c4x,.slice p5x k5x c5x,.int .i64 i6x,.int .i64 i7x,.int .i64 i8x,.int .i64 i9x,.int .i64 i10x,.slice p11x k11x c11x] 30 (0,0)):=(hv.block _ (by omega)).trans HG1.out
  clear a0 a1 a2 a3 a4 a5 a6 a7 a8 a9 a10 a11 b0 b1 b2 b3 b4 b5 b6 b7 b8 b9 b10 b11 hv
  obtain ⟨b0,b1,b2,b3,b4,b5,b6,b7,b8,b9,b10,b11⟩:=cells12 hx
  clear hx
  go_wp2_with fail
  refine (HC.out v1 HV1.out).mono ?_
  rintro e V1 ⟨rfl,hv⟩
  have HLV1:Hid (Below W0.heap.size W0 V1):=HL1.out.trans ((HV1.out.trans (hv.mono HV1.out.size)).mono HL1.out.size)
  clear b0 b1 b2 b3 b4 b5 b6 b7 b8 b9 b10 b11 hv HV1 HO HC HG1 HR1 hs1 HL1
  obtain ⟨hg,hpk,hbel⟩:=HBX.out V1 HLV1.out
  obtain ⟨a0,a1,a2,a3,a4,a5,a6,a7,a8,a9,a10,a11⟩:=cells12 hg
  clear hg hpk
  go_wp2_with fail
  refine (HP2.out V1 hbel).mono ?_
  rintro e w2 ⟨A2,rfl,hR,hb⟩
  obtain ⟨t0y,t1y,p2y,k2y,c2y,p3y,k3y,c3y,p4y,k4y,c4y,p5y,k5y,c5y,i6y,i7y,i8y,i9y,i10y,p11y,k11y,c11y,rfl⟩:=hR.is.letters
  simp only [ndV] at hR ⊢
  obtain ⟨W2,hW2⟩:∃ W2,W2=w2.alloc (.cells #[.string t0y,.string t1y,.slice p2y k2y c2y,.slice p3y k3y c3y,.slice p4y k4y c4y,.slice p5y k5y c5y,.int .i64 i6y,.int .i64 i7y,.int .i64 i8y,.int .i64 i9y,.int .i64 i10y,.slice p11y k11y c11y] 30):=⟨_,rfl⟩
  have ha2:Below w2.heap.size w2 W2:=by rw [hW2];exact (Below.refl _ _).alloc (Nat.le_refl _) _
  have HG2:Hid (W2.heap[w2.heap.size]?=some (.cells #[.string t0y,.string t1y,.slice p2y k2y c2y,.slice p3y k3y c3y,.slice p4y k4y c4y,.slice p5y k5y c5y,.int .i64 i6y,.int .i64 i7y,.int .i64 i8y,.int .i64 i9y,.int .i64 i10y,.slice p11y k11y c11y] 30 (0,0))):=by rw [hW2];exact heap_alloc_new w2 _
  have hs2:W2.heap.size=w2.heap.size+1:=by rw [hW2];simp
  have HR2:Hid (Res W2 R2 N2 #[.string t0y,.string t1y,.slice p2y k2y c2y,.slice p3y k3y c3y,.slice p4y k4y c4y,.slice p5y k5y c5y,.int .i64 i6y,.int .i64 i7y,.int .i64 i8y,.int .i64 i9y,.int .i64 i10y,.slice p11y k11y c11y]):=hR.below ha2
  have HL2:Hid (Below W0.heap.size W0 W2):=HLV1.out.trans ((hb.trans (ha2.mono hb.size)).mono HLV1.out.size)
  clear a0 a1 a2 a3 a4 a5 a6 a7 a8 a9 a10 a11  hR hb ha2 hbel
  go_upto_region 7 with fail
  rw [← hW2]
  clear hW2
  by_cases hr:R2=0
  ·subst hr
   obtain ⟨hge,hno,hsm,hpt⟩:=HOK2.out rfl
   have HSN:=HZE.out (by simp)
   have hN:IsNd W2 N2 #[.string t0y,.string t1y,.slice p2y k2y c2y,.slice p3y k3y c3y,.slice p4y k4y c4y,.slice p5y k5y c5y,.int .i64 i6y,.int .i64 i7y,.int .i64 i8y,.int .i64 i9y,.int .i64 i10y,.slice p11y k11y c11y]:=by
    rcases HR2.out with ⟨h,_⟩ | ⟨_,h⟩
    ·exact absurd rfl h
    ·exact h
   have HO:Hid (∀ W,Below W2.heap.size W2 W→Calls Tryz.prog 39 #[.agg #[.string t0a,.string t1a,.slice p2a k2a c2a,.slice p3a k3a c3a,.slice p4a k4a c4a,.slice p5a k5a c5a,.int .i64 i6a,.int .i64 i7a,.int .i64 i8a,.int .i64 i9a,.int .i64 i10a,.slice p11a k11a c11a],.agg #[.string t0y,.string t1y,.slice p2y k2y c2y,.slice p3y k3y c3y,.slice p4y k4y c4y,.slice p5y k5y c5y,.int .i64 i6y,.int .i64 i7y,.int .i64 i8y,.int .i64 i9y,.int .i64 i10y,.slice p11y k11y c11y]] W fun e w'=>e=.returned (.bool false)∧Below W.heap.size W w'):=fun W hW=>older_any n N2 _ _ W (HIN.out W (HBX.out W (HL2.out.trans (hW.mono HL2.out.size))).2.2) (hN.below hW) hno HSN hsm hpt
   have HC:Hid (∀ W,Below W2.heap.size W2 W→Calls Tryz.prog 17 #[.agg #[.string t0y,.string t1y,.slice p2y k2y c2y,.slice p3y k3y c3y,.slice p4y k4y c4y,.slice p5y k5y c5y,.int .i64 i6y,.int .i64 i7y,.int .i64 i8y,.int .i64 i9y,.int .i64 i10y,.slice p11y k11y c11y]] W fun e w'=>e=.returned (.int .i64 0)∧Below W.heap.size W w'):=fun W hW=>by
    have h:=check_is (hN.below hW)
    rw [hge] at h
    exact h
   clear hge hno hsm hpt hN HSN
   obtain ⟨hg,_,_⟩:=HBX.out W2 HL2.out
   have hx:=HG2.out
   obtain ⟨a0,a1,a2,a3,a4,a5,a6,a7,a8,a9,a10,a11⟩:=cells12 hg
   obtain ⟨b0,b1,b2,b3,b4,b5,b6,b7,b8,b9,b10,b11⟩:=cells12 hx
   clear hg hx
   go_wp2_with fail
   refine (HO.out W2 (Below.refl _ _)).mono ?_
   rintro e v1 ⟨rfl,hv⟩
   have HV1:Hid (Below W2.heap.size W2 v1):=hv
   have hx:v1.heap[w2.heap.size]?=some (.cells #[.string t0y,.string t1y,.slice p2y k2y c2y,.slice p3y k3y c3y,.slice p4y k4y c4y,.slice p5y k5y c5y,.int .i64 i6y,.int .i64 i7y,.int .i64 i8y,.int .i64 i9y,.int .i64 i10y,.slice p11y k11y c11y] 30 (0,0)):=(hv.block _ (by omega)).trans HG2.out
   clear a0 a1 a2 a3 a4 a5 a6 a7 a8 a9 a10 a11 b0 b1 b2 b3 b4 b5 b6 b7 b8 b9 b10 b11 hv
   obtain ⟨b0,b1,b2,b3,b4,b5,b6,b7,b8,b9,b10,b11⟩:=cells12 hx
   clear hx
   go_wp2_with fail
   refine (HC.out v1 HV1.out).mono ?_
   rintro e V2 ⟨rfl,hv⟩
   have HLV2:Hid (Below W0.heap.size W0 V2):=HL2.out.trans ((HV1.out.trans (hv.mono HV1.out.size)).mono HL2.out.size)
   clear b0 b1 b2 b3 b4 b5 b6 b7 b8 b9 b10 b11 hv HV1 HO HC HG2 HR2 hs2 HL2
   obtain ⟨hg,hpk,hbel⟩:=HBX.out V2 HLV2.out
   obtain ⟨a0,a1,a2,a3,a4,a5,a6,a7,a8,a9,a10,a11⟩:=cells12 hg
   clear hg hpk
   go_wp2_with fail
   refine (HP3.out V2 hbel).mono ?_
   rintro e w3 ⟨A3,rfl,hR,hb⟩
   obtain ⟨t0z,t1z,p2z,k2z,c2z,p3z,k3z,c3z,p4z,k4z,c4z,p5z,k5z,c5z,i6z,i7z,i8z,i9z,i10z,p11z,k11z,c11z,rfl⟩:=hR.is.letters
   simp only [ndV] at hR ⊢
   obtain ⟨W3,hW3⟩:∃ W3,W3=w3.alloc (.cells #[.string t0z,.string t1z,.slice p2z k2z c2z,.slice p3z k3z c3z,.slice p4z k4z c4z,.slice p5z k5z c5z,.int .i64 i6z,.int .i64 i7z,.int .i64 i8z,.int .i64 i9z,.int .i64 i10z,.slice p11z k11z c11z] 30):=⟨_,rfl⟩
   have ha3:Below w3.heap.size w3 W3:=by rw [hW3];exact (Below.refl _ _).alloc (Nat.le_refl _) _
   have HG3:Hid (W3.heap[w3.heap.size]?=some (.cells #[.string t0z,.string t1z,.slice p2z k2z c2z,.slice p3z k3z c3z,.slice p4z k4z c4z,.slice p5z k5z c5z,.int .i64 i6z,.int .i64 i7z,.int .i64 i8z,.int .i64 i9z,.int .i64 i10z,.slice p11z k11z c11z] 30 (0,0))):=by rw [hW3];exact heap_alloc_new w3 _
   have hs3:W3.heap.size=w3.heap.size+1:=by rw [hW3];simp
   have HR3:Hid (Res W3 R3 N3 #[.string t0z,.string t1z,.slice p2z k2z c2z,.slice p3z k3z c3z,.slice p4z k4z c4z,.slice p5z k5z c5z,.int .i64 i6z,.int .i64 i7z,.int .i64 i8z,.int .i64 i9z,.int .i64 i10z,.slice p11z k11z c11z]):=hR.below ha3
   have HL3:Hid (Below W0.heap.size W0 W3):=HLV2.out.trans ((hb.trans (ha3.mono hb.size)).mono HLV2.out.size)
   clear a0 a1 a2 a3 a4 a5 a6 a7 a8 a9 a10 a11  hR hb ha3 hbel
   go_upto_region 10 with fail
   rw [← hW3]
   clear hW3
   by_cases hr:R3=0
   ·subst hr
    obtain ⟨hge,hno,hsm,hpt⟩:=HOK3.out rfl
    have HSN:=HZE.out (by simp)
    have hN:IsNd W3 N3 #[.string t0z,.string t1z,.slice p2z k2z c2z,.slice p3z k3z c3z,.slice p4z k4z c4z,.slice p5z k5z c5z,.int .i64 i6z,.int .i64 i7z,.int .i64 i8z,.int .i64 i9z,.int .i64 i10z,.slice p11z k11z c11z]:=by
     rcases HR3.out with ⟨h,_⟩ | ⟨_,h⟩
     ·exact absurd rfl h
     ·exact h
    have HO:Hid (∀ W,Below W3.heap.size W3 W→Calls Tryz.prog 39 #[.agg #[.string t0a,.string t1a,.slice p2a k2a c2a,.slice p3a k3a c3a,.slice p4a k4a c4a,.slice p5a k5a c5a,.int .i64 i6a,.int .i64 i7a,.int .i64 i8a,.int .i64 i9a,.int .i64 i10a,.slice p11a k11a c11a],.agg #[.string t0z,.string t1z,.slice p2z k2z c2z,.slice p3z k3z c3z,.slice p4z k4z c4z,.slice p5z k5z c5z,.int .i64 i6z,.int .i64 i7z,.int .i64 i8z,.int .i64 i9z,.int .i64 i10z,.slice p11z k11z c11z]] W fun e w'=>e=.returned (.bool false)∧Below W.heap.size W w'):=fun W hW=>older_any n N3 _ _ W (HIN.out W (HBX.out W (HL3.out.trans (hW.mono HL3.out.size))).2.2) (hN.below hW) hno HSN hsm hpt
    have HC:Hid (∀ W,Below W3.heap.size W3 W→Calls Tryz.prog 17 #[.agg #[.string t0z,.string t1z,.slice p2z k2z c2z,.slice p3z k3z c3z,.slice p4z k4z c4z,.slice p5z k5z c5z,.int .i64 i6z,.int .i64 i7z,.int .i64 i8z,.int .i64 i9z,.int .i64 i10z,.slice p11z k11z c11z]] W fun e w'=>e=.returned (.int .i64 0)∧Below W.heap.size W w'):=fun W hW=>by
     have h:=check_is (hN.below hW)
     rw [hge] at h
     exact h
    clear hge hno hsm hpt hN HSN
    obtain ⟨hg,_,_⟩:=HBX.out W3 HL3.out
    have hx:=HG3.out
    obtain ⟨a0,a1,a2,a3,a4,a5,a6,a7,a8,a9,a10,a11⟩:=cells12 hg
    obtain ⟨b0,b1,b2,b3,b4,b5,b6,b7,b8,b9,b10,b11⟩:=cells12 hx
    clear hg hx
    go_wp2_with fail
    refine (HO.out W3 (Below.refl _ _)).mono ?_
    rintro e v1 ⟨rfl,hv⟩
    have HV1:Hid (Below W3.heap.size W3 v1):=hv
    have hx:v1.heap[w3.heap.size]?=some (.cells #[.string t0z,.string t1z,.slice p2z k2z c2z,.slice p3z k3z c3z,.slice p4z k4z c4z,.slice p5z k5z c5z,.int .i64 i6z,.int .i64 i7z,.int .i64 i8z,.int .i64 i9z,.int .i64 i10z,.slice p11z k11z c11z] 30 (0,0)):=(hv.block _ (by omega)).trans HG3.out
    clear a0 a1 a2 a3 a4 a5 a6 a7 a8 a9 a10 a11 b0 b1 b2 b3 b4 b5 b6 b7 b8 b9 b10 b11 hv
    obtain ⟨b0,b1,b2,b3,b4,b5,b6,b7,b8,b9,b10,b11⟩:=cells12 hx
    clear hx
    go_wp2_with fail
    refine (HC.out v1 HV1.out).mono ?_
    rintro e V3 ⟨rfl,hv⟩
    have HLV3:Hid (Below W0.heap.size W0 V3):=HL3.out.trans ((HV1.out.trans (hv.mono HV1.out.size)).mono HL3.out.size)
    clear b0 b1 b2 b3 b4 b5 b6 b7 b8 b9 b10 b11 hv HV1 HO HC HG3 HR3 hs3 HL3
    go_wp2_with fail
    go_ret
    exact ⟨rfl,(HBX.out V3 HLV3.out).2.2⟩
   ·have hr1:(R3 != 0)=true:=by simpa using hr
    clear hr
    go_wp2_with fail
    go_ret
    exact ⟨rfl,(HBX.out W3 HL3.out).2.2⟩
  ·have hr1:(R2 == 0)=false:=by simpa using hr
   clear hr HG2 HR2 hs2
   obtain ⟨hg,hpk,hbel⟩:=HBX.out W2 HL2.out
   obtain ⟨a0,a1,a2,a3,a4,a5,a6,a7,a8,a9,a10,a11⟩:=cells12 hg
   clear hg hpk
   go_wp2_with fail
   refine (HP3.out W2 hbel).mono ?_
   rintro e w3 ⟨A3,rfl,hR,hb⟩
   obtain ⟨t0z,t1z,p2z,k2z,c2z,p3z,k3z,c3z,p4z,k4z,c4z,p5z,k5z,c5z,i6z,i7z,i8z,i9z,i10z,p11z,k11z,c11z,rfl⟩:=hR.is.letters
   simp only [ndV] at hR ⊢
   obtain ⟨W3,hW3⟩:∃ W3,W3=w3.alloc (.cells #[.string t0z,.string t1z,.slice p2z k2z c2z,.slice p3z k3z c3z,.slice p4z k4z c4z,.slice p5z k5z c5z,.int .i64 i6z,.int .i64 i7z,.int .i64 i8z,.int .i64 i9z,.int .i64 i10z,.slice p11z k11z c11z] 30):=⟨_,rfl⟩
   have ha3:Below w3.heap.size w3 W3:=by rw [hW3];exact (Below.refl _ _).alloc (Nat.le_refl _) _
   have HG3:Hid (W3.heap[w3.heap.size]?=some (.cells #[.string t0z,.string t1z,.slice p2z k2z c2z,.slice p3z k3z c3z,.slice p4z k4z c4z,.slice p5z k5z c5z,.int .i64 i6z,.int .i64 i7z,.int .i64 i8z,.int .i64 i9z,.int .i64 i10z,.slice p11z k11z c11z] 30 (0,0))):=by rw [hW3];exact heap_alloc_new w3 _
   have hs3:W3.heap.size=w3.heap.size+1:=by rw [hW3];simp
   have HR3:Hid (Res W3 R3 N3 #[.string t0z,.string t1z,.slice p2z k2z c2z,.slice p3z k3z c3z,.slice p4z k4z c4z,.slice p5z k5z c5z,.int .i64 i6z,.int .i64 i7z,.int .i64 i8z,.int .i64 i9z,.int .i64 i10z,.slice p11z k11z c11z]):=hR.below ha3
   have HL3:Hid (Below W0.heap.size W0 W3):=HL2.out.trans ((hb.trans (ha3.mono hb.size)).mono HL2.out.size)
   clear a0 a1 a2 a3 a4 a5 a6 a7 a8 a9 a10 a11  hR hb ha3 hbel
   go_upto_region 10 with fail
   rw [← hW3]
   clear hW3
   by_cases hr:R3=0
   ·subst hr
    obtain ⟨hge,hno,hsm,hpt⟩:=HOK3.out rfl
    have HSN:=HZE.out (by simp)
    have hN:IsNd W3 N3 #[.string t0z,.string t1z,.slice p2z k2z c2z,.slice p3z k3z c3z,.slice p4z k4z c4z,.slice p5z k5z c5z,.int .i64 i6z,.int .i64 i7z,.int .i64 i8z,.int .i64 i9z,.int .i64 i10z,.slice p11z k11z c11z]:=by
     rcases HR3.out with ⟨h,_⟩ | ⟨_,h⟩
     ·exact absurd rfl h
     ·exact h
    have HO:Hid (∀ W,Below W3.heap.size W3 W→Calls Tryz.prog 39 #[.agg #[.string t0a,.string t1a,.slice p2a k2a c2a,.slice p3a k3a c3a,.slice p4a k4a c4a,.slice p5a k5a c5a,.int .i64 i6a,.int .i64 i7a,.int .i64 i8a,.int .i64 i9a,.int .i64 i10a,.slice p11a k11a c11a],.agg #[.string t0z,.string t1z,.slice p2z k2z c2z,.slice p3z k3z c3z,.slice p4z k4z c4z,.slice p5z k5z c5z,.int .i64 i6z,.int .i64 i7z,.int .i64 i8z,.int .i64 i9z,.int .i64 i10z,.slice p11z k11z c11z]] W fun e w'=>e=.returned (.bool false)∧Below W.heap.size W w'):=fun W hW=>older_any n N3 _ _ W (HIN.out W (HBX.out W (HL3.out.trans (hW.mono HL3.out.size))).2.2) (hN.below hW) hno HSN hsm hpt
    have HC:Hid (∀ W,Below W3.heap.size W3 W→Calls Tryz.prog 17 #[.agg #[.string t0z,.string t1z,.slice p2z k2z c2z,.slice p3z k3z c3z,.slice p4z k4z c4z,.slice p5z k5z c5z,.int .i64 i6z,.int .i64 i7z,.int .i64 i8z,.int .i64 i9z,.int .i64 i10z,.slice p11z k11z c11z]] W fun e w'=>e=.returned (.int .i64 0)∧Below W.heap.size W w'):=fun W hW=>by
     have h:=check_is (hN.below hW)
     rw [hge] at h
     exact h
    clear hge hno hsm hpt hN HSN
    obtain ⟨hg,_,_⟩:=HBX.out W3 HL3.out
    have hx:=HG3.out
    obtain ⟨a0,a1,a2,a3,a4,a5,a6,a7,a8,a9,a10,a11⟩:=cells12 hg
    obtain ⟨b0,b1,b2,b3,b4,b5,b6,b7,b8,b9,b10,b11⟩:=cells12 hx
    clear hg hx
    go_wp2_with fail
    refine (HO.out W3 (Below.refl _ _)).mono ?_
    rintro e v1 ⟨rfl,hv⟩
    have HV1:Hid (Below W3.heap.size W3 v1):=hv
    have hx:v1.heap[w3.heap.size]?=some (.cells #[.string t0z,.string t1z,.slice p2z k2z c2z,.slice p3z k3z c3z,.slice p4z k4z c4z,.slice p5z k5z c5z,.int .i64 i6z,.int .i64 i7z,.int .i64 i8z,.int .i64 i9z,.int .i64 i10z,.slice p11z k11z c11z] 30 (0,0)):=(hv.block _ (by omega)).trans HG3.out
    clear a0 a1 a2 a3 a4 a5 a6 a7 a8 a9 a10 a11 b0 b1 b2 b3 b4 b5 b6 b7 b8 b9 b10 b11 hv
    obtain ⟨b0,b1,b2,b3,b4,b5,b6,b7,b8,b9,b10,b11⟩:=cells12 hx
    clear hx
    go_wp2_with fail
    refine (HC.out v1 HV1.out).mono ?_
    rintro e V3 ⟨rfl,hv⟩
    have HLV3:Hid (Below W0.heap.size W0 V3):=HL3.out.trans ((HV1.out.trans (hv.mono HV1.out.size)).mono HL3.out.size)
    clear b0 b1 b2 b3 b4 b5 b6 b7 b8 b9 b10 b11 hv HV1 HO HC HG3 HR3 hs3 HL3
    go_wp2_with fail
    go_ret
    exact ⟨rfl,(HBX.out V3 HLV3.out).2.2⟩
   ·have hr1:(R3 != 0)=true:=by simpa using hr
    clear hr
    go_wp2_with fail
    go_ret
    exact ⟨rfl,(HBX.out W3 HL3.out).2.2⟩
 ·have hr1:(R1 == 0)=false:=by simpa using hr
  clear hr HG1 HR1 hs1
  obtain ⟨hg,hpk,hbel⟩:=HBX.out W1 HL1.out
  obtain ⟨a0,a1,a2,a3,a4,a5,a6,a7,a8,a9,a10,a11⟩:=cells12 hg
  clear hg hpk
  go_wp2_with fail
  refine (HP2.out W1 hbel).mono ?_
  rintro e w2 ⟨A2,rfl,hR,hb⟩
  obtain ⟨t0y,t1y,p2y,k2y,c2y,p3y,k3y,c3y,p4y,k4y,c4y,p5y,k5y,c5y,i6y,i7y,i8y,i9y,i10y,p11y,k11y,c11y,rfl⟩:=hR.is.letters
  simp only [ndV] at hR ⊢
  obtain ⟨W2,hW2⟩:∃ W2,W2=w2.alloc (.cells #[.string t0y,.string t1y,.slice p2y k2y c2y,.slice p3y k3y c3y,.slice p4y k4y c4y,.slice p5y k5y c5y,.int .i64 i6y,.int .i64 i7y,.int .i64 i8y,.int .i64 i9y,.int .i64 i10y,.slice p11y k11y c11y] 30):=⟨_,rfl⟩
  have ha2:Below w2.heap.size w2 W2:=by rw [hW2];exact (Below.refl _ _).alloc (Nat.le_refl _) _
  have HG2:Hid (W2.heap[w2.heap.size]?=some (.cells #[.string t0y,.string t1y,.slice p2y k2y c2y,.slice p3y k3y c3y,.slice p4y k4y c4y,.slice p5y k5y c5y,.int .i64 i6y,.int .i64 i7y,.int .i64 i8y,.int .i64 i9y,.int .i64 i10y,.slice p11y k11y c11y] 30 (0,0))):=by rw [hW2];exact heap_alloc_new w2 _
  have hs2:W2.heap.size=w2.heap.size+1:=by rw [hW2];simp
  have HR2:Hid (Res W2 R2 N2 #[.string t0y,.string t1y,.slice p2y k2y c2y,.slice p3y k3y c3y,.slice p4y k4y c4y,.slice p5y k5y c5y,.int .i64 i6y,.int .i64 i7y,.int .i64 i8y,.int .i64 i9y,.int .i64 i10y,.slice p11y k11y c11y]):=hR.below ha2
  have HL2:Hid (Below W0.heap.size W0 W2):=HL1.out.trans ((hb.trans (ha2.mono hb.size)).mono HL1.out.size)
  clear a0 a1 a2 a3 a4 a5 a6 a7 a8 a9 a10 a11  hR hb ha2 hbel
  go_upto_region 7 with fail
  rw [← hW2]
  clear hW2
  by_cases hr:R2=0
  ·subst hr
   obtain ⟨hge,hno,hsm,hpt⟩:=HOK2.out rfl
   have HSN:=HZE.out (by simp)
   have hN:IsNd W2 N2 #[.string t0y,.string t1y,.slice p2y k2y c2y,.slice p3y k3y c3y,.slice p4y k4y c4y,.slice p5y k5y c5y,.int .i64 i6y,.int .i64 i7y,.int .i64 i8y,.int .i64 i9y,.int .i64 i10y,.slice p11y k11y c11y]:=by
    rcases HR2.out with ⟨h,_⟩ | ⟨_,h⟩
    ·exact absurd rfl h
    ·exact h
   have HO:Hid (∀ W,Below W2.heap.size W2 W→Calls Tryz.prog 39 #[.agg #[.string t0a,.string t1a,.slice p2a k2a c2a,.slice p3a k3a c3a,.slice p4a k4a c4a,.slice p5a k5a c5a,.int .i64 i6a,.int .i64 i7a,.int .i64 i8a,.int .i64 i9a,.int .i64 i10a,.slice p11a k11a c11a],.agg #[.string t0y,.string t1y,.slice p2y k2y c2y,.slice p3y k3y c3y,.slice p4y k4y c4y,.slice p5y k5y c5y,.int .i64 i6y,.int .i64 i7y,.int .i64 i8y,.int .i64 i9y,.int .i64 i10y,.slice p11y k11y c11y]] W fun e w'=>e=.returned (.bool false)∧Below W.heap.size W w'):=fun W hW=>older_any n N2 _ _ W (HIN.out W (HBX.out W (HL2.out.trans (hW.mono HL2.out.size))).2.2) (hN.below hW) hno HSN hsm hpt
   have HC:Hid (∀ W,Below W2.heap.size W2 W→Calls Tryz.prog 17 #[.agg #[.string t0y,.string t1y,.slice p2y k2y c2y,.slice p3y k3y c3y,.slice p4y k4y c4y,.slice p5y k5y c5y,.int .i64 i6y,.int .i64 i7y,.int .i64 i8y,.int .i64 i9y,.int .i64 i10y,.slice p11y k11y c11y]] W fun e w'=>e=.returned (.int .i64 0)∧Below W.heap.size W w'):=fun W hW=>by
    have h:=check_is (hN.below hW)
    rw [hge] at h
    exact h
   clear hge hno hsm hpt hN HSN
   obtain ⟨hg,_,_⟩:=HBX.out W2 HL2.out
   have hx:=HG2.out
   obtain ⟨a0,a1,a2,a3,a4,a5,a6,a7,a8,a9,a10,a11⟩:=cells12 hg
   obtain ⟨b0,b1,b2,b3,b4,b5,b6,b7,b8,b9,b10,b11⟩:=cells12 hx
   clear hg hx
   go_wp2_with fail
   refine (HO.out W2 (Below.refl _ _)).mono ?_
   rintro e v1 ⟨rfl,hv⟩
   have HV1:Hid (Below W2.heap.size W2 v1):=hv
   have hx:v1.heap[w2.heap.size]?=some (.cells #[.string t0y,.string t1y,.slice p2y k2y c2y,.slice p3y k3y c3y,.slice p4y k4y c4y,.slice p5y k5y c5y,.int .i64 i6y,.int .i64 i7y,.int .i64 i8y,.int .i64 i9y,.int .i64 i10y,.slice p11y k11y c11y] 30 (0,0)):=(hv.block _ (by omega)).trans HG2.out
   clear a0 a1 a2 a3 a4 a5 a6 a7 a8 a9 a10 a11 b0 b1 b2 b3 b4 b5 b6 b7 b8 b9 b10 b11 hv
   obtain ⟨b0,b1,b2,b3,b4,b5,b6,b7,b8,b9,b10,b11⟩:=cells12 hx
   clear hx
   go_wp2_with fail
   refine (HC.out v1 HV1.out).mono ?_
   rintro e V2 ⟨rfl,hv⟩
   have HLV2:Hid (Below W0.heap.size W0 V2):=HL2.out.trans ((HV1.out.trans (hv.mono HV1.out.size)).mono HL2.out.size)
   clear b0 b1 b2 b3 b4 b5 b6 b7 b8 b9 b10 b11 hv HV1 HO HC HG2 HR2 hs2 HL2
   obtain ⟨hg,hpk,hbel⟩:=HBX.out V2 HLV2.out
   obtain ⟨a0,a1,a2,a3,a4,a5,a6,a7,a8,a9,a10,a11⟩:=cells12 hg
   clear hg hpk
   go_wp2_with fail
   refine (HP3.out V2 hbel).mono ?_
   rintro e w3 ⟨A3,rfl,hR,hb⟩
   obtain ⟨t0z,t1z,p2z,k2z,c2z,p3z,k3z,c3z,p4z,k4z,c4z,p5z,k5z,c5z,i6z,i7z,i8z,i9z,i10z,p11z,k11z,c11z,rfl⟩:=hR.is.letters
   simp only [ndV] at hR ⊢
   obtain ⟨W3,hW3⟩:∃ W3,W3=w3.alloc (.cells #[.string t0z,.string t1z,.slice p2z k2z c2z,.slice p3z k3z c3z,.slice p4z k4z c4z,.slice p5z k5z c5z,.int .i64 i6z,.int .i64 i7z,.int .i64 i8z,.int .i64 i9z,.int .i64 i10z,.slice p11z k11z c11z] 30):=⟨_,rfl⟩
   have ha3:Below w3.heap.size w3 W3:=by rw [hW3];exact (Below.refl _ _).alloc (Nat.le_refl _) _
   have HG3:Hid (W3.heap[w3.heap.size]?=some (.cells #[.string t0z,.string t1z,.slice p2z k2z c2z,.slice p3z k3z c3z,.slice p4z k4z c4z,.slice p5z k5z c5z,.int .i64 i6z,.int .i64 i7z,.int .i64 i8z,.int .i64 i9z,.int .i64 i10z,.slice p11z k11z c11z] 30 (0,0))):=by rw [hW3];exact heap_alloc_new w3 _
   have hs3:W3.heap.size=w3.heap.size+1:=by rw [hW3];simp
   have HR3:Hid (Res W3 R3 N3 #[.string t0z,.string t1z,.slice p2z k2z c2z,.slice p3z k3z c3z,.slice p4z k4z c4z,.slice p5z k5z c5z,.int .i64 i6z,.int .i64 i7z,.int .i64 i8z,.int .i64 i9z,.int .i64 i10z,.slice p11z k11z c11z]):=hR.below ha3
   have HL3:Hid (Below W0.heap.size W0 W3):=HLV2.out.trans ((hb.trans (ha3.mono hb.size)).mono HLV2.out.size)
   clear a0 a1 a2 a3 a4 a5 a6 a7 a8 a9 a10 a11  hR hb ha3 hbel
   go_upto_region 10 with fail
   rw [← hW3]
   clear hW3
   by_cases hr:R3=0
   ·subst hr
    obtain ⟨hge,hno,hsm,hpt⟩:=HOK3.out rfl
    have HSN:=HZE.out (by simp)
    have hN:IsNd W3 N3 #[.string t0z,.string t1z,.slice p2z k2z c2z,.slice p3z k3z c3z,.slice p4z k4z c4z,.slice p5z k5z c5z,.int .i64 i6z,.int .i64 i7z,.int .i64 i8z,.int .i64 i9z,.int .i64 i10z,.slice p11z k11z c11z]:=by
     rcases HR3.out with ⟨h,_⟩ | ⟨_,h⟩
     ·exact absurd rfl h
     ·exact h
    have HO:Hid (∀ W,Below W3.heap.size W3 W→Calls Tryz.prog 39 #[.agg #[.string t0a,.string t1a,.slice p2a k2a c2a,.slice p3a k3a c3a,.slice p4a k4a c4a,.slice p5a k5a c5a,.int .i64 i6a,.int .i64 i7a,.int .i64 i8a,.int .i64 i9a,.int .i64 i10a,.slice p11a k11a c11a],.agg #[.string t0z,.string t1z,.slice p2z k2z c2z,.slice p3z k3z c3z,.slice p4z k4z c4z,.slice p5z k5z c5z,.int .i64 i6z,.int .i64 i7z,.int .i64 i8z,.int .i64 i9z,.int .i64 i10z,.slice p11z k11z c11z]] W fun e w'=>e=.returned (.bool false)∧Below W.heap.size W w'):=fun W hW=>older_any n N3 _ _ W (HIN.out W (HBX.out W (HL3.out.trans (hW.mono HL3.out.size))).2.2) (hN.below hW) hno HSN hsm hpt
    have HC:Hid (∀ W,Below W3.heap.size W3 W→Calls Tryz.prog 17 #[.agg #[.string t0z,.string t1z,.slice p2z k2z c2z,.slice p3z k3z c3z,.slice p4z k4z c4z,.slice p5z k5z c5z,.int .i64 i6z,.int .i64 i7z,.int .i64 i8z,.int .i64 i9z,.int .i64 i10z,.slice p11z k11z c11z]] W fun e w'=>e=.returned (.int .i64 0)∧Below W.heap.size W w'):=fun W hW=>by
     have h:=check_is (hN.below hW)
     rw [hge] at h
     exact h
    clear hge hno hsm hpt hN HSN
    obtain ⟨hg,_,_⟩:=HBX.out W3 HL3.out
    have hx:=HG3.out
    obtain ⟨a0,a1,a2,a3,a4,a5,a6,a7,a8,a9,a10,a11⟩:=cells12 hg
    obtain ⟨b0,b1,b2,b3,b4,b5,b6,b7,b8,b9,b10,b11⟩:=cells12 hx
    clear hg hx
    go_wp2_with fail
    refine (HO.out W3 (Below.refl _ _)).mono ?_
    rintro e v1 ⟨rfl,hv⟩
    have HV1:Hid (Below W3.heap.size W3 v1):=hv
    have hx:v1.heap[w3.heap.size]?=some (.cells #[.string t0z,.string t1z,.slice p2z k2z c2z,.slice p3z k3z c3z,.slice p4z k4z c4z,.slice p5z k5z c5z,.int .i64 i6z,.int .i64 i7z,.int .i64 i8z,.int .i64 i9z,.int .i64 i10z,.slice p11z k11z c11z] 30 (0,0)):=(hv.block _ (by omega)).trans HG3.out
    clear a0 a1 a2 a3 a4 a5 a6 a7 a8 a9 a10 a11 b0 b1 b2 b3 b4 b5 b6 b7 b8 b9 b10 b11 hv
    obtain ⟨b0,b1,b2,b3,b4,b5,b6,b7,b8,b9,b10,b11⟩:=cells12 hx
    clear hx
    go_wp2_with fail
    refine (HC.out v1 HV1.out).mono ?_
    rintro e V3 ⟨rfl,hv⟩
    have HLV3:Hid (Below W0.heap.size W0 V3):=HL3.out.trans ((HV1.out.trans (hv.mono HV1.out.size)).mono HL3.out.size)
    clear b0 b1 b2 b3 b4 b5 b6 b7 b8 b9 b10 b11 hv HV1 HO HC HG3 HR3 hs3 HL3
    go_wp2_with fail
    go_ret
    exact ⟨rfl,(HBX.out V3 HLV3.out).2.2⟩
   ·have hr1:(R3 != 0)=true:=by simpa using hr
    clear hr
    go_wp2_with fail
    go_ret
    exact ⟨rfl,(HBX.out W3 HL3.out).2.2⟩
  ·have hr1:(R2 == 0)=false:=by simpa using hr
   clear hr HG2 HR2 hs2
   obtain ⟨hg,hpk,hbel⟩:=HBX.out W2 HL2.out
   obtain ⟨a0,a1,a2,a3,a4,a5,a6,a7,a8,a9,a10,a11⟩:=cells12 hg
   clear hg hpk
   go_wp2_with fail
   refine (HP3.out W2 hbel).mono ?_
   rintro e w3 ⟨A3,rfl,hR,hb⟩
   obtain ⟨t0z,t1z,p2z,k2z,c2z,p3z,k3z,c3z,p4z,k4z,c4z,p5z,k5z,c5z,i6z,i7z,i8z,i9z,i10z,p11z,k11z,c11z,rfl⟩:=hR.is.letters
   simp only [ndV] at hR ⊢
   obtain ⟨W3,hW3⟩:∃ W3,W3=w3.alloc (.cells #[.string t0z,.string t1z,.slice p2z k2z c2z,.slice p3z k3z c3z,.slice p4z k4z c4z,.slice p5z k5z c5z,.int .i64 i6z,.int .i64 i7z,.int .i64 i8z,.int .i64 i9z,.int .i64 i10z,.slice p11z k11z c11z] 30):=⟨_,rfl⟩
   have ha3:Below w3.heap.size w3 W3:=by rw [hW3];exact (Below.refl _ _).alloc (Nat.le_refl _) _
   have HG3:Hid (W3.heap[w3.heap.size]?=some (.cells #[.string t0z,.string t1z,.slice p2z k2z c2z,.slice p3z k3z c3z,.slice p4z k4z c4z,.slice p5z k5z c5z,.int .i64 i6z,.int .i64 i7z,.int .i64 i8z,.int .i64 i9z,.int .i64 i10z,.slice p11z k11z c11z] 30 (0,0))):=by rw [hW3];exact heap_alloc_new w3 _
   have hs3:W3.heap.size=w3.heap.size+1:=by rw [hW3];simp
   have HR3:Hid (Res W3 R3 N3 #[.string t0z,.string t1z,.slice p2z k2z c2z,.slice p3z k3z c3z,.slice p4z k4z c4z,.slice p5z k5z c5z,.int .i64 i6z,.int .i64 i7z,.int .i64 i8z,.int .i64 i9z,.int .i64 i10z,.slice p11z k11z c11z]):=hR.below ha3
   have HL3:Hid (Below W0.heap.size W0 W3):=HL2.out.trans ((hb.trans (ha3.mono hb.size)).mono HL2.out.size)
   clear a0 a1 a2 a3 a4 a5 a6 a7 a8 a9 a10 a11  hR hb ha3 hbel
   go_upto_region 10 with fail
   rw [← hW3]
   clear hW3
   by_cases hr:R3=0
   ·subst hr
    obtain ⟨hge,hno,hsm,hpt⟩:=HOK3.out rfl
    have HSN:=HZE.out (by simp)
    have hN:IsNd W3 N3 #[.string t0z,.string t1z,.slice p2z k2z c2z,.slice p3z k3z c3z,.slice p4z k4z c4z,.slice p5z k5z c5z,.int .i64 i6z,.int .i64 i7z,.int .i64 i8z,.int .i64 i9z,.int .i64 i10z,.slice p11z k11z c11z]:=by
     rcases HR3.out with ⟨h,_⟩ | ⟨_,h⟩
     ·exact absurd rfl h
     ·exact h
    have HO:Hid (∀ W,Below W3.heap.size W3 W→Calls Tryz.prog 39 #[.agg #[.string t0a,.string t1a,.slice p2a k2a c2a,.slice p3a k3a c3a,.slice p4a k4a c4a,.slice p5a k5a c5a,.int .i64 i6a,.int .i64 i7a,.int .i64 i8a,.int .i64 i9a,.int .i64 i10a,.slice p11a k11a c11a],.agg #[.string t0z,.string t1z,.slice p2z k2z c2z,.slice p3z k3z c3z,.slice p4z k4z c4z,.slice p5z k5z c5z,.int .i64 i6z,.int .i64 i7z,.int .i64 i8z,.int .i64 i9z,.int .i64 i10z,.slice p11z k11z c11z]] W fun e w'=>e=.returned (.bool false)∧Below W.heap.size W w'):=fun W hW=>older_any n N3 _ _ W (HIN.out W (HBX.out W (HL3.out.trans (hW.mono HL3.out.size))).2.2) (hN.below hW) hno HSN hsm hpt
    have HC:Hid (∀ W,Below W3.heap.size W3 W→Calls Tryz.prog 17 #[.agg #[.string t0z,.string t1z,.slice p2z k2z c2z,.slice p3z k3z c3z,.slice p4z k4z c4z,.slice p5z k5z c5z,.int .i64 i6z,.int .i64 i7z,.int .i64 i8z,.int .i64 i9z,.int .i64 i10z,.slice p11z k11z c11z]] W fun e w'=>e=.returned (.int .i64 0)∧Below W.heap.size W w'):=fun W hW=>by
     have h:=check_is (hN.below hW)
     rw [hge] at h
     exact h
    clear hge hno hsm hpt hN HSN
    obtain ⟨hg,_,_⟩:=HBX.out W3 HL3.out
    have hx:=HG3.out
    obtain ⟨a0,a1,a2,a3,a4,a5,a6,a7,a8,a9,a10,a11⟩:=cells12 hg
    obtain ⟨b0,b1,b2,b3,b4,b5,b6,b7,b8,b9,b10,b11⟩:=cells12 hx
    clear hg hx
    go_wp2_with fail
    refine (HO.out W3 (Below.refl _ _)).mono ?_
    rintro e v1 ⟨rfl,hv⟩
    have HV1:Hid (Below W3.heap.size W3 v1):=hv
    have hx:v1.heap[w3.heap.size]?=some (.cells #[.string t0z,.string t1z,.slice p2z k2z c2z,.slice p3z k3z c3z,.slice p4z k4z c4z,.slice p5z k5z c5z,.int .i64 i6z,.int .i64 i7z,.int .i64 i8z,.int .i64 i9z,.int .i64 i10z,.slice p11z k11z c11z] 30 (0,0)):=(hv.block _ (by omega)).trans HG3.out
    clear a0 a1 a2 a3 a4 a5 a6 a7 a8 a9 a10 a11 b0 b1 b2 b3 b4 b5 b6 b7 b8 b9 b10 b11 hv
    obtain ⟨b0,b1,b2,b3,b4,b5,b6,b7,b8,b9,b10,b11⟩:=cells12 hx
    clear hx
    go_wp2_with fail
    refine (HC.out v1 HV1.out).mono ?_
    rintro e V3 ⟨rfl,hv⟩
    have HLV3:Hid (Below W0.heap.size W0 V3):=HL3.out.trans ((HV1.out.trans (hv.mono HV1.out.size)).mono HL3.out.size)
    clear b0 b1 b2 b3 b4 b5 b6 b7 b8 b9 b10 b11 hv HV1 HO HC HG3 HR3 hs3 HL3
    go_wp2_with fail
    go_ret
    exact ⟨rfl,(HBX.out V3 HLV3.out).2.2⟩
   ·have hr1:(R3 != 0)=true:=by simpa using hr
    clear hr
    go_wp2_with fail
    go_ret
    exact ⟨rfl,(HBX.out W3 HL3.out).2.2⟩
end Go.Proofs.YtikgjgmgbfjcgaaGreat
