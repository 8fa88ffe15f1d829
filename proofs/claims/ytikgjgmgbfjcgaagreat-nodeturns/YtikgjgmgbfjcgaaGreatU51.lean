import Derived.Test.YtikgjgmgbfjcgaaGreatU38
import Derived.Test.YtikgjgmgbfjcgaaGreatU42
import Derived.Lib.QuietBelow
import Derived.Test.YtikgjgmgbfjcgaaGreatU50
import Derived.Test.YtikgjgmgbfjcgaaGreatU49
namespace Go.Proofs.YtikgjgmgbfjcgaaGreat
open Go.RowKit
theorem refCheck_is {w:World} {n:Nd} {A:Array Value} (h:IsNd w n A):Calls Tryz.prog 18 #[.agg A] w fun e w'=>e=.returned (.int .i64 n.e)∧Below w.heap.size w w':=by
 obtain ⟨_,_,_,_,_,rfl,h⟩:=h
 exact refNode_any n _ _ _ _ _ w h
theorem Res.setAll {w:World} {er:Int} {n:Nd} {A:Array Value} (h:Res w er n A) {b:Nat} (hn:NBox w b) (L:List Value) (j:Nat):Res (setAll b L j w) er n A:=by
 rcases h with h | ⟨h1,h2⟩
 ·exact .inl h
 ·exact .inr ⟨h1,h2.setAll hn L j⟩
theorem Nd.Parts.smallN {n:Nd} (h:n.Parts):n.Small:=by
 have l1:=(chk_zero h.ms).1
 have l2:=(chkR_e0 h.rs).1
 have l3:=(Sv.chk_zero h.sv).1
 have l4:=(Gw.chk_zero h.gw).1
 have l5:=(Wh.chk_zero h.wh).1
 exact ⟨by omega,by omega,by omega,by omega,by omega⟩
theorem nodeIs_res (er:Int) (n:Nd) (C D:Array Value) (w:World) (h1:Res w er n C) (h2:Res w er n D) (h3:er=0→n.Small) :
 Calls Tryz.prog 16 #[.agg C,.int .i64 er,.int .i64 er,.agg D] w fun e w'=>e=.returned (.bool true)∧Below w.heap.size w w':=
 nodeIs_any er n _ C D w h1 h2.is (fun h=>⟨by rw [if_pos h],h3 h⟩)
theorem Nd.Small.of {n k:Nd} (h:n.Small) (hs:Sp k) (hr:Rest n k):k.Small:=by
 have l1:=(chk_zero hs.ms).1
 have l2:=(chkR_e0 hs.rs).1
 exact ⟨by omega,by omega,by rw [hr.sv];exact h.sv,by rw [hr.gw];exact h.gw,by rw [hr.wh];exact h.wh⟩
theorem ws_sp {n:Nd} {t:ByteArray} {a b:Int} (h:Sp n) (hb:within b 1 4=true) (h0:wsE n t a b=0):Sp (wsN n t b):=by
 unfold wsE at h0
 split at h0
 ·split at h0
  ·split at h0
   ·cases h0
   ·split at h0
    ·rename_i hs _ _
     obtain ⟨g1,g2⟩:=mOf_mem hs
     have hx:=(mem_e0 _).1 (chk_e0 h.ms _ g1)
     exact sp_sp h ((mem_e0 _).2 ⟨hx.1,hb,hx.2.2.1,hx.2.2.2⟩) h0
    ·cases h0
  ·cases h0
 ·cases h0
theorem ws_rest (n:Nd) (t:ByteArray) (b:Int):Rest n (wsN n t b):=rest_sp n _
theorem lv_sp {n:Nd} (h:Sp n) (hs:(fstM n.ms n.name).isSome=true) (h0:lvE n=0):Sp (lvN n):=by
 unfold lvE at h0
 split at h0
 ·cases h0
 ·split at h0
  ·cases h0
  ·rename_i _ hl
   obtain ⟨g1,g2⟩:=mOf_mem hs
   have hx:=(mem_e0 _).1 (chk_e0 h.ms _ g1)
   have h5:=hx.2.2.1
   simp only [within,Bool.and_eq_true,decide_eq_true_eq] at h5
   refine sp_sp h ((mem_e0 _).2 ⟨hx.1,(by decide:within 4 1 4=true),?_,hx.2.2.2⟩) h0
   simp only [within,Bool.and_eq_true,decide_eq_true_eq]
   show 1≤(mOf n.ms n.name).life+1∧(mOf n.ms n.name).life+1≤1000000
   omega
theorem lv_rest (n:Nd):Rest n (lvN n):=rest_sp n _
set_option maxHeartbeats 51200000 in
set_option maxRecDepth 100000 in
theorem nodeTurns_walk (n:Nd) (A:Array Value) (t:ByteArray) (w:World) (h:IsNd w n A) (ht:t.size≤maxLen) :
 Calls Tryz.prog 7 #[.agg A,.string t] w fun e w'=>e=.returned (.bool true)∧Below w.heap.size w w':=by
 have HCK:Hid (∀ W,Below w.heap.size w W→Calls Tryz.prog 18 #[.agg A] W fun e w'=>e=.returned (.int .i64 n.e)∧Below W.heap.size W w'):=fun W hW=>refCheck_is (h.below hW)
 have HP1:Hid (∀ W,Below w.heap.size w W→Calls Tryz.prog 26 #[.agg A,.string t] W fun e w'=>OpSays n.e (wsE n t 1 2) (wsN n t 2) W e w'):=fun W hW=>by
  obtain ⟨_,_,_,_,_,rfl,hi⟩:=h
  exact Doubt_any n t _ _ _ _ _ W (hi.below hW) ht
 have HP2:Hid (∀ W,Below w.heap.size w W→Calls Tryz.prog 27 #[.agg A,.string t] W fun e w'=>OpSays n.e (wsE n t 2 3) (wsN n t 3) W e w'):=fun W hW=>by
  obtain ⟨_,_,_,_,_,rfl,hi⟩:=h
  exact Bury_any n t _ _ _ _ _ W (hi.below hW) ht
 have HP3:Hid (∀ W,Below w.heap.size w W→Calls Tryz.prog 28 #[.agg A] W fun e w'=>OpSays n.e (lvE n) (lvN n) W e w'):=fun W hW=>by
  obtain ⟨_,_,_,_,_,rfl,hi⟩:=h
  exact Leave_any n _ _ _ _ _ W (hi.below hW)
 by_cases hne:n.e=0
 ·have hp:=Nd.parts (Nd.e_zero hne).1
  obtain ⟨me,hme,_⟩:=Nd.wE_zero (Nd.e_zero hne).2
  have hsp:=Nd.sp hne
  have hsm:=hp.smallN
  have HSM1:Hid (wsE n t 1 2=0→Nd.Small (wsN n t 2)):=fun h=>hsm.of (ws_sp hsp rfl h) (ws_rest n t 2)
  have HSM2:Hid (wsE n t 2 3=0→Nd.Small (wsN n t 3)):=fun h=>hsm.of (ws_sp hsp rfl h) (ws_rest n t 3)
  have HSM3:Hid (lvE n=0→Nd.Small (lvN n)):=fun h=>hsm.of (lv_sp hsp (by rw [hme];rfl) h) (lv_rest n)
  have HD1:Hid (∀ W,Below w.heap.size w W→Calls Tryz.prog 29 #[.agg A,.string t,.int .i64 1,.int .i64 2] W fun e w'=>∃ C,e=.returned (.tuple #[.agg C,.int .i64 (wsE n t 1 2)])∧Res w' (wsE n t 1 2) (wsN n t 2) C∧Below W.heap.size W w'):=fun W hW=>turnOf_is n t 1 2 A W (h.below hW) hne ht rfl
  have HD2:Hid (∀ W,Below w.heap.size w W→Calls Tryz.prog 29 #[.agg A,.string t,.int .i64 2,.int .i64 3] W fun e w'=>∃ C,e=.returned (.tuple #[.agg C,.int .i64 (wsE n t 2 3)])∧Res w' (wsE n t 2 3) (wsN n t 3) C∧Below W.heap.size W w'):=fun W hW=>turnOf_is n t 2 3 A W (h.below hW) hne ht rfl
  have HD3:Hid (∀ W,Below w.heap.size w W→Calls Tryz.prog 30 #[.agg A] W fun e w'=>∃ C,e=.returned (.tuple #[.agg C,.int .i64 (lvE n)])∧Res w' (lvE n) (lvN n) C∧Below W.heap.size W w'):=fun W hW=>leaveOf_is n A W (h.below hW) hne
  rw [hne] at HP1 HP2 HP3 HCK
  obtain ⟨t0a,t1a,p2a,k2a,c2a,p3a,k3a,c3a,p4a,k4a,c4a,p5a,k5a,c5a,i6a,i7a,i8a,i9a,i10a,p11a,k11a,c11a,rfl⟩:=h.letters
  simp only [ndV] at HP1 HP2 HP3 HCK HD1 HD2 HD3 ⊢
  clear h hne hp hme hsp ht hsm
  generalize wsE n t 1 2=E1 at *
  generalize wsN n t 2=N1 at *
  generalize wsE n t 2 3=E2 at *
  generalize wsN n t 3=N2 at *
  generalize lvE n=E3 at *
  generalize lvN n=N3 at *
  obtain ⟨W0,hW0⟩:∃ W0,W0=w.alloc (.cells #[.string t0a,.string t1a,.slice p2a k2a c2a,.slice p3a k3a c3a,.slice p4a k4a c4a,.slice p5a k5a c5a,.int .i64 i6a,.int .i64 i7a,.int .i64 i8a,.int .i64 i9a,.int .i64 i10a,.slice p11a k11a c11a] 30):=⟨_,rfl⟩
  have hb0:Below w.heap.size w W0:=by rw [hW0];exact (Below.refl _ _).alloc (Nat.le_refl _) _
  have hg:W0.heap[w.heap.size]?=some (.cells #[.string t0a,.string t1a,.slice p2a k2a c2a,.slice p3a k3a c3a,.slice p4a k4a c4a,.slice p5a k5a c5a,.int .i64 i6a,.int .i64 i7a,.int .i64 i8a,.int .i64 i9a,.int .i64 i10a,.slice p11a k11a c11a] 30 (0,0)):=by rw [hW0];exact heap_alloc_new w _
  have hsx:True:=trivial
  have hs0:w.heap.size+1≤W0.heap.size:=by rw [hW0];simp
  have HB0:Hid (Below w.heap.size w W0):=hb0
  have HBX:Hid (∀ W,Below W0.heap.size W0 W→W.heap[w.heap.size]?=some (.cells #[.string t0a,.string t1a,.slice p2a k2a c2a,.slice p3a k3a c3a,.slice p4a k4a c4a,.slice p5a k5a c5a,.int .i64 i6a,.int .i64 i7a,.int .i64 i8a,.int .i64 i9a,.int .i64 i10a,.slice p11a k11a c11a] 30 (0,0))∧True∧Below w.heap.size w W):=fun W hW=>⟨(hW.block _ (by omega)).trans hg,trivial,hb0.trans (hW.mono hb0.size)⟩
  have HL0:Hid (Below W0.heap.size W0 W0):=Below.refl _ _
  have a0:W0.cell? ⟨w.heap.size,0,none⟩=some (.string t0a):=cellsAt hg 0
  have a1:W0.cell? ⟨w.heap.size,1,none⟩=some (.string t1a):=cellsAt hg 1
  have a2:W0.cell? ⟨w.heap.size,2,none⟩=some (.slice p2a k2a c2a):=cellsAt hg 2
  have a3:W0.cell? ⟨w.heap.size,3,none⟩=some (.slice p3a k3a c3a):=cellsAt hg 3
  have a4:W0.cell? ⟨w.heap.size,4,none⟩=some (.slice p4a k4a c4a):=cellsAt hg 4
  have a5:W0.cell? ⟨w.heap.size,5,none⟩=some (.slice p5a k5a c5a):=cellsAt hg 5
  have a6:W0.cell? ⟨w.heap.size,6,none⟩=some (.int .i64 i6a):=cellsAt hg 6
  have a7:W0.cell? ⟨w.heap.size,7,none⟩=some (.int .i64 i7a):=cellsAt hg 7
  have a8:W0.cell? ⟨w.heap.size,8,none⟩=some (.int .i64 i8a):=cellsAt hg 8
  have a9:W0.cell? ⟨w.heap.size,9,none⟩=some (.int .i64 i9a):=cellsAt hg 9
  have a10:W0.cell? ⟨w.heap.size,10,none⟩=some (.int .i64 i10a):=cellsAt hg 10
  have a11:W0.cell? ⟨w.heap.size,11,none⟩=some (.slice p11a k11a c11a):=cellsAt hg 11
  clear hb0 hg hsx
  go_enter Tryz.func7,Tryz.ntmps7
  go_upto_region 1 with fail
  rw [← hW0]
  clear hW0
  go_wp2_with fail
  refine (HP1.out W0 (HBX.out W0 HL0.out).2.2).mono ?_
  intro e w1 hh
  obtain ⟨A1,rfl,hR,hb⟩:=hh.res
  rw [if_pos rfl] at hR ⊢
  obtain ⟨t0x,t1x,p2x,k2x,c2x,p3x,k3x,c3x,p4x,k4x,c4x,p5x,k5x,c5x,i6x,i7x,i8x,i9x,i10x,p11x,k11x,c11x,rfl⟩:=hR.is.letters
  simp only [ndV] at hR ⊢
  have HR1:Hid (Res w1 E1 N1 #[.string t0x,.string t1x,.slice p2x k2x c2x,.slice p3x k3x c3x,.slice p4x k4x c4x,.slice p5x k5x c5x,.int .i64 i6x,.int .i64 i7x,.int .i64 i8x,.int .i64 i9x,.int .i64 i10x,.slice p11x k11x c11x]):=hR
  obtain ⟨W1,hW1⟩:∃ W1,W1=w1.alloc (.cells #[.string t0x,.string t1x,.slice p2x k2x c2x,.slice p3x k3x c3x,.slice p4x k4x c4x,.slice p5x k5x c5x,.int .i64 i6x,.int .i64 i7x,.int .i64 i8x,.int .i64 i9x,.int .i64 i10x,.slice p11x k11x c11x] 30):=⟨_,rfl⟩
  have ha1:Below w1.heap.size w1 W1:=by rw [hW1];exact (Below.refl _ _).alloc (Nat.le_refl _) _
  have HG1:Hid (W1.heap[w1.heap.size]?=some (.cells #[.string t0x,.string t1x,.slice p2x k2x c2x,.slice p3x k3x c3x,.slice p4x k4x c4x,.slice p5x k5x c5x,.int .i64 i6x,.int .i64 i7x,.int .i64 i8x,.int .i64 i9x,.int .i64 i10x,.slice p11x k11x c11x] 30 (0,0))):=by rw [hW1];exact heap_alloc_new w1 _
  have hs1:W1.heap.size=w1.heap.size+1:=by rw [hW1];simp
  have hz1:W0.heap.size≤w1.heap.size:=hb.size
  have hbb:Below W0.heap.size W0 W1:=hb.trans (ha1.mono hb.size)
  have HL1:Hid (Below W0.heap.size W0 W1):=HL0.out.trans (hbb.mono HL0.out.size)
  have HA1:Hid (Below w1.heap.size w1 W1):=ha1
  have HBB1:Hid (Below W0.heap.size W0 W1):=hbb
  obtain ⟨hg,hsx,_⟩:=HBX.out W1 HL1.out
  clear a0 a1 a2 a3 a4 a5 a6 a7 a8 a9 a10 a11  hh hR hb ha1 hbb
  have a0:W1.cell? ⟨w.heap.size,0,none⟩=some (.string t0a):=cellsAt hg 0
  have a1:W1.cell? ⟨w.heap.size,1,none⟩=some (.string t1a):=cellsAt hg 1
  have a2:W1.cell? ⟨w.heap.size,2,none⟩=some (.slice p2a k2a c2a):=cellsAt hg 2
  have a3:W1.cell? ⟨w.heap.size,3,none⟩=some (.slice p3a k3a c3a):=cellsAt hg 3
  have a4:W1.cell? ⟨w.heap.size,4,none⟩=some (.slice p4a k4a c4a):=cellsAt hg 4
  have a5:W1.cell? ⟨w.heap.size,5,none⟩=some (.slice p5a k5a c5a):=cellsAt hg 5
  have a6:W1.cell? ⟨w.heap.size,6,none⟩=some (.int .i64 i6a):=cellsAt hg 6
  have a7:W1.cell? ⟨w.heap.size,7,none⟩=some (.int .i64 i7a):=cellsAt hg 7
  have a8:W1.cell? ⟨w.heap.size,8,none⟩=some (.int .i64 i8a):=cellsAt hg 8
  have a9:W1.cell? ⟨w.heap.size,9,none⟩=some (.int .i64 i9a):=cellsAt hg 9
  have a10:W1.cell? ⟨w.heap.size,10,none⟩=some (.int .i64 i10a):=cellsAt hg 10
  have a11:W1.cell? ⟨w.heap.size,11,none⟩=some (.slice p11a k11a c11a):=cellsAt hg 11
  clear hg hsx
  go_upto_region 2 with fail
  rw [← hW1]
  clear hW1
  have HS1:Hid (W1.heap.size=w1.heap.size+1):=hs1
  clear hs1
  go_wp2_with fail
  refine (HP2.out W1 (HBX.out W1 HL1.out).2.2).mono ?_
  intro e w2 hh
  obtain ⟨A2,rfl,hR,hb⟩:=hh.res
  rw [if_pos rfl] at hR ⊢
  obtain ⟨t0y,t1y,p2y,k2y,c2y,p3y,k3y,c3y,p4y,k4y,c4y,p5y,k5y,c5y,i6y,i7y,i8y,i9y,i10y,p11y,k11y,c11y,rfl⟩:=hR.is.letters
  simp only [ndV] at hR ⊢
  have HR2:Hid (Res w2 E2 N2 #[.string t0y,.string t1y,.slice p2y k2y c2y,.slice p3y k3y c3y,.slice p4y k4y c4y,.slice p5y k5y c5y,.int .i64 i6y,.int .i64 i7y,.int .i64 i8y,.int .i64 i9y,.int .i64 i10y,.slice p11y k11y c11y]):=hR
  obtain ⟨W2,hW2⟩:∃ W2,W2=w2.alloc (.cells #[.string t0y,.string t1y,.slice p2y k2y c2y,.slice p3y k3y c3y,.slice p4y k4y c4y,.slice p5y k5y c5y,.int .i64 i6y,.int .i64 i7y,.int .i64 i8y,.int .i64 i9y,.int .i64 i10y,.slice p11y k11y c11y] 30):=⟨_,rfl⟩
  have ha2:Below w2.heap.size w2 W2:=by rw [hW2];exact (Below.refl _ _).alloc (Nat.le_refl _) _
  have HG2:Hid (W2.heap[w2.heap.size]?=some (.cells #[.string t0y,.string t1y,.slice p2y k2y c2y,.slice p3y k3y c3y,.slice p4y k4y c4y,.slice p5y k5y c5y,.int .i64 i6y,.int .i64 i7y,.int .i64 i8y,.int .i64 i9y,.int .i64 i10y,.slice p11y k11y c11y] 30 (0,0))):=by rw [hW2];exact heap_alloc_new w2 _
  have hs2:W2.heap.size=w2.heap.size+1:=by rw [hW2];simp
  have hz2:W1.heap.size≤w2.heap.size:=hb.size
  have hbb:Below W1.heap.size W1 W2:=hb.trans (ha2.mono hb.size)
  have HL2:Hid (Below W0.heap.size W0 W2):=HL1.out.trans (hbb.mono HL1.out.size)
  have HA2:Hid (Below w2.heap.size w2 W2):=ha2
  have HBB2:Hid (Below W1.heap.size W1 W2):=hbb
  obtain ⟨hg,hsx,_⟩:=HBX.out W2 HL2.out
  clear a0 a1 a2 a3 a4 a5 a6 a7 a8 a9 a10 a11  hh hR hb ha2 hbb
  have a0:W2.cell? ⟨w.heap.size,0,none⟩=some (.string t0a):=cellsAt hg 0
  have a1:W2.cell? ⟨w.heap.size,1,none⟩=some (.string t1a):=cellsAt hg 1
  have a2:W2.cell? ⟨w.heap.size,2,none⟩=some (.slice p2a k2a c2a):=cellsAt hg 2
  have a3:W2.cell? ⟨w.heap.size,3,none⟩=some (.slice p3a k3a c3a):=cellsAt hg 3
  have a4:W2.cell? ⟨w.heap.size,4,none⟩=some (.slice p4a k4a c4a):=cellsAt hg 4
  have a5:W2.cell? ⟨w.heap.size,5,none⟩=some (.slice p5a k5a c5a):=cellsAt hg 5
  have a6:W2.cell? ⟨w.heap.size,6,none⟩=some (.int .i64 i6a):=cellsAt hg 6
  have a7:W2.cell? ⟨w.heap.size,7,none⟩=some (.int .i64 i7a):=cellsAt hg 7
  have a8:W2.cell? ⟨w.heap.size,8,none⟩=some (.int .i64 i8a):=cellsAt hg 8
  have a9:W2.cell? ⟨w.heap.size,9,none⟩=some (.int .i64 i9a):=cellsAt hg 9
  have a10:W2.cell? ⟨w.heap.size,10,none⟩=some (.int .i64 i10a):=cellsAt hg 10
  have a11:W2.cell? ⟨w.heap.size,11,none⟩=some (.slice p11a k11a c11a):=cellsAt hg 11
  clear hg hsx
  go_upto_region 3 with fail
  rw [← hW2]
  clear hW2
  have HS2:Hid (W2.heap.size=w2.heap.size+1):=hs2
  clear hs2
  go_wp2_with fail
  refine (HP3.out W2 (HBX.out W2 HL2.out).2.2).mono ?_
  intro e w3 hh
  obtain ⟨A3,rfl,hR,hb⟩:=hh.res
  rw [if_pos rfl] at hR ⊢
  obtain ⟨t0z,t1z,p2z,k2z,c2z,p3z,k3z,c3z,p4z,k4z,c4z,p5z,k5z,c5z,i6z,i7z,i8z,i9z,i10z,p11z,k11z,c11z,rfl⟩:=hR.is.letters
  simp only [ndV] at hR ⊢
  have HR3:Hid (Res w3 E3 N3 #[.string t0z,.string t1z,.slice p2z k2z c2z,.slice p3z k3z c3z,.slice p4z k4z c4z,.slice p5z k5z c5z,.int .i64 i6z,.int .i64 i7z,.int .i64 i8z,.int .i64 i9z,.int .i64 i10z,.slice p11z k11z c11z]):=hR
  obtain ⟨W3,hW3⟩:∃ W3,W3=w3.alloc (.cells #[.string t0z,.string t1z,.slice p2z k2z c2z,.slice p3z k3z c3z,.slice p4z k4z c4z,.slice p5z k5z c5z,.int .i64 i6z,.int .i64 i7z,.int .i64 i8z,.int .i64 i9z,.int .i64 i10z,.slice p11z k11z c11z] 30):=⟨_,rfl⟩
  have ha3:Below w3.heap.size w3 W3:=by rw [hW3];exact (Below.refl _ _).alloc (Nat.le_refl _) _
  have HG3:Hid (W3.heap[w3.heap.size]?=some (.cells #[.string t0z,.string t1z,.slice p2z k2z c2z,.slice p3z k3z c3z,.slice p4z k4z c4z,.slice p5z k5z c5z,.int .i64 i6z,.int .i64 i7z,.int .i64 i8z,.int .i64 i9z,.int .i64 i10z,.slice p11z k11z c11z] 30 (0,0))):=by rw [hW3];exact heap_alloc_new w3 _
  have hs3:W3.heap.size=w3.heap.size+1:=by rw [hW3];simp
  have hz3:W2.heap.size≤w3.heap.size:=hb.size
  have hbb:Below W2.heap.size W2 W3:=hb.trans (ha3.mono hb.size)
  have HL3:Hid (Below W0.heap.size W0 W3):=HL2.out.trans (hbb.mono HL2.out.size)
  have HA3:Hid (Below w3.heap.size w3 W3):=ha3
  have HBB3:Hid (Below W2.heap.size W2 W3):=hbb
  obtain ⟨hg,hsx,_⟩:=HBX.out W3 HL3.out
  clear a0 a1 a2 a3 a4 a5 a6 a7 a8 a9 a10 a11  hh hR hb ha3 hbb
  have a0:W3.cell? ⟨w.heap.size,0,none⟩=some (.string t0a):=cellsAt hg 0
  have a1:W3.cell? ⟨w.heap.size,1,none⟩=some (.string t1a):=cellsAt hg 1
  have a2:W3.cell? ⟨w.heap.size,2,none⟩=some (.slice p2a k2a c2a):=cellsAt hg 2
  have a3:W3.cell? ⟨w.heap.size,3,none⟩=some (.slice p3a k3a c3a):=cellsAt hg 3
  have a4:W3.cell? ⟨w.heap.size,4,none⟩=some (.slice p4a k4a c4a):=cellsAt hg 4
  have a5:W3.cell? ⟨w.heap.size,5,none⟩=some (.slice p5a k5a c5a):=cellsAt hg 5
  have a6:W3.cell? ⟨w.heap.size,6,none⟩=some (.int .i64 i6a):=cellsAt hg 6
  have a7:W3.cell? ⟨w.heap.size,7,none⟩=some (.int .i64 i7a):=cellsAt hg 7
  have a8:W3.cell? ⟨w.heap.size,8,none⟩=some (.int .i64 i8a):=cellsAt hg 8
  have a9:W3.cell? ⟨w.heap.size,9,none⟩=some (.int .i64 i9a):=cellsAt hg 9
  have a10:W3.cell? ⟨w.heap.size,10,none⟩=some (.int .i64 i10a):=cellsAt hg 10
  have a11:W3.cell? ⟨w.heap.size,11,none⟩=some (.slice p11a k11a c11a):=cellsAt hg 11
  clear hg hsx
  go_upto_region 4 with fail
  rw [← hW3]
  clear hW3
  have HS3:Hid (W3.heap.size=w3.heap.size+1):=hs3
  clear hs3
  go_wp2_with fail
  refine (HCK.out W3 (HBX.out W3 HL3.out).2.2).mono ?_
  rintro e w4 ⟨rfl,hb⟩
  obtain ⟨W4,hW4⟩:∃ W4,W4=((w4.alloc (.cells #[.string ⟨#[]⟩,.string ⟨#[]⟩,.slice none 0 0,.slice none 0 0,.slice none 0 0,.slice none 0 0,.int .i64 0,.int .i64 0,.int .i64 0,.int .i64 0,.int .i64 0,.slice none 0 0] 30)).alloc (.cells #[.string ⟨#[]⟩,.string ⟨#[]⟩,.slice none 0 0,.slice none 0 0,.slice none 0 0,.slice none 0 0,.int .i64 0,.int .i64 0,.int .i64 0,.int .i64 0,.int .i64 0,.slice none 0 0] 30)).alloc (.cells #[.string ⟨#[]⟩,.string ⟨#[]⟩,.slice none 0 0,.slice none 0 0,.slice none 0 0,.slice none 0 0,.int .i64 0,.int .i64 0,.int .i64 0,.int .i64 0,.int .i64 0,.slice none 0 0] 30):=⟨_,rfl⟩
  have hx4:Below w4.heap.size w4 W4:=by rw [hW4];exact (((Below.refl _ _).alloc (Nat.le_refl _) _).alloc (by simp) _).alloc (by simp<;>omega) _
  have hq0:W4.heap[w4.heap.size]?=some (.cells azN 30 (0,0)):=by rw [hW4,Below.heap_alloc _ _ _ (by simp<;>omega),Below.heap_alloc _ _ _ (by simp)];exact heap_alloc_new w4 _
  have hq1:W4.heap[w4.heap.size+1]?=some (.cells azN 30 (0,0)):=by
   have h:=heap_alloc_new (w4.alloc (.cells #[.string ⟨#[]⟩,.string ⟨#[]⟩,.slice none 0 0,.slice none 0 0,.slice none 0 0,.slice none 0 0,.int .i64 0,.int .i64 0,.int .i64 0,.int .i64 0,.int .i64 0,.slice none 0 0] 30)) (.cells #[.string ⟨#[]⟩,.string ⟨#[]⟩,.slice none 0 0,.slice none 0 0,.slice none 0 0,.slice none 0 0,.int .i64 0,.int .i64 0,.int .i64 0,.int .i64 0,.int .i64 0,.slice none 0 0] 30)
   rw [hW4,Below.heap_alloc _ _ _ (by simp)];simpa [azN] using h
  have hq2:W4.heap[w4.heap.size+1+1]?=some (.cells azN 30 (0,0)):=by
   have h:=heap_alloc_new ((w4.alloc (.cells #[.string ⟨#[]⟩,.string ⟨#[]⟩,.slice none 0 0,.slice none 0 0,.slice none 0 0,.slice none 0 0,.int .i64 0,.int .i64 0,.int .i64 0,.int .i64 0,.int .i64 0,.slice none 0 0] 30)).alloc (.cells #[.string ⟨#[]⟩,.string ⟨#[]⟩,.slice none 0 0,.slice none 0 0,.slice none 0 0,.slice none 0 0,.int .i64 0,.int .i64 0,.int .i64 0,.int .i64 0,.int .i64 0,.slice none 0 0] 30)) (.cells #[.string ⟨#[]⟩,.string ⟨#[]⟩,.slice none 0 0,.slice none 0 0,.slice none 0 0,.slice none 0 0,.int .i64 0,.int .i64 0,.int .i64 0,.int .i64 0,.int .i64 0,.slice none 0 0] 30)
   rw [hW4];simpa [azN] using h
  have hs4:W4.heap.size=w4.heap.size+3:=by rw [hW4];simp
  have hz4:W3.heap.size≤w4.heap.size:=hb.size
  have hbb:Below W3.heap.size W3 W4:=hb.trans (hx4.mono hb.size)
  have HL4:Hid (Below W0.heap.size W0 W4):=HL3.out.trans (hbb.mono HL3.out.size)
  have HBB4:Hid (Below W3.heap.size W3 W4):=hbb
  have HQ0:Hid (W4.heap[w4.heap.size]?=some (.cells azN 30 (0,0))):=hq0
  have HQ1:Hid (W4.heap[w4.heap.size+1]?=some (.cells azN 30 (0,0))):=hq1
  have HQ2:Hid (W4.heap[w4.heap.size+1+1]?=some (.cells azN 30 (0,0))):=hq2
  obtain ⟨hg,hsx,_⟩:=HBX.out W4 HL4.out
  have HS4:Hid (W4.heap.size=w4.heap.size+3):=hs4
  clear a0 a1 a2 a3 a4 a5 a6 a7 a8 a9 a10 a11 hb hbb hx4 hq0 hq1 hq2 hs4
  have a0:W4.cell? ⟨w.heap.size,0,none⟩=some (.string t0a):=cellsAt hg 0
  have a1:W4.cell? ⟨w.heap.size,1,none⟩=some (.string t1a):=cellsAt hg 1
  have a2:W4.cell? ⟨w.heap.size,2,none⟩=some (.slice p2a k2a c2a):=cellsAt hg 2
  have a3:W4.cell? ⟨w.heap.size,3,none⟩=some (.slice p3a k3a c3a):=cellsAt hg 3
  have a4:W4.cell? ⟨w.heap.size,4,none⟩=some (.slice p4a k4a c4a):=cellsAt hg 4
  have a5:W4.cell? ⟨w.heap.size,5,none⟩=some (.slice p5a k5a c5a):=cellsAt hg 5
  have a6:W4.cell? ⟨w.heap.size,6,none⟩=some (.int .i64 i6a):=cellsAt hg 6
  have a7:W4.cell? ⟨w.heap.size,7,none⟩=some (.int .i64 i7a):=cellsAt hg 7
  have a8:W4.cell? ⟨w.heap.size,8,none⟩=some (.int .i64 i8a):=cellsAt hg 8
  have a9:W4.cell? ⟨w.heap.size,9,none⟩=some (.int .i64 i9a):=cellsAt hg 9
  have a10:W4.cell? ⟨w.heap.size,10,none⟩=some (.int .i64 i10a):=cellsAt hg 10
  have a11:W4.cell? ⟨w.heap.size,11,none⟩=some (.slice p11a k11a c11a):=cellsAt hg 11
  clear hg hsx
  go_upto_region 8 with fail
  rw [← hW4]
  clear hW4
  go_wp2_with fail
  refine (HD1.out W4 (HBX.out W4 HL4.out).2.2).mono ?_
  rintro e w5 ⟨C5,rfl,hR,hb⟩
  have hs4:=HS4.out
  have hz5:W4.heap.size≤w5.heap.size:=hb.size
  obtain ⟨t0c,t1c,p2c,k2c,c2c,p3c,k3c,c3c,p4c,k4c,c4c,p5c,k5c,c5c,i6c,i7c,i8c,i9c,i10c,p11c,k11c,c11c,rfl⟩:=hR.is.letters
  simp only [ndV] at hR ⊢
  have hq0:w5.heap[w4.heap.size]?=some (.cells azN 30 (0,0)):=(hb.block _ (by omega)).trans HQ0.out
  have hq1:w5.heap[w4.heap.size+1]?=some (.cells azN 30 (0,0)):=(hb.block _ (by omega)).trans HQ1.out
  have hq2:w5.heap[w4.heap.size+1+1]?=some (.cells azN 30 (0,0)):=(hb.block _ (by omega)).trans HQ2.out
  clear a0 a1 a2 a3 a4 a5 a6 a7 a8 a9 a10 a11
  have qq0:w5.cell? ⟨w4.heap.size,0,none⟩=some (.string ⟨#[]⟩):=cellsAt hq0 0
  have qqz0:w5.frozen? ⟨w4.heap.size,0,none⟩=false:=frozen_of hq0 0
  have qq1:w5.cell? ⟨w4.heap.size,1,none⟩=some (.string ⟨#[]⟩):=cellsAt hq0 1
  have qqz1:w5.frozen? ⟨w4.heap.size,1,none⟩=false:=frozen_of hq0 1
  have qq2:w5.cell? ⟨w4.heap.size,2,none⟩=some (.slice none 0 0):=cellsAt hq0 2
  have qqz2:w5.frozen? ⟨w4.heap.size,2,none⟩=false:=frozen_of hq0 2
  have qq3:w5.cell? ⟨w4.heap.size,3,none⟩=some (.slice none 0 0):=cellsAt hq0 3
  have qqz3:w5.frozen? ⟨w4.heap.size,3,none⟩=false:=frozen_of hq0 3
  have qq4:w5.cell? ⟨w4.heap.size,4,none⟩=some (.slice none 0 0):=cellsAt hq0 4
  have qqz4:w5.frozen? ⟨w4.heap.size,4,none⟩=false:=frozen_of hq0 4
  have qq5:w5.cell? ⟨w4.heap.size,5,none⟩=some (.slice none 0 0):=cellsAt hq0 5
  have qqz5:w5.frozen? ⟨w4.heap.size,5,none⟩=false:=frozen_of hq0 5
  have qq6:w5.cell? ⟨w4.heap.size,6,none⟩=some (.int .i64 0):=cellsAt hq0 6
  have qqz6:w5.frozen? ⟨w4.heap.size,6,none⟩=false:=frozen_of hq0 6
  have qq7:w5.cell? ⟨w4.heap.size,7,none⟩=some (.int .i64 0):=cellsAt hq0 7
  have qqz7:w5.frozen? ⟨w4.heap.size,7,none⟩=false:=frozen_of hq0 7
  have qq8:w5.cell? ⟨w4.heap.size,8,none⟩=some (.int .i64 0):=cellsAt hq0 8
  have qqz8:w5.frozen? ⟨w4.heap.size,8,none⟩=false:=frozen_of hq0 8
  have qq9:w5.cell? ⟨w4.heap.size,9,none⟩=some (.int .i64 0):=cellsAt hq0 9
  have qqz9:w5.frozen? ⟨w4.heap.size,9,none⟩=false:=frozen_of hq0 9
  have qq10:w5.cell? ⟨w4.heap.size,10,none⟩=some (.int .i64 0):=cellsAt hq0 10
  have qqz10:w5.frozen? ⟨w4.heap.size,10,none⟩=false:=frozen_of hq0 10
  have qq11:w5.cell? ⟨w4.heap.size,11,none⟩=some (.slice none 0 0):=cellsAt hq0 11
  have qqz11:w5.frozen? ⟨w4.heap.size,11,none⟩=false:=frozen_of hq0 11
  obtain ⟨W5,hW5⟩:∃ W5,W5=((((((((((((w5.setCell ⟨w4.heap.size,0,none⟩ (.string t0c)).setCell ⟨w4.heap.size,1,none⟩ (.string t1c)).setCell ⟨w4.heap.size,2,none⟩ (.slice p2c k2c c2c)).setCell ⟨w4.heap.size,3,none⟩ (.slice p3c k3c c3c)).setCell ⟨w4.heap.size,4,none⟩ (.slice p4c k4c c4c)).setCell ⟨w4.heap.size,5,none⟩ (.slice p5c k5c c5c)).setCell ⟨w4.heap.size,6,none⟩ (.int .i64 i6c)).setCell ⟨w4.heap.size,7,none⟩ (.int .i64 i7c)).setCell ⟨w4.heap.size,8,none⟩ (.int .i64 i8c)).setCell ⟨w4.heap.size,9,none⟩ (.int .i64 i9c)).setCell ⟨w4.heap.size,10,none⟩ (.int .i64 i10c)).setCell ⟨w4.heap.size,11,none⟩ (.slice p11c k11c c11c)):=⟨_,rfl⟩
  have hF:W5=setAll (w4.heap.size) [.string t0c,.string t1c,.slice p2c k2c c2c,.slice p3c k3c c3c,.slice p4c k4c c4c,.slice p5c k5c c5c,.int .i64 i6c,.int .i64 i7c,.int .i64 i8c,.int .i64 i9c,.int .i64 i10c,.slice p11c k11c c11c] 0 w5:=by rw [hW5];simp only [setAll,Nat.zero_add,Nat.reduceAdd]
  have hsz5:W5.heap.size=w5.heap.size:=by rw [hF,setAll_size]
  have hr0:W5.heap[w4.heap.size]?=some (.cells #[.string t0c,.string t1c,.slice p2c k2c c2c,.slice p3c k3c c3c,.slice p4c k4c c4c,.slice p5c k5c c5c,.int .i64 i6c,.int .i64 i7c,.int .i64 i8c,.int .i64 i9c,.int .i64 i10c,.slice p11c k11c c11c] 30 (0,0)):=by rw [hF];exact setAll12 hq0 _ _ _ _ _ _ _ _ _ _ _ _
  have hr1:W5.heap[w4.heap.size+1]?=some (.cells azN 30 (0,0)):=by rw [hF];exact (setAll_other (by omega) _ _ _).trans hq1
  have hr2:W5.heap[w4.heap.size+1+1]?=some (.cells azN 30 (0,0)):=by rw [hF];exact (setAll_other (by omega) _ _ _).trans hq2
  have HRD0:Hid (Res W5 E1 N1 #[.string t0c,.string t1c,.slice p2c k2c c2c,.slice p3c k3c c3c,.slice p4c k4c c4c,.slice p5c k5c c5c,.int .i64 i6c,.int .i64 i7c,.int .i64 i8c,.int .i64 i9c,.int .i64 i10c,.slice p11c k11c c11c]):=by rw [hF];exact hR.setAll (NBox.of hq0) _ _
  have hbb:Below w4.heap.size W4 W5:=by rw [hF];exact setAll_below (by omega) _ _ (hb.mono (by omega))
  have HL5:Hid (Below W0.heap.size W0 W5):=HL4.out.trans (hbb.mono (by have:=HL3.out.size;omega))
  have HBB5:Hid (Below w4.heap.size W4 W5):=hbb
  clear HQ0 HQ1 HQ2
  have HQ0:Hid (W5.heap[w4.heap.size]?=some (.cells #[.string t0c,.string t1c,.slice p2c k2c c2c,.slice p3c k3c c3c,.slice p4c k4c c4c,.slice p5c k5c c5c,.int .i64 i6c,.int .i64 i7c,.int .i64 i8c,.int .i64 i9c,.int .i64 i10c,.slice p11c k11c c11c] 30 (0,0))):=hr0
  have HQ1:Hid (W5.heap[w4.heap.size+1]?=some (.cells azN 30 (0,0))):=hr1
  have HQ2:Hid (W5.heap[w4.heap.size+1+1]?=some (.cells azN 30 (0,0))):=hr2
  obtain ⟨hg,hsx,_⟩:=HBX.out W5 HL5.out
  have a0:W5.cell? ⟨w.heap.size,0,none⟩=some (.string t0a):=cellsAt hg 0
  have a1:W5.cell? ⟨w.heap.size,1,none⟩=some (.string t1a):=cellsAt hg 1
  have a2:W5.cell? ⟨w.heap.size,2,none⟩=some (.slice p2a k2a c2a):=cellsAt hg 2
  have a3:W5.cell? ⟨w.heap.size,3,none⟩=some (.slice p3a k3a c3a):=cellsAt hg 3
  have a4:W5.cell? ⟨w.heap.size,4,none⟩=some (.slice p4a k4a c4a):=cellsAt hg 4
  have a5:W5.cell? ⟨w.heap.size,5,none⟩=some (.slice p5a k5a c5a):=cellsAt hg 5
  have a6:W5.cell? ⟨w.heap.size,6,none⟩=some (.int .i64 i6a):=cellsAt hg 6
  have a7:W5.cell? ⟨w.heap.size,7,none⟩=some (.int .i64 i7a):=cellsAt hg 7
  have a8:W5.cell? ⟨w.heap.size,8,none⟩=some (.int .i64 i8a):=cellsAt hg 8
  have a9:W5.cell? ⟨w.heap.size,9,none⟩=some (.int .i64 i9a):=cellsAt hg 9
  have a10:W5.cell? ⟨w.heap.size,10,none⟩=some (.int .i64 i10a):=cellsAt hg 10
  have a11:W5.cell? ⟨w.heap.size,11,none⟩=some (.slice p11a k11a c11a):=cellsAt hg 11
  clear hg hsx hF hr0 hr1 hr2 hq0 hq1 hq2 hb hbb hR hs4
  go_upto_region 9 with fail
  rw [← hW5]
  clear hW5 qq0 qqz0 qq1 qqz1 qq2 qqz2 qq3 qqz3 qq4 qqz4 qq5 qqz5 qq6 qqz6 qq7 qqz7 qq8 qqz8 qq9 qqz9 qq10 qqz10 qq11 qqz11
  go_wp2_with fail
  refine (HD2.out W5 (HBX.out W5 HL5.out).2.2).mono ?_
  rintro e w6 ⟨C6,rfl,hR,hb⟩
  have hs4:=HS4.out
  have hz6:W5.heap.size≤w6.heap.size:=hb.size
  obtain ⟨t0d,t1d,p2d,k2d,c2d,p3d,k3d,c3d,p4d,k4d,c4d,p5d,k5d,c5d,i6d,i7d,i8d,i9d,i10d,p11d,k11d,c11d,rfl⟩:=hR.is.letters
  simp only [ndV] at hR ⊢
  have hq1:w6.heap[w4.heap.size+1]?=some (.cells azN 30 (0,0)):=(hb.block _ (by omega)).trans HQ1.out
  have hq2:w6.heap[w4.heap.size+1+1]?=some (.cells azN 30 (0,0)):=(hb.block _ (by omega)).trans HQ2.out
  have hq0:w6.heap[w4.heap.size]?=some (.cells #[.string t0c,.string t1c,.slice p2c k2c c2c,.slice p3c k3c c3c,.slice p4c k4c c4c,.slice p5c k5c c5c,.int .i64 i6c,.int .i64 i7c,.int .i64 i8c,.int .i64 i9c,.int .i64 i10c,.slice p11c k11c c11c] 30 (0,0)):=(hb.block _ (by omega)).trans HQ0.out
  clear a0 a1 a2 a3 a4 a5 a6 a7 a8 a9 a10 a11
  have qq0:w6.cell? ⟨w4.heap.size+1,0,none⟩=some (.string ⟨#[]⟩):=cellsAt hq1 0
  have qqz0:w6.frozen? ⟨w4.heap.size+1,0,none⟩=false:=frozen_of hq1 0
  have qq1:w6.cell? ⟨w4.heap.size+1,1,none⟩=some (.string ⟨#[]⟩):=cellsAt hq1 1
  have qqz1:w6.frozen? ⟨w4.heap.size+1,1,none⟩=false:=frozen_of hq1 1
  have qq2:w6.cell? ⟨w4.heap.size+1,2,none⟩=some (.slice none 0 0):=cellsAt hq1 2
  have qqz2:w6.frozen? ⟨w4.heap.size+1,2,none⟩=false:=frozen_of hq1 2
  have qq3:w6.cell? ⟨w4.heap.size+1,3,none⟩=some (.slice none 0 0):=cellsAt hq1 3
  have qqz3:w6.frozen? ⟨w4.heap.size+1,3,none⟩=false:=frozen_of hq1 3
  have qq4:w6.cell? ⟨w4.heap.size+1,4,none⟩=some (.slice none 0 0):=cellsAt hq1 4
  have qqz4:w6.frozen? ⟨w4.heap.size+1,4,none⟩=false:=frozen_of hq1 4
  have qq5:w6.cell? ⟨w4.heap.size+1,5,none⟩=some (.slice none 0 0):=cellsAt hq1 5
  have qqz5:w6.frozen? ⟨w4.heap.size+1,5,none⟩=false:=frozen_of hq1 5
  have qq6:w6.cell? ⟨w4.heap.size+1,6,none⟩=some (.int .i64 0):=cellsAt hq1 6
  have qqz6:w6.frozen? ⟨w4.heap.size+1,6,none⟩=false:=frozen_of hq1 6
  have qq7:w6.cell? ⟨w4.heap.size+1,7,none⟩=some (.int .i64 0):=cellsAt hq1 7
  have qqz7:w6.frozen? ⟨w4.heap.size+1,7,none⟩=false:=frozen_of hq1 7
  have qq8:w6.cell? ⟨w4.heap.size+1,8,none⟩=some (.int .i64 0):=cellsAt hq1 8
  have qqz8:w6.frozen? ⟨w4.heap.size+1,8,none⟩=false:=frozen_of hq1 8
  have qq9:w6.cell? ⟨w4.heap.size+1,9,none⟩=some (.int .i64 0):=cellsAt hq1 9
  have qqz9:w6.frozen? ⟨w4.heap.size+1,9,none⟩=false:=frozen_of hq1 9
  have qq10:w6.cell? ⟨w4.heap.size+1,10,none⟩=some (.int .i64 0):=cellsAt hq1 10
  have qqz10:w6.frozen? ⟨w4.heap.size+1,10,none⟩=false:=frozen_of hq1 10
  have qq11:w6.cell? ⟨w4.heap.size+1,11,none⟩=some (.slice none 0 0):=cellsAt hq1 11
  have qqz11:w6.frozen? ⟨w4.heap.size+1,11,none⟩=false:=frozen_of hq1 11
  obtain ⟨W6,hW6⟩:∃ W6,W6=((((((((((((w6.setCell ⟨w4.heap.size+1,0,none⟩ (.string t0d)).setCell ⟨w4.heap.size+1,1,none⟩ (.string t1d)).setCell ⟨w4.heap.size+1,2,none⟩ (.slice p2d k2d c2d)).setCell ⟨w4.heap.size+1,3,none⟩ (.slice p3d k3d c3d)).setCell ⟨w4.heap.size+1,4,none⟩ (.slice p4d k4d c4d)).setCell ⟨w4.heap.size+1,5,none⟩ (.slice p5d k5d c5d)).setCell ⟨w4.heap.size+1,6,none⟩ (.int .i64 i6d)).setCell ⟨w4.heap.size+1,7,none⟩ (.int .i64 i7d)).setCell ⟨w4.heap.size+1,8,none⟩ (.int .i64 i8d)).setCell ⟨w4.heap.size+1,9,none⟩ (.int .i64 i9d)).setCell ⟨w4.heap.size+1,10,none⟩ (.int .i64 i10d)).setCell ⟨w4.heap.size+1,11,none⟩ (.slice p11d k11d c11d)):=⟨_,rfl⟩
  have hF:W6=setAll (w4.heap.size+1) [.string t0d,.string t1d,.slice p2d k2d c2d,.slice p3d k3d c3d,.slice p4d k4d c4d,.slice p5d k5d c5d,.int .i64 i6d,.int .i64 i7d,.int .i64 i8d,.int .i64 i9d,.int .i64 i10d,.slice p11d k11d c11d] 0 w6:=by rw [hW6];simp only [setAll,Nat.zero_add,Nat.reduceAdd]
  have hsz6:W6.heap.size=w6.heap.size:=by rw [hF,setAll_size]
  have hr0:W6.heap[w4.heap.size]?=some (.cells #[.string t0c,.string t1c,.slice p2c k2c c2c,.slice p3c k3c c3c,.slice p4c k4c c4c,.slice p5c k5c c5c,.int .i64 i6c,.int .i64 i7c,.int .i64 i8c,.int .i64 i9c,.int .i64 i10c,.slice p11c k11c c11c] 30 (0,0)):=by rw [hF];exact (setAll_other (by omega) _ _ _).trans hq0
  have hr1:W6.heap[w4.heap.size+1]?=some (.cells #[.string t0d,.string t1d,.slice p2d k2d c2d,.slice p3d k3d c3d,.slice p4d k4d c4d,.slice p5d k5d c5d,.int .i64 i6d,.int .i64 i7d,.int .i64 i8d,.int .i64 i9d,.int .i64 i10d,.slice p11d k11d c11d] 30 (0,0)):=by rw [hF];exact setAll12 hq1 _ _ _ _ _ _ _ _ _ _ _ _
  have hr2:W6.heap[w4.heap.size+1+1]?=some (.cells azN 30 (0,0)):=by rw [hF];exact (setAll_other (by omega) _ _ _).trans hq2
  have HRD1:Hid (Res W6 E2 N2 #[.string t0d,.string t1d,.slice p2d k2d c2d,.slice p3d k3d c3d,.slice p4d k4d c4d,.slice p5d k5d c5d,.int .i64 i6d,.int .i64 i7d,.int .i64 i8d,.int .i64 i9d,.int .i64 i10d,.slice p11d k11d c11d]):=by rw [hF];exact hR.setAll (NBox.of hq1) _ _
  have HRD0n:Hid (Res W6 E1 N1 #[.string t0c,.string t1c,.slice p2c k2c c2c,.slice p3c k3c c3c,.slice p4c k4c c4c,.slice p5c k5c c5c,.int .i64 i6c,.int .i64 i7c,.int .i64 i8c,.int .i64 i9c,.int .i64 i10c,.slice p11c k11c c11c]):=by rw [hF];exact (HRD0.out.below hb).setAll (NBox.of hq1) _ _
  clear HRD0
  have HRD0:Hid (Res W6 E1 N1 #[.string t0c,.string t1c,.slice p2c k2c c2c,.slice p3c k3c c3c,.slice p4c k4c c4c,.slice p5c k5c c5c,.int .i64 i6c,.int .i64 i7c,.int .i64 i8c,.int .i64 i9c,.int .i64 i10c,.slice p11c k11c c11c]):=HRD0n.out
  clear HRD0n
  have hbb:Below w4.heap.size W5 W6:=by rw [hF];exact setAll_below (by omega) _ _ (hb.mono (by omega))
  have HL6:Hid (Below W0.heap.size W0 W6):=HL5.out.trans (hbb.mono (by have:=HL3.out.size;omega))
  have HBB6:Hid (Below w4.heap.size W4 W6):=HBB5.out.trans (hbb.mono (Nat.le_refl _))
  clear HQ0 HQ1 HQ2
  have HQ0:Hid (W6.heap[w4.heap.size]?=some (.cells #[.string t0c,.string t1c,.slice p2c k2c c2c,.slice p3c k3c c3c,.slice p4c k4c c4c,.slice p5c k5c c5c,.int .i64 i6c,.int .i64 i7c,.int .i64 i8c,.int .i64 i9c,.int .i64 i10c,.slice p11c k11c c11c] 30 (0,0))):=hr0
  have HQ1:Hid (W6.heap[w4.heap.size+1]?=some (.cells #[.string t0d,.string t1d,.slice p2d k2d c2d,.slice p3d k3d c3d,.slice p4d k4d c4d,.slice p5d k5d c5d,.int .i64 i6d,.int .i64 i7d,.int .i64 i8d,.int .i64 i9d,.int .i64 i10d,.slice p11d k11d c11d] 30 (0,0))):=hr1
  have HQ2:Hid (W6.heap[w4.heap.size+1+1]?=some (.cells azN 30 (0,0))):=hr2
  obtain ⟨hg,hsx,_⟩:=HBX.out W6 HL6.out
  have a0:W6.cell? ⟨w.heap.size,0,none⟩=some (.string t0a):=cellsAt hg 0
  have a1:W6.cell? ⟨w.heap.size,1,none⟩=some (.string t1a):=cellsAt hg 1
  have a2:W6.cell? ⟨w.heap.size,2,none⟩=some (.slice p2a k2a c2a):=cellsAt hg 2
  have a3:W6.cell? ⟨w.heap.size,3,none⟩=some (.slice p3a k3a c3a):=cellsAt hg 3
  have a4:W6.cell? ⟨w.heap.size,4,none⟩=some (.slice p4a k4a c4a):=cellsAt hg 4
  have a5:W6.cell? ⟨w.heap.size,5,none⟩=some (.slice p5a k5a c5a):=cellsAt hg 5
  have a6:W6.cell? ⟨w.heap.size,6,none⟩=some (.int .i64 i6a):=cellsAt hg 6
  have a7:W6.cell? ⟨w.heap.size,7,none⟩=some (.int .i64 i7a):=cellsAt hg 7
  have a8:W6.cell? ⟨w.heap.size,8,none⟩=some (.int .i64 i8a):=cellsAt hg 8
  have a9:W6.cell? ⟨w.heap.size,9,none⟩=some (.int .i64 i9a):=cellsAt hg 9
  have a10:W6.cell? ⟨w.heap.size,10,none⟩=some (.int .i64 i10a):=cellsAt hg 10
  have a11:W6.cell? ⟨w.heap.size,11,none⟩=some (.slice p11a k11a c11a):=cellsAt hg 11
  clear hg hsx hF hr0 hr1 hr2 hq0 hq1 hq2 hb hbb hR hs4
  go_upto_region 10 with fail
  rw [← hW6]
  clear hW6 qq0 qqz0 qq1 qqz1 qq2 qqz2 qq3 qqz3 qq4 qqz4 qq5 qqz5 qq6 qqz6 qq7 qqz7 qq8 qqz8 qq9 qqz9 qq10 qqz10 qq11 qqz11
  go_wp2_with fail
  refine (HD3.out W6 (HBX.out W6 HL6.out).2.2).mono ?_
  rintro e w7 ⟨C7,rfl,hR,hb⟩
  have hs4:=HS4.out
  have hz7:W6.heap.size≤w7.heap.size:=hb.size
  obtain ⟨t0e,t1e,p2e,k2e,c2e,p3e,k3e,c3e,p4e,k4e,c4e,p5e,k5e,c5e,i6e,i7e,i8e,i9e,i10e,p11e,k11e,c11e,rfl⟩:=hR.is.letters
  simp only [ndV] at hR ⊢
  have hq2:w7.heap[w4.heap.size+1+1]?=some (.cells azN 30 (0,0)):=(hb.block _ (by omega)).trans HQ2.out
  have hq0:w7.heap[w4.heap.size]?=some (.cells #[.string t0c,.string t1c,.slice p2c k2c c2c,.slice p3c k3c c3c,.slice p4c k4c c4c,.slice p5c k5c c5c,.int .i64 i6c,.int .i64 i7c,.int .i64 i8c,.int .i64 i9c,.int .i64 i10c,.slice p11c k11c c11c] 30 (0,0)):=(hb.block _ (by omega)).trans HQ0.out
  have hq1:w7.heap[w4.heap.size+1]?=some (.cells #[.string t0d,.string t1d,.slice p2d k2d c2d,.slice p3d k3d c3d,.slice p4d k4d c4d,.slice p5d k5d c5d,.int .i64 i6d,.int .i64 i7d,.int .i64 i8d,.int .i64 i9d,.int .i64 i10d,.slice p11d k11d c11d] 30 (0,0)):=(hb.block _ (by omega)).trans HQ1.out
  clear a0 a1 a2 a3 a4 a5 a6 a7 a8 a9 a10 a11
  have qq0:w7.cell? ⟨w4.heap.size+1+1,0,none⟩=some (.string ⟨#[]⟩):=cellsAt hq2 0
  have qqz0:w7.frozen? ⟨w4.heap.size+1+1,0,none⟩=false:=frozen_of hq2 0
  have qq1:w7.cell? ⟨w4.heap.size+1+1,1,none⟩=some (.string ⟨#[]⟩):=cellsAt hq2 1
  have qqz1:w7.frozen? ⟨w4.heap.size+1+1,1,none⟩=false:=frozen_of hq2 1
  have qq2:w7.cell? ⟨w4.heap.size+1+1,2,none⟩=some (.slice none 0 0):=cellsAt hq2 2
  have qqz2:w7.frozen? ⟨w4.heap.size+1+1,2,none⟩=false:=frozen_of hq2 2
  have qq3:w7.cell? ⟨w4.heap.size+1+1,3,none⟩=some (.slice none 0 0):=cellsAt hq2 3
  have qqz3:w7.frozen? ⟨w4.heap.size+1+1,3,none⟩=false:=frozen_of hq2 3
  have qq4:w7.cell? ⟨w4.heap.size+1+1,4,none⟩=some (.slice none 0 0):=cellsAt hq2 4
  have qqz4:w7.frozen? ⟨w4.heap.size+1+1,4,none⟩=false:=frozen_of hq2 4
  have qq5:w7.cell? ⟨w4.heap.size+1+1,5,none⟩=some (.slice none 0 0):=cellsAt hq2 5
  have qqz5:w7.frozen? ⟨w4.heap.size+1+1,5,none⟩=false:=frozen_of hq2 5
  have qq6:w7.cell? ⟨w4.heap.size+1+1,6,none⟩=some (.int .i64 0):=cellsAt hq2 6
  have qqz6:w7.frozen? ⟨w4.heap.size+1+1,6,none⟩=false:=frozen_of hq2 6
  have qq7:w7.cell? ⟨w4.heap.size+1+1,7,none⟩=some (.int .i64 0):=cellsAt hq2 7
  have qqz7:w7.frozen? ⟨w4.heap.size+1+1,7,none⟩=false:=frozen_of hq2 7
  have qq8:w7.cell? ⟨w4.heap.size+1+1,8,none⟩=some (.int .i64 0):=cellsAt hq2 8
  have qqz8:w7.frozen? ⟨w4.heap.size+1+1,8,none⟩=false:=frozen_of hq2 8
  have qq9:w7.cell? ⟨w4.heap.size+1+1,9,none⟩=some (.int .i64 0):=cellsAt hq2 9
  have qqz9:w7.frozen? ⟨w4.heap.size+1+1,9,none⟩=false:=frozen_of hq2 9
  have qq10:w7.cell? ⟨w4.heap.size+1+1,10,none⟩=some (.int .i64 0):=cellsAt hq2 10
  have qqz10:w7.frozen? ⟨w4.heap.size+1+1,10,none⟩=false:=frozen_of hq2 10
  have qq11:w7.cell? ⟨w4.heap.size+1+1,11,none⟩=some (.slice none 0 0):=cellsAt hq2 11
  have qqz11:w7.frozen? ⟨w4.heap.size+1+1,11,none⟩=false:=frozen_of hq2 11
  obtain ⟨W7,hW7⟩:∃ W7,W7=((((((((((((w7.setCell ⟨w4.heap.size+1+1,0,none⟩ (.string t0e)).setCell ⟨w4.heap.size+1+1,1,none⟩ (.string t1e)).setCell ⟨w4.heap.size+1+1,2,none⟩ (.slice p2e k2e c2e)).setCell ⟨w4.heap.size+1+1,3,none⟩ (.slice p3e k3e c3e)).setCell ⟨w4.heap.size+1+1,4,none⟩ (.slice p4e k4e c4e)).setCell ⟨w4.heap.size+1+1,5,none⟩ (.slice p5e k5e c5e)).setCell ⟨w4.heap.size+1+1,6,none⟩ (.int .i64 i6e)).setCell ⟨w4.heap.size+1+1,7,none⟩ (.int .i64 i7e)).setCell ⟨w4.heap.size+1+1,8,none⟩ (.int .i64 i8e)).setCell ⟨w4.heap.size+1+1,9,none⟩ (.int .i64 i9e)).setCell ⟨w4.heap.size+1+1,10,none⟩ (.int .i64 i10e)).setCell ⟨w4.heap.size+1+1,11,none⟩ (.slice p11e k11e c11e)):=⟨_,rfl⟩
  have hF:W7=setAll (w4.heap.size+1+1) [.string t0e,.string t1e,.slice p2e k2e c2e,.slice p3e k3e c3e,.slice p4e k4e c4e,.slice p5e k5e c5e,.int .i64 i6e,.int .i64 i7e,.int .i64 i8e,.int .i64 i9e,.int .i64 i10e,.slice p11e k11e c11e] 0 w7:=by rw [hW7];simp only [setAll,Nat.zero_add,Nat.reduceAdd]
  have hsz7:W7.heap.size=w7.heap.size:=by rw [hF,setAll_size]
  have hr0:W7.heap[w4.heap.size]?=some (.cells #[.string t0c,.string t1c,.slice p2c k2c c2c,.slice p3c k3c c3c,.slice p4c k4c c4c,.slice p5c k5c c5c,.int .i64 i6c,.int .i64 i7c,.int .i64 i8c,.int .i64 i9c,.int .i64 i10c,.slice p11c k11c c11c] 30 (0,0)):=by rw [hF];exact (setAll_other (by omega) _ _ _).trans hq0
  have hr1:W7.heap[w4.heap.size+1]?=some (.cells #[.string t0d,.string t1d,.slice p2d k2d c2d,.slice p3d k3d c3d,.slice p4d k4d c4d,.slice p5d k5d c5d,.int .i64 i6d,.int .i64 i7d,.int .i64 i8d,.int .i64 i9d,.int .i64 i10d,.slice p11d k11d c11d] 30 (0,0)):=by rw [hF];exact (setAll_other (by omega) _ _ _).trans hq1
  have hr2:W7.heap[w4.heap.size+1+1]?=some (.cells #[.string t0e,.string t1e,.slice p2e k2e c2e,.slice p3e k3e c3e,.slice p4e k4e c4e,.slice p5e k5e c5e,.int .i64 i6e,.int .i64 i7e,.int .i64 i8e,.int .i64 i9e,.int .i64 i10e,.slice p11e k11e c11e] 30 (0,0)):=by rw [hF];exact setAll12 hq2 _ _ _ _ _ _ _ _ _ _ _ _
  have HRD2:Hid (Res W7 E3 N3 #[.string t0e,.string t1e,.slice p2e k2e c2e,.slice p3e k3e c3e,.slice p4e k4e c4e,.slice p5e k5e c5e,.int .i64 i6e,.int .i64 i7e,.int .i64 i8e,.int .i64 i9e,.int .i64 i10e,.slice p11e k11e c11e]):=by rw [hF];exact hR.setAll (NBox.of hq2) _ _
  have HRD0n:Hid (Res W7 E1 N1 #[.string t0c,.string t1c,.slice p2c k2c c2c,.slice p3c k3c c3c,.slice p4c k4c c4c,.slice p5c k5c c5c,.int .i64 i6c,.int .i64 i7c,.int .i64 i8c,.int .i64 i9c,.int .i64 i10c,.slice p11c k11c c11c]):=by rw [hF];exact (HRD0.out.below hb).setAll (NBox.of hq2) _ _
  clear HRD0
  have HRD0:Hid (Res W7 E1 N1 #[.string t0c,.string t1c,.slice p2c k2c c2c,.slice p3c k3c c3c,.slice p4c k4c c4c,.slice p5c k5c c5c,.int .i64 i6c,.int .i64 i7c,.int .i64 i8c,.int .i64 i9c,.int .i64 i10c,.slice p11c k11c c11c]):=HRD0n.out
  clear HRD0n
  have HRD1n:Hid (Res W7 E2 N2 #[.string t0d,.string t1d,.slice p2d k2d c2d,.slice p3d k3d c3d,.slice p4d k4d c4d,.slice p5d k5d c5d,.int .i64 i6d,.int .i64 i7d,.int .i64 i8d,.int .i64 i9d,.int .i64 i10d,.slice p11d k11d c11d]):=by rw [hF];exact (HRD1.out.below hb).setAll (NBox.of hq2) _ _
  clear HRD1
  have HRD1:Hid (Res W7 E2 N2 #[.string t0d,.string t1d,.slice p2d k2d c2d,.slice p3d k3d c3d,.slice p4d k4d c4d,.slice p5d k5d c5d,.int .i64 i6d,.int .i64 i7d,.int .i64 i8d,.int .i64 i9d,.int .i64 i10d,.slice p11d k11d c11d]):=HRD1n.out
  clear HRD1n
  have hbb:Below w4.heap.size W6 W7:=by rw [hF];exact setAll_below (by omega) _ _ (hb.mono (by omega))
  have HL7:Hid (Below W0.heap.size W0 W7):=HL6.out.trans (hbb.mono (by have:=HL3.out.size;omega))
  have HBB7:Hid (Below w4.heap.size W4 W7):=HBB6.out.trans (hbb.mono (Nat.le_refl _))
  clear HQ0 HQ1 HQ2
  have HQ0:Hid (W7.heap[w4.heap.size]?=some (.cells #[.string t0c,.string t1c,.slice p2c k2c c2c,.slice p3c k3c c3c,.slice p4c k4c c4c,.slice p5c k5c c5c,.int .i64 i6c,.int .i64 i7c,.int .i64 i8c,.int .i64 i9c,.int .i64 i10c,.slice p11c k11c c11c] 30 (0,0))):=hr0
  have HQ1:Hid (W7.heap[w4.heap.size+1]?=some (.cells #[.string t0d,.string t1d,.slice p2d k2d c2d,.slice p3d k3d c3d,.slice p4d k4d c4d,.slice p5d k5d c5d,.int .i64 i6d,.int .i64 i7d,.int .i64 i8d,.int .i64 i9d,.int .i64 i10d,.slice p11d k11d c11d] 30 (0,0))):=hr1
  have HQ2:Hid (W7.heap[w4.heap.size+1+1]?=some (.cells #[.string t0e,.string t1e,.slice p2e k2e c2e,.slice p3e k3e c3e,.slice p4e k4e c4e,.slice p5e k5e c5e,.int .i64 i6e,.int .i64 i7e,.int .i64 i8e,.int .i64 i9e,.int .i64 i10e,.slice p11e k11e c11e] 30 (0,0))):=hr2
  obtain ⟨hg,hsx,_⟩:=HBX.out W7 HL7.out
  have a0:W7.cell? ⟨w.heap.size,0,none⟩=some (.string t0a):=cellsAt hg 0
  have a1:W7.cell? ⟨w.heap.size,1,none⟩=some (.string t1a):=cellsAt hg 1
  have a2:W7.cell? ⟨w.heap.size,2,none⟩=some (.slice p2a k2a c2a):=cellsAt hg 2
  have a3:W7.cell? ⟨w.heap.size,3,none⟩=some (.slice p3a k3a c3a):=cellsAt hg 3
  have a4:W7.cell? ⟨w.heap.size,4,none⟩=some (.slice p4a k4a c4a):=cellsAt hg 4
  have a5:W7.cell? ⟨w.heap.size,5,none⟩=some (.slice p5a k5a c5a):=cellsAt hg 5
  have a6:W7.cell? ⟨w.heap.size,6,none⟩=some (.int .i64 i6a):=cellsAt hg 6
  have a7:W7.cell? ⟨w.heap.size,7,none⟩=some (.int .i64 i7a):=cellsAt hg 7
  have a8:W7.cell? ⟨w.heap.size,8,none⟩=some (.int .i64 i8a):=cellsAt hg 8
  have a9:W7.cell? ⟨w.heap.size,9,none⟩=some (.int .i64 i9a):=cellsAt hg 9
  have a10:W7.cell? ⟨w.heap.size,10,none⟩=some (.int .i64 i10a):=cellsAt hg 10
  have a11:W7.cell? ⟨w.heap.size,11,none⟩=some (.slice p11a k11a c11a):=cellsAt hg 11
  clear hg hsx hF hr0 hr1 hr2 hq0 hq1 hq2 hb hbb hR hs4
  go_upto_region 11 with fail
  rw [← hW7]
  clear hW7 qq0 qqz0 qq1 qqz1 qq2 qqz2 qq3 qqz3 qq4 qqz4 qq5 qqz5 qq6 qqz6 qq7 qqz7 qq8 qqz8 qq9 qqz9 qq10 qqz10 qq11 qqz11
  have hs4:=HS4.out
  have hs1:=HS1.out
  have hs2:=HS2.out
  have hs3:=HS3.out
  have HGE:Hid (∀ W,Below W7.heap.size W7 W→W.heap[w1.heap.size]?=some (.cells #[.string t0x,.string t1x,.slice p2x k2x c2x,.slice p3x k3x c3x,.slice p4x k4x c4x,.slice p5x k5x c5x,.int .i64 i6x,.int .i64 i7x,.int .i64 i8x,.int .i64 i9x,.int .i64 i10x,.slice p11x k11x c11x] 30 (0,0))∧W.heap[w2.heap.size]?=some (.cells #[.string t0y,.string t1y,.slice p2y k2y c2y,.slice p3y k3y c3y,.slice p4y k4y c4y,.slice p5y k5y c5y,.int .i64 i6y,.int .i64 i7y,.int .i64 i8y,.int .i64 i9y,.int .i64 i10y,.slice p11y k11y c11y] 30 (0,0))∧W.heap[w3.heap.size]?=some (.cells #[.string t0z,.string t1z,.slice p2z k2z c2z,.slice p3z k3z c3z,.slice p4z k4z c4z,.slice p5z k5z c5z,.int .i64 i6z,.int .i64 i7z,.int .i64 i8z,.int .i64 i9z,.int .i64 i10z,.slice p11z k11z c11z] 30 (0,0))∧W.heap[w4.heap.size]?=some (.cells #[.string t0c,.string t1c,.slice p2c k2c c2c,.slice p3c k3c c3c,.slice p4c k4c c4c,.slice p5c k5c c5c,.int .i64 i6c,.int .i64 i7c,.int .i64 i8c,.int .i64 i9c,.int .i64 i10c,.slice p11c k11c c11c] 30 (0,0))∧W.heap[w4.heap.size+1]?=some (.cells #[.string t0d,.string t1d,.slice p2d k2d c2d,.slice p3d k3d c3d,.slice p4d k4d c4d,.slice p5d k5d c5d,.int .i64 i6d,.int .i64 i7d,.int .i64 i8d,.int .i64 i9d,.int .i64 i10d,.slice p11d k11d c11d] 30 (0,0))∧W.heap[w4.heap.size+1+1]?=some (.cells #[.string t0e,.string t1e,.slice p2e k2e c2e,.slice p3e k3e c3e,.slice p4e k4e c4e,.slice p5e k5e c5e,.int .i64 i6e,.int .i64 i7e,.int .i64 i8e,.int .i64 i9e,.int .i64 i10e,.slice p11e k11e c11e] 30 (0,0))∧Below w.heap.size w W):=fun W hW=>by
   have h4:Below w4.heap.size W4 W:=HBB7.out.trans (hW.mono (by omega))
   have h3:Below W3.heap.size W3 W:=HBB4.out.trans (h4.mono (by omega))
   have h2:Below W2.heap.size W2 W:=HBB3.out.trans (h3.mono (by omega))
   have h1:Below W1.heap.size W1 W:=HBB2.out.trans (h2.mono (by omega))
   exact ⟨(h1.block _ (by omega)).trans HG1.out,(h2.block _ (by omega)).trans HG2.out,(h3.block _ (by omega)).trans HG3.out,(hW.block _ (by omega)).trans HQ0.out,(hW.block _ (by omega)).trans HQ1.out,(hW.block _ (by omega)).trans HQ2.out,(HBX.out W (HL7.out.trans (hW.mono HL7.out.size))).2.2⟩
  have HPW:Hid (∀ W,Below W7.heap.size W7 W→Below w1.heap.size w1 W∧Below w2.heap.size w2 W∧Below w3.heap.size w3 W):=fun W hW=>by
   have h4:Below w4.heap.size W4 W:=HBB7.out.trans (hW.mono (by omega))
   have h3:Below W3.heap.size W3 W:=HBB4.out.trans (h4.mono (by omega))
   have h2:Below W2.heap.size W2 W:=HBB3.out.trans (h3.mono (by omega))
   have h1:Below W1.heap.size W1 W:=HBB2.out.trans (h2.mono (by omega))
   exact ⟨HA1.out.trans (h1.mono (by omega)),HA2.out.trans (h2.mono (by omega)),HA3.out.trans (h3.mono (by omega))⟩
  have HN1:Hid (∀ W,Below W7.heap.size W7 W→Calls Tryz.prog 16 #[.agg #[.string t0x,.string t1x,.slice p2x k2x c2x,.slice p3x k3x c3x,.slice p4x k4x c4x,.slice p5x k5x c5x,.int .i64 i6x,.int .i64 i7x,.int .i64 i8x,.int .i64 i9x,.int .i64 i10x,.slice p11x k11x c11x],.int .i64 E1,.int .i64 E1,.agg #[.string t0c,.string t1c,.slice p2c k2c c2c,.slice p3c k3c c3c,.slice p4c k4c c4c,.slice p5c k5c c5c,.int .i64 i6c,.int .i64 i7c,.int .i64 i8c,.int .i64 i9c,.int .i64 i10c,.slice p11c k11c c11c]] W fun e w'=>e=.returned (.bool true)∧Below W.heap.size W w'):=fun W hW=>nodeIs_res E1 N1 _ _ W (HR1.out.below (HPW.out W hW).1) (HRD0.out.below hW) HSM1.out
  have HN2:Hid (∀ W,Below W7.heap.size W7 W→Calls Tryz.prog 16 #[.agg #[.string t0y,.string t1y,.slice p2y k2y c2y,.slice p3y k3y c3y,.slice p4y k4y c4y,.slice p5y k5y c5y,.int .i64 i6y,.int .i64 i7y,.int .i64 i8y,.int .i64 i9y,.int .i64 i10y,.slice p11y k11y c11y],.int .i64 E2,.int .i64 E2,.agg #[.string t0d,.string t1d,.slice p2d k2d c2d,.slice p3d k3d c3d,.slice p4d k4d c4d,.slice p5d k5d c5d,.int .i64 i6d,.int .i64 i7d,.int .i64 i8d,.int .i64 i9d,.int .i64 i10d,.slice p11d k11d c11d]] W fun e w'=>e=.returned (.bool true)∧Below W.heap.size W w'):=fun W hW=>nodeIs_res E2 N2 _ _ W (HR2.out.below (HPW.out W hW).2.1) (HRD1.out.below hW) HSM2.out
  have HN3:Hid (∀ W,Below W7.heap.size W7 W→Calls Tryz.prog 16 #[.agg #[.string t0z,.string t1z,.slice p2z k2z c2z,.slice p3z k3z c3z,.slice p4z k4z c4z,.slice p5z k5z c5z,.int .i64 i6z,.int .i64 i7z,.int .i64 i8z,.int .i64 i9z,.int .i64 i10z,.slice p11z k11z c11z],.int .i64 E3,.int .i64 E3,.agg #[.string t0e,.string t1e,.slice p2e k2e c2e,.slice p3e k3e c3e,.slice p4e k4e c4e,.slice p5e k5e c5e,.int .i64 i6e,.int .i64 i7e,.int .i64 i8e,.int .i64 i9e,.int .i64 i10e,.slice p11e k11e c11e]] W fun e w'=>e=.returned (.bool true)∧Below W.heap.size W w'):=fun W hW=>nodeIs_res E3 N3 _ _ W (HR3.out.below (HPW.out W hW).2.2) (HRD2.out.below hW) HSM3.out
  clear a0 a1 a2 a3 a4 a5 a6 a7 a8 a9 a10 a11 hs1 hs2 hs3 hs4 hsz5 hsz6 hsz7 hz5 hz6 hz7
  clear hs0 hz1 hz2 hz3 hz4
  go_wp2_with fail
  refine (nodeBegun_any W7).mono ?_
  rintro e v0 ⟨rfl,hv⟩
  have HV0:Hid (Below W7.heap.size W7 v0):=hv
  clear hv
  obtain ⟨g0,g1,g2,g3,g4,g5,_⟩:=HGE.out v0 HV0.out
  have a0:v0.cell? ⟨w1.heap.size,0,none⟩=some (.string t0x):=cellsAt g0 0
  have a1:v0.cell? ⟨w1.heap.size,1,none⟩=some (.string t1x):=cellsAt g0 1
  have a2:v0.cell? ⟨w1.heap.size,2,none⟩=some (.slice p2x k2x c2x):=cellsAt g0 2
  have a3:v0.cell? ⟨w1.heap.size,3,none⟩=some (.slice p3x k3x c3x):=cellsAt g0 3
  have a4:v0.cell? ⟨w1.heap.size,4,none⟩=some (.slice p4x k4x c4x):=cellsAt g0 4
  have a5:v0.cell? ⟨w1.heap.size,5,none⟩=some (.slice p5x k5x c5x):=cellsAt g0 5
  have a6:v0.cell? ⟨w1.heap.size,6,none⟩=some (.int .i64 i6x):=cellsAt g0 6
  have a7:v0.cell? ⟨w1.heap.size,7,none⟩=some (.int .i64 i7x):=cellsAt g0 7
  have a8:v0.cell? ⟨w1.heap.size,8,none⟩=some (.int .i64 i8x):=cellsAt g0 8
  have a9:v0.cell? ⟨w1.heap.size,9,none⟩=some (.int .i64 i9x):=cellsAt g0 9
  have a10:v0.cell? ⟨w1.heap.size,10,none⟩=some (.int .i64 i10x):=cellsAt g0 10
  have a11:v0.cell? ⟨w1.heap.size,11,none⟩=some (.slice p11x k11x c11x):=cellsAt g0 11
  have b0:v0.cell? ⟨w4.heap.size,0,none⟩=some (.string t0c):=cellsAt g3 0
  have b1:v0.cell? ⟨w4.heap.size,1,none⟩=some (.string t1c):=cellsAt g3 1
  have b2:v0.cell? ⟨w4.heap.size,2,none⟩=some (.slice p2c k2c c2c):=cellsAt g3 2
  have b3:v0.cell? ⟨w4.heap.size,3,none⟩=some (.slice p3c k3c c3c):=cellsAt g3 3
  have b4:v0.cell? ⟨w4.heap.size,4,none⟩=some (.slice p4c k4c c4c):=cellsAt g3 4
  have b5:v0.cell? ⟨w4.heap.size,5,none⟩=some (.slice p5c k5c c5c):=cellsAt g3 5
  have b6:v0.cell? ⟨w4.heap.size,6,none⟩=some (.int .i64 i6c):=cellsAt g3 6
  have b7:v0.cell? ⟨w4.heap.size,7,none⟩=some (.int .i64 i7c):=cellsAt g3 7
  have b8:v0.cell? ⟨w4.heap.size,8,none⟩=some (.int .i64 i8c):=cellsAt g3 8
  have b9:v0.cell? ⟨w4.heap.size,9,none⟩=some (.int .i64 i9c):=cellsAt g3 9
  have b10:v0.cell? ⟨w4.heap.size,10,none⟩=some (.int .i64 i10c):=cellsAt g3 10
  have b11:v0.cell? ⟨w4.heap.size,11,none⟩=some (.slice p11c k11c c11c):=cellsAt g3 11
  clear g0 g1 g2 g3 g4 g5
  go_wp2_with fail
  refine (HN1.out v0 HV0.out).mono ?_
  rintro e v1 ⟨rfl,hv⟩
  have HV1:Hid (Below W7.heap.size W7 v1):=HV0.out.trans (hv.mono HV0.out.size)
  clear a0 a1 a2 a3 a4 a5 a6 a7 a8 a9 a10 a11 b0 b1 b2 b3 b4 b5 b6 b7 b8 b9 b10 b11 hv
  obtain ⟨g0,g1,g2,g3,g4,g5,_⟩:=HGE.out v1 HV1.out
  have a0:v1.cell? ⟨w2.heap.size,0,none⟩=some (.string t0y):=cellsAt g1 0
  have a1:v1.cell? ⟨w2.heap.size,1,none⟩=some (.string t1y):=cellsAt g1 1
  have a2:v1.cell? ⟨w2.heap.size,2,none⟩=some (.slice p2y k2y c2y):=cellsAt g1 2
  have a3:v1.cell? ⟨w2.heap.size,3,none⟩=some (.slice p3y k3y c3y):=cellsAt g1 3
  have a4:v1.cell? ⟨w2.heap.size,4,none⟩=some (.slice p4y k4y c4y):=cellsAt g1 4
  have a5:v1.cell? ⟨w2.heap.size,5,none⟩=some (.slice p5y k5y c5y):=cellsAt g1 5
  have a6:v1.cell? ⟨w2.heap.size,6,none⟩=some (.int .i64 i6y):=cellsAt g1 6
  have a7:v1.cell? ⟨w2.heap.size,7,none⟩=some (.int .i64 i7y):=cellsAt g1 7
  have a8:v1.cell? ⟨w2.heap.size,8,none⟩=some (.int .i64 i8y):=cellsAt g1 8
  have a9:v1.cell? ⟨w2.heap.size,9,none⟩=some (.int .i64 i9y):=cellsAt g1 9
  have a10:v1.cell? ⟨w2.heap.size,10,none⟩=some (.int .i64 i10y):=cellsAt g1 10
  have a11:v1.cell? ⟨w2.heap.size,11,none⟩=some (.slice p11y k11y c11y):=cellsAt g1 11
  have b0:v1.cell? ⟨w4.heap.size+1,0,none⟩=some (.string t0d):=cellsAt g4 0
  have b1:v1.cell? ⟨w4.heap.size+1,1,none⟩=some (.string t1d):=cellsAt g4 1
  have b2:v1.cell? ⟨w4.heap.size+1,2,none⟩=some (.slice p2d k2d c2d):=cellsAt g4 2
  have b3:v1.cell? ⟨w4.heap.size+1,3,none⟩=some (.slice p3d k3d c3d):=cellsAt g4 3
  have b4:v1.cell? ⟨w4.heap.size+1,4,none⟩=some (.slice p4d k4d c4d):=cellsAt g4 4
  have b5:v1.cell? ⟨w4.heap.size+1,5,none⟩=some (.slice p5d k5d c5d):=cellsAt g4 5
  have b6:v1.cell? ⟨w4.heap.size+1,6,none⟩=some (.int .i64 i6d):=cellsAt g4 6
  have b7:v1.cell? ⟨w4.heap.size+1,7,none⟩=some (.int .i64 i7d):=cellsAt g4 7
  have b8:v1.cell? ⟨w4.heap.size+1,8,none⟩=some (.int .i64 i8d):=cellsAt g4 8
  have b9:v1.cell? ⟨w4.heap.size+1,9,none⟩=some (.int .i64 i9d):=cellsAt g4 9
  have b10:v1.cell? ⟨w4.heap.size+1,10,none⟩=some (.int .i64 i10d):=cellsAt g4 10
  have b11:v1.cell? ⟨w4.heap.size+1,11,none⟩=some (.slice p11d k11d c11d):=cellsAt g4 11
  clear g0 g1 g2 g3 g4 g5
  go_wp2_with fail
  refine (HN2.out v1 HV1.out).mono ?_
  rintro e v2 ⟨rfl,hv⟩
  have HV2:Hid (Below W7.heap.size W7 v2):=HV1.out.trans (hv.mono HV1.out.size)
  clear a0 a1 a2 a3 a4 a5 a6 a7 a8 a9 a10 a11 b0 b1 b2 b3 b4 b5 b6 b7 b8 b9 b10 b11 hv
  obtain ⟨g0,g1,g2,g3,g4,g5,_⟩:=HGE.out v2 HV2.out
  have a0:v2.cell? ⟨w3.heap.size,0,none⟩=some (.string t0z):=cellsAt g2 0
  have a1:v2.cell? ⟨w3.heap.size,1,none⟩=some (.string t1z):=cellsAt g2 1
  have a2:v2.cell? ⟨w3.heap.size,2,none⟩=some (.slice p2z k2z c2z):=cellsAt g2 2
  have a3:v2.cell? ⟨w3.heap.size,3,none⟩=some (.slice p3z k3z c3z):=cellsAt g2 3
  have a4:v2.cell? ⟨w3.heap.size,4,none⟩=some (.slice p4z k4z c4z):=cellsAt g2 4
  have a5:v2.cell? ⟨w3.heap.size,5,none⟩=some (.slice p5z k5z c5z):=cellsAt g2 5
  have a6:v2.cell? ⟨w3.heap.size,6,none⟩=some (.int .i64 i6z):=cellsAt g2 6
  have a7:v2.cell? ⟨w3.heap.size,7,none⟩=some (.int .i64 i7z):=cellsAt g2 7
  have a8:v2.cell? ⟨w3.heap.size,8,none⟩=some (.int .i64 i8z):=cellsAt g2 8
  have a9:v2.cell? ⟨w3.heap.size,9,none⟩=some (.int .i64 i9z):=cellsAt g2 9
  have a10:v2.cell? ⟨w3.heap.size,10,none⟩=some (.int .i64 i10z):=cellsAt g2 10
  have a11:v2.cell? ⟨w3.heap.size,11,none⟩=some (.slice p11z k11z c11z):=cellsAt g2 11
  have b0:v2.cell? ⟨w4.heap.size+1+1,0,none⟩=some (.string t0e):=cellsAt g5 0
  have b1:v2.cell? ⟨w4.heap.size+1+1,1,none⟩=some (.string t1e):=cellsAt g5 1
  have b2:v2.cell? ⟨w4.heap.size+1+1,2,none⟩=some (.slice p2e k2e c2e):=cellsAt g5 2
  have b3:v2.cell? ⟨w4.heap.size+1+1,3,none⟩=some (.slice p3e k3e c3e):=cellsAt g5 3
  have b4:v2.cell? ⟨w4.heap.size+1+1,4,none⟩=some (.slice p4e k4e c4e):=cellsAt g5 4
  have b5:v2.cell? ⟨w4.heap.size+1+1,5,none⟩=some (.slice p5e k5e c5e):=cellsAt g5 5
  have b6:v2.cell? ⟨w4.heap.size+1+1,6,none⟩=some (.int .i64 i6e):=cellsAt g5 6
  have b7:v2.cell? ⟨w4.heap.size+1+1,7,none⟩=some (.int .i64 i7e):=cellsAt g5 7
  have b8:v2.cell? ⟨w4.heap.size+1+1,8,none⟩=some (.int .i64 i8e):=cellsAt g5 8
  have b9:v2.cell? ⟨w4.heap.size+1+1,9,none⟩=some (.int .i64 i9e):=cellsAt g5 9
  have b10:v2.cell? ⟨w4.heap.size+1+1,10,none⟩=some (.int .i64 i10e):=cellsAt g5 10
  have b11:v2.cell? ⟨w4.heap.size+1+1,11,none⟩=some (.slice p11e k11e c11e):=cellsAt g5 11
  clear g0 g1 g2 g3 g4 g5
  go_wp2_with fail
  refine (HN3.out v2 HV2.out).mono ?_
  rintro e v3 ⟨rfl,hv⟩
  have HV3:Hid (Below W7.heap.size W7 v3):=HV2.out.trans (hv.mono HV2.out.size)
  clear a0 a1 a2 a3 a4 a5 a6 a7 a8 a9 a10 a11 b0 b1 b2 b3 b4 b5 b6 b7 b8 b9 b10 b11 hv
  go_wp2_with fail
  go_ret
  exact ⟨rfl,(HGE.out v3 HV3.out).2.2.2.2.2.2⟩
 ·have HNE:Hid (n.e≠0):=hne
  obtain ⟨t0a,t1a,p2a,k2a,c2a,p3a,k3a,c3a,p4a,k4a,c4a,p5a,k5a,c5a,i6a,i7a,i8a,i9a,i10a,p11a,k11a,c11a,rfl⟩:=h.letters
  simp only [ndV] at HP1 HP2 HP3 HCK ⊢
  clear h hne ht
  generalize wsE n t 1 2=E1 at *
  generalize wsN n t 2=N1 at *
  generalize wsE n t 2 3=E2 at *
  generalize wsN n t 3=N2 at *
  generalize lvE n=E3 at *
  generalize lvN n=N3 at *
  generalize n.e=ne at *
  obtain ⟨W0,hW0⟩:∃ W0,W0=w.alloc (.cells #[.string t0a,.string t1a,.slice p2a k2a c2a,.slice p3a k3a c3a,.slice p4a k4a c4a,.slice p5a k5a c5a,.int .i64 i6a,.int .i64 i7a,.int .i64 i8a,.int .i64 i9a,.int .i64 i10a,.slice p11a k11a c11a] 30):=⟨_,rfl⟩
  have hb0:Below w.heap.size w W0:=by rw [hW0];exact (Below.refl _ _).alloc (Nat.le_refl _) _
  have hg:W0.heap[w.heap.size]?=some (.cells #[.string t0a,.string t1a,.slice p2a k2a c2a,.slice p3a k3a c3a,.slice p4a k4a c4a,.slice p5a k5a c5a,.int .i64 i6a,.int .i64 i7a,.int .i64 i8a,.int .i64 i9a,.int .i64 i10a,.slice p11a k11a c11a] 30 (0,0)):=by rw [hW0];exact heap_alloc_new w _
  have hsx:True:=trivial
  have hs0:w.heap.size+1≤W0.heap.size:=by rw [hW0];simp
  have HB0:Hid (Below w.heap.size w W0):=hb0
  have HBX:Hid (∀ W,Below W0.heap.size W0 W→W.heap[w.heap.size]?=some (.cells #[.string t0a,.string t1a,.slice p2a k2a c2a,.slice p3a k3a c3a,.slice p4a k4a c4a,.slice p5a k5a c5a,.int .i64 i6a,.int .i64 i7a,.int .i64 i8a,.int .i64 i9a,.int .i64 i10a,.slice p11a k11a c11a] 30 (0,0))∧True∧Below w.heap.size w W):=fun W hW=>⟨(hW.block _ (by omega)).trans hg,trivial,hb0.trans (hW.mono hb0.size)⟩
  have HL0:Hid (Below W0.heap.size W0 W0):=Below.refl _ _
  have a0:W0.cell? ⟨w.heap.size,0,none⟩=some (.string t0a):=cellsAt hg 0
  have a1:W0.cell? ⟨w.heap.size,1,none⟩=some (.string t1a):=cellsAt hg 1
  have a2:W0.cell? ⟨w.heap.size,2,none⟩=some (.slice p2a k2a c2a):=cellsAt hg 2
  have a3:W0.cell? ⟨w.heap.size,3,none⟩=some (.slice p3a k3a c3a):=cellsAt hg 3
  have a4:W0.cell? ⟨w.heap.size,4,none⟩=some (.slice p4a k4a c4a):=cellsAt hg 4
  have a5:W0.cell? ⟨w.heap.size,5,none⟩=some (.slice p5a k5a c5a):=cellsAt hg 5
  have a6:W0.cell? ⟨w.heap.size,6,none⟩=some (.int .i64 i6a):=cellsAt hg 6
  have a7:W0.cell? ⟨w.heap.size,7,none⟩=some (.int .i64 i7a):=cellsAt hg 7
  have a8:W0.cell? ⟨w.heap.size,8,none⟩=some (.int .i64 i8a):=cellsAt hg 8
  have a9:W0.cell? ⟨w.heap.size,9,none⟩=some (.int .i64 i9a):=cellsAt hg 9
  have a10:W0.cell? ⟨w.heap.size,10,none⟩=some (.int .i64 i10a):=cellsAt hg 10
  have a11:W0.cell? ⟨w.heap.size,11,none⟩=some (.slice p11a k11a c11a):=cellsAt hg 11
  clear hb0 hg hsx
  go_enter Tryz.func7,Tryz.ntmps7
  go_upto_region 1 with fail
  rw [← hW0]
  clear hW0
  go_wp2_with fail
  refine (HP1.out W0 (HBX.out W0 HL0.out).2.2).mono ?_
  intro e w1 hh
  obtain ⟨A1,rfl,hR,hb⟩:=hh.res
  rw [if_neg HNE.out] at hR ⊢
  obtain ⟨t0x,t1x,p2x,k2x,c2x,p3x,k3x,c3x,p4x,k4x,c4x,p5x,k5x,c5x,i6x,i7x,i8x,i9x,i10x,p11x,k11x,c11x,rfl⟩:=hR.is.letters
  simp only [ndV] at hR ⊢
  have HR1:Hid (Res w1 ne N1 #[.string t0x,.string t1x,.slice p2x k2x c2x,.slice p3x k3x c3x,.slice p4x k4x c4x,.slice p5x k5x c5x,.int .i64 i6x,.int .i64 i7x,.int .i64 i8x,.int .i64 i9x,.int .i64 i10x,.slice p11x k11x c11x]):=hR
  obtain ⟨W1,hW1⟩:∃ W1,W1=w1.alloc (.cells #[.string t0x,.string t1x,.slice p2x k2x c2x,.slice p3x k3x c3x,.slice p4x k4x c4x,.slice p5x k5x c5x,.int .i64 i6x,.int .i64 i7x,.int .i64 i8x,.int .i64 i9x,.int .i64 i10x,.slice p11x k11x c11x] 30):=⟨_,rfl⟩
  have ha1:Below w1.heap.size w1 W1:=by rw [hW1];exact (Below.refl _ _).alloc (Nat.le_refl _) _
  have HG1:Hid (W1.heap[w1.heap.size]?=some (.cells #[.string t0x,.string t1x,.slice p2x k2x c2x,.slice p3x k3x c3x,.slice p4x k4x c4x,.slice p5x k5x c5x,.int .i64 i6x,.int .i64 i7x,.int .i64 i8x,.int .i64 i9x,.int .i64 i10x,.slice p11x k11x c11x] 30 (0,0))):=by rw [hW1];exact heap_alloc_new w1 _
  have hs1:W1.heap.size=w1.heap.size+1:=by rw [hW1];simp
  have hz1:W0.heap.size≤w1.heap.size:=hb.size
  have hbb:Below W0.heap.size W0 W1:=hb.trans (ha1.mono hb.size)
  have HL1:Hid (Below W0.heap.size W0 W1):=HL0.out.trans (hbb.mono HL0.out.size)
  have HA1:Hid (Below w1.heap.size w1 W1):=ha1
  have HBB1:Hid (Below W0.heap.size W0 W1):=hbb
  obtain ⟨hg,hsx,_⟩:=HBX.out W1 HL1.out
  clear a0 a1 a2 a3 a4 a5 a6 a7 a8 a9 a10 a11  hh hR hb ha1 hbb
  have a0:W1.cell? ⟨w.heap.size,0,none⟩=some (.string t0a):=cellsAt hg 0
  have a1:W1.cell? ⟨w.heap.size,1,none⟩=some (.string t1a):=cellsAt hg 1
  have a2:W1.cell? ⟨w.heap.size,2,none⟩=some (.slice p2a k2a c2a):=cellsAt hg 2
  have a3:W1.cell? ⟨w.heap.size,3,none⟩=some (.slice p3a k3a c3a):=cellsAt hg 3
  have a4:W1.cell? ⟨w.heap.size,4,none⟩=some (.slice p4a k4a c4a):=cellsAt hg 4
  have a5:W1.cell? ⟨w.heap.size,5,none⟩=some (.slice p5a k5a c5a):=cellsAt hg 5
  have a6:W1.cell? ⟨w.heap.size,6,none⟩=some (.int .i64 i6a):=cellsAt hg 6
  have a7:W1.cell? ⟨w.heap.size,7,none⟩=some (.int .i64 i7a):=cellsAt hg 7
  have a8:W1.cell? ⟨w.heap.size,8,none⟩=some (.int .i64 i8a):=cellsAt hg 8
  have a9:W1.cell? ⟨w.heap.size,9,none⟩=some (.int .i64 i9a):=cellsAt hg 9
  have a10:W1.cell? ⟨w.heap.size,10,none⟩=some (.int .i64 i10a):=cellsAt hg 10
  have a11:W1.cell? ⟨w.heap.size,11,none⟩=some (.slice p11a k11a c11a):=cellsAt hg 11
  clear hg hsx
  go_upto_region 2 with fail
  rw [← hW1]
  clear hW1
  have HS1:Hid (W1.heap.size=w1.heap.size+1):=hs1
  clear hs1
  go_wp2_with fail
  refine (HP2.out W1 (HBX.out W1 HL1.out).2.2).mono ?_
  intro e w2 hh
  obtain ⟨A2,rfl,hR,hb⟩:=hh.res
  rw [if_neg HNE.out] at hR ⊢
  obtain ⟨t0y,t1y,p2y,k2y,c2y,p3y,k3y,c3y,p4y,k4y,c4y,p5y,k5y,c5y,i6y,i7y,i8y,i9y,i10y,p11y,k11y,c11y,rfl⟩:=hR.is.letters
  simp only [ndV] at hR ⊢
  have HR2:Hid (Res w2 ne N2 #[.string t0y,.string t1y,.slice p2y k2y c2y,.slice p3y k3y c3y,.slice p4y k4y c4y,.slice p5y k5y c5y,.int .i64 i6y,.int .i64 i7y,.int .i64 i8y,.int .i64 i9y,.int .i64 i10y,.slice p11y k11y c11y]):=hR
  obtain ⟨W2,hW2⟩:∃ W2,W2=w2.alloc (.cells #[.string t0y,.string t1y,.slice p2y k2y c2y,.slice p3y k3y c3y,.slice p4y k4y c4y,.slice p5y k5y c5y,.int .i64 i6y,.int .i64 i7y,.int .i64 i8y,.int .i64 i9y,.int .i64 i10y,.slice p11y k11y c11y] 30):=⟨_,rfl⟩
  have ha2:Below w2.heap.size w2 W2:=by rw [hW2];exact (Below.refl _ _).alloc (Nat.le_refl _) _
  have HG2:Hid (W2.heap[w2.heap.size]?=some (.cells #[.string t0y,.string t1y,.slice p2y k2y c2y,.slice p3y k3y c3y,.slice p4y k4y c4y,.slice p5y k5y c5y,.int .i64 i6y,.int .i64 i7y,.int .i64 i8y,.int .i64 i9y,.int .i64 i10y,.slice p11y k11y c11y] 30 (0,0))):=by rw [hW2];exact heap_alloc_new w2 _
  have hs2:W2.heap.size=w2.heap.size+1:=by rw [hW2];simp
  have hz2:W1.heap.size≤w2.heap.size:=hb.size
  have hbb:Below W1.heap.size W1 W2:=hb.trans (ha2.mono hb.size)
  have HL2:Hid (Below W0.heap.size W0 W2):=HL1.out.trans (hbb.mono HL1.out.size)
  have HA2:Hid (Below w2.heap.size w2 W2):=ha2
  have HBB2:Hid (Below W1.heap.size W1 W2):=hbb
  obtain ⟨hg,hsx,_⟩:=HBX.out W2 HL2.out
  clear a0 a1 a2 a3 a4 a5 a6 a7 a8 a9 a10 a11  hh hR hb ha2 hbb
  have a0:W2.cell? ⟨w.heap.size,0,none⟩=some (.string t0a):=cellsAt hg 0
  have a1:W2.cell? ⟨w.heap.size,1,none⟩=some (.string t1a):=cellsAt hg 1
  have a2:W2.cell? ⟨w.heap.size,2,none⟩=some (.slice p2a k2a c2a):=cellsAt hg 2
  have a3:W2.cell? ⟨w.heap.size,3,none⟩=some (.slice p3a k3a c3a):=cellsAt hg 3
  have a4:W2.cell? ⟨w.heap.size,4,none⟩=some (.slice p4a k4a c4a):=cellsAt hg 4
  have a5:W2.cell? ⟨w.heap.size,5,none⟩=some (.slice p5a k5a c5a):=cellsAt hg 5
  have a6:W2.cell? ⟨w.heap.size,6,none⟩=some (.int .i64 i6a):=cellsAt hg 6
  have a7:W2.cell? ⟨w.heap.size,7,none⟩=some (.int .i64 i7a):=cellsAt hg 7
  have a8:W2.cell? ⟨w.heap.size,8,none⟩=some (.int .i64 i8a):=cellsAt hg 8
  have a9:W2.cell? ⟨w.heap.size,9,none⟩=some (.int .i64 i9a):=cellsAt hg 9
  have a10:W2.cell? ⟨w.heap.size,10,none⟩=some (.int .i64 i10a):=cellsAt hg 10
  have a11:W2.cell? ⟨w.heap.size,11,none⟩=some (.slice p11a k11a c11a):=cellsAt hg 11
  clear hg hsx
  go_upto_region 3 with fail
  rw [← hW2]
  clear hW2
  have HS2:Hid (W2.heap.size=w2.heap.size+1):=hs2
  clear hs2
  go_wp2_with fail
  refine (HP3.out W2 (HBX.out W2 HL2.out).2.2).mono ?_
  intro e w3 hh
  obtain ⟨A3,rfl,hR,hb⟩:=hh.res
  rw [if_neg HNE.out] at hR ⊢
  obtain ⟨t0z,t1z,p2z,k2z,c2z,p3z,k3z,c3z,p4z,k4z,c4z,p5z,k5z,c5z,i6z,i7z,i8z,i9z,i10z,p11z,k11z,c11z,rfl⟩:=hR.is.letters
  simp only [ndV] at hR ⊢
  have HR3:Hid (Res w3 ne N3 #[.string t0z,.string t1z,.slice p2z k2z c2z,.slice p3z k3z c3z,.slice p4z k4z c4z,.slice p5z k5z c5z,.int .i64 i6z,.int .i64 i7z,.int .i64 i8z,.int .i64 i9z,.int .i64 i10z,.slice p11z k11z c11z]):=hR
  obtain ⟨W3,hW3⟩:∃ W3,W3=w3.alloc (.cells #[.string t0z,.string t1z,.slice p2z k2z c2z,.slice p3z k3z c3z,.slice p4z k4z c4z,.slice p5z k5z c5z,.int .i64 i6z,.int .i64 i7z,.int .i64 i8z,.int .i64 i9z,.int .i64 i10z,.slice p11z k11z c11z] 30):=⟨_,rfl⟩
  have ha3:Below w3.heap.size w3 W3:=by rw [hW3];exact (Below.refl _ _).alloc (Nat.le_refl _) _
  have HG3:Hid (W3.heap[w3.heap.size]?=some (.cells #[.string t0z,.string t1z,.slice p2z k2z c2z,.slice p3z k3z c3z,.slice p4z k4z c4z,.slice p5z k5z c5z,.int .i64 i6z,.int .i64 i7z,.int .i64 i8z,.int .i64 i9z,.int .i64 i10z,.slice p11z k11z c11z] 30 (0,0))):=by rw [hW3];exact heap_alloc_new w3 _
  have hs3:W3.heap.size=w3.heap.size+1:=by rw [hW3];simp
  have hz3:W2.heap.size≤w3.heap.size:=hb.size
  have hbb:Below W2.heap.size W2 W3:=hb.trans (ha3.mono hb.size)
  have HL3:Hid (Below W0.heap.size W0 W3):=HL2.out.trans (hbb.mono HL2.out.size)
  have HA3:Hid (Below w3.heap.size w3 W3):=ha3
  have HBB3:Hid (Below W2.heap.size W2 W3):=hbb
  obtain ⟨hg,hsx,_⟩:=HBX.out W3 HL3.out
  clear a0 a1 a2 a3 a4 a5 a6 a7 a8 a9 a10 a11  hh hR hb ha3 hbb
  have a0:W3.cell? ⟨w.heap.size,0,none⟩=some (.string t0a):=cellsAt hg 0
  have a1:W3.cell? ⟨w.heap.size,1,none⟩=some (.string t1a):=cellsAt hg 1
  have a2:W3.cell? ⟨w.heap.size,2,none⟩=some (.slice p2a k2a c2a):=cellsAt hg 2
  have a3:W3.cell? ⟨w.heap.size,3,none⟩=some (.slice p3a k3a c3a):=cellsAt hg 3
  have a4:W3.cell? ⟨w.heap.size,4,none⟩=some (.slice p4a k4a c4a):=cellsAt hg 4
  have a5:W3.cell? ⟨w.heap.size,5,none⟩=some (.slice p5a k5a c5a):=cellsAt hg 5
  have a6:W3.cell? ⟨w.heap.size,6,none⟩=some (.int .i64 i6a):=cellsAt hg 6
  have a7:W3.cell? ⟨w.heap.size,7,none⟩=some (.int .i64 i7a):=cellsAt hg 7
  have a8:W3.cell? ⟨w.heap.size,8,none⟩=some (.int .i64 i8a):=cellsAt hg 8
  have a9:W3.cell? ⟨w.heap.size,9,none⟩=some (.int .i64 i9a):=cellsAt hg 9
  have a10:W3.cell? ⟨w.heap.size,10,none⟩=some (.int .i64 i10a):=cellsAt hg 10
  have a11:W3.cell? ⟨w.heap.size,11,none⟩=some (.slice p11a k11a c11a):=cellsAt hg 11
  clear hg hsx
  go_upto_region 4 with fail
  rw [← hW3]
  clear hW3
  have HS3:Hid (W3.heap.size=w3.heap.size+1):=hs3
  clear hs3
  go_wp2_with fail
  refine (HCK.out W3 (HBX.out W3 HL3.out).2.2).mono ?_
  rintro e w4 ⟨rfl,hb⟩
  obtain ⟨W4,hW4⟩:∃ W4,W4=((w4.alloc (.cells #[.string ⟨#[]⟩,.string ⟨#[]⟩,.slice none 0 0,.slice none 0 0,.slice none 0 0,.slice none 0 0,.int .i64 0,.int .i64 0,.int .i64 0,.int .i64 0,.int .i64 0,.slice none 0 0] 30)).alloc (.cells #[.string ⟨#[]⟩,.string ⟨#[]⟩,.slice none 0 0,.slice none 0 0,.slice none 0 0,.slice none 0 0,.int .i64 0,.int .i64 0,.int .i64 0,.int .i64 0,.int .i64 0,.slice none 0 0] 30)).alloc (.cells #[.string ⟨#[]⟩,.string ⟨#[]⟩,.slice none 0 0,.slice none 0 0,.slice none 0 0,.slice none 0 0,.int .i64 0,.int .i64 0,.int .i64 0,.int .i64 0,.int .i64 0,.slice none 0 0] 30):=⟨_,rfl⟩
  have hx4:Below w4.heap.size w4 W4:=by rw [hW4];exact (((Below.refl _ _).alloc (Nat.le_refl _) _).alloc (by simp) _).alloc (by simp<;>omega) _
  have hq0:W4.heap[w4.heap.size]?=some (.cells azN 30 (0,0)):=by rw [hW4,Below.heap_alloc _ _ _ (by simp<;>omega),Below.heap_alloc _ _ _ (by simp)];exact heap_alloc_new w4 _
  have hq1:W4.heap[w4.heap.size+1]?=some (.cells azN 30 (0,0)):=by
   have h:=heap_alloc_new (w4.alloc (.cells #[.string ⟨#[]⟩,.string ⟨#[]⟩,.slice none 0 0,.slice none 0 0,.slice none 0 0,.slice none 0 0,.int .i64 0,.int .i64 0,.int .i64 0,.int .i64 0,.int .i64 0,.slice none 0 0] 30)) (.cells #[.string ⟨#[]⟩,.string ⟨#[]⟩,.slice none 0 0,.slice none 0 0,.slice none 0 0,.slice none 0 0,.int .i64 0,.int .i64 0,.int .i64 0,.int .i64 0,.int .i64 0,.slice none 0 0] 30)
   rw [hW4,Below.heap_alloc _ _ _ (by simp)];simpa [azN] using h
  have hq2:W4.heap[w4.heap.size+1+1]?=some (.cells azN 30 (0,0)):=by
   have h:=heap_alloc_new ((w4.alloc (.cells #[.string ⟨#[]⟩,.string ⟨#[]⟩,.slice none 0 0,.slice none 0 0,.slice none 0 0,.slice none 0 0,.int .i64 0,.int .i64 0,.int .i64 0,.int .i64 0,.int .i64 0,.slice none 0 0] 30)).alloc (.cells #[.string ⟨#[]⟩,.string ⟨#[]⟩,.slice none 0 0,.slice none 0 0,.slice none 0 0,.slice none 0 0,.int .i64 0,.int .i64 0,.int .i64 0,.int .i64 0,.int .i64 0,.slice none 0 0] 30)) (.cells #[.string ⟨#[]⟩,.string ⟨#[]⟩,.slice none 0 0,.slice none 0 0,.slice none 0 0,.slice none 0 0,.int .i64 0,.int .i64 0,.int .i64 0,.int .i64 0,.int .i64 0,.slice none 0 0] 30)
   rw [hW4];simpa [azN] using h
  have hs4:W4.heap.size=w4.heap.size+3:=by rw [hW4];simp
  have hz4:W3.heap.size≤w4.heap.size:=hb.size
  have hbb:Below W3.heap.size W3 W4:=hb.trans (hx4.mono hb.size)
  have HL4:Hid (Below W0.heap.size W0 W4):=HL3.out.trans (hbb.mono HL3.out.size)
  have HBB4:Hid (Below W3.heap.size W3 W4):=hbb
  have HQ0:Hid (W4.heap[w4.heap.size]?=some (.cells azN 30 (0,0))):=hq0
  have HQ1:Hid (W4.heap[w4.heap.size+1]?=some (.cells azN 30 (0,0))):=hq1
  have HQ2:Hid (W4.heap[w4.heap.size+1+1]?=some (.cells azN 30 (0,0))):=hq2
  obtain ⟨hg,hsx,_⟩:=HBX.out W4 HL4.out
  have HS4:Hid (W4.heap.size=w4.heap.size+3):=hs4
  clear a0 a1 a2 a3 a4 a5 a6 a7 a8 a9 a10 a11 hb hbb hx4 hq0 hq1 hq2 hs4
  have hne2:(ne == 0)=false:=by simpa using HNE.out
  clear hg hsx
  go_upto_region 11 with fail
  rw [← hW4]
  clear hW4
  have hs4:=HS4.out
  have hs1:=HS1.out
  have hs2:=HS2.out
  have hs3:=HS3.out
  have HGE:Hid (∀ W,Below W4.heap.size W4 W→W.heap[w1.heap.size]?=some (.cells #[.string t0x,.string t1x,.slice p2x k2x c2x,.slice p3x k3x c3x,.slice p4x k4x c4x,.slice p5x k5x c5x,.int .i64 i6x,.int .i64 i7x,.int .i64 i8x,.int .i64 i9x,.int .i64 i10x,.slice p11x k11x c11x] 30 (0,0))∧W.heap[w2.heap.size]?=some (.cells #[.string t0y,.string t1y,.slice p2y k2y c2y,.slice p3y k3y c3y,.slice p4y k4y c4y,.slice p5y k5y c5y,.int .i64 i6y,.int .i64 i7y,.int .i64 i8y,.int .i64 i9y,.int .i64 i10y,.slice p11y k11y c11y] 30 (0,0))∧W.heap[w3.heap.size]?=some (.cells #[.string t0z,.string t1z,.slice p2z k2z c2z,.slice p3z k3z c3z,.slice p4z k4z c4z,.slice p5z k5z c5z,.int .i64 i6z,.int .i64 i7z,.int .i64 i8z,.int .i64 i9z,.int .i64 i10z,.slice p11z k11z c11z] 30 (0,0))∧W.heap[w4.heap.size]?=some (.cells azN 30 (0,0))∧W.heap[w4.heap.size+1]?=some (.cells azN 30 (0,0))∧W.heap[w4.heap.size+1+1]?=some (.cells azN 30 (0,0))∧Below w.heap.size w W):=fun W hW=>by
   have h3:Below W3.heap.size W3 W:=HBB4.out.trans (hW.mono (by omega))
   have h2:Below W2.heap.size W2 W:=HBB3.out.trans (h3.mono (by omega))
   have h1:Below W1.heap.size W1 W:=HBB2.out.trans (h2.mono (by omega))
   exact ⟨(h1.block _ (by omega)).trans HG1.out,(h2.block _ (by omega)).trans HG2.out,(h3.block _ (by omega)).trans HG3.out,(hW.block _ (by omega)).trans HQ0.out,(hW.block _ (by omega)).trans HQ1.out,(hW.block _ (by omega)).trans HQ2.out,(HBX.out W (HL4.out.trans (hW.mono HL4.out.size))).2.2⟩
  have HPW:Hid (∀ W,Below W4.heap.size W4 W→Below w1.heap.size w1 W∧Below w2.heap.size w2 W∧Below w3.heap.size w3 W):=fun W hW=>by
   have h3:Below W3.heap.size W3 W:=HBB4.out.trans (hW.mono (by omega))
   have h2:Below W2.heap.size W2 W:=HBB3.out.trans (h3.mono (by omega))
   have h1:Below W1.heap.size W1 W:=HBB2.out.trans (h2.mono (by omega))
   exact ⟨HA1.out.trans (h1.mono (by omega)),HA2.out.trans (h2.mono (by omega)),HA3.out.trans (h3.mono (by omega))⟩
  have HN1:Hid (∀ W,Below W4.heap.size W4 W→Calls Tryz.prog 16 #[.agg #[.string t0x,.string t1x,.slice p2x k2x c2x,.slice p3x k3x c3x,.slice p4x k4x c4x,.slice p5x k5x c5x,.int .i64 i6x,.int .i64 i7x,.int .i64 i8x,.int .i64 i9x,.int .i64 i10x,.slice p11x k11x c11x],.int .i64 ne,.int .i64 ne,.agg azN] W fun e w'=>e=.returned (.bool true)∧Below W.heap.size W w'):=fun W hW=>nodeIs_res ne N1 _ _ W (HR1.out.below (HPW.out W hW).1) (.inl ⟨HNE.out,rfl⟩) (fun h=>absurd h HNE.out)
  have HN2:Hid (∀ W,Below W4.heap.size W4 W→Calls Tryz.prog 16 #[.agg #[.string t0y,.string t1y,.slice p2y k2y c2y,.slice p3y k3y c3y,.slice p4y k4y c4y,.slice p5y k5y c5y,.int .i64 i6y,.int .i64 i7y,.int .i64 i8y,.int .i64 i9y,.int .i64 i10y,.slice p11y k11y c11y],.int .i64 ne,.int .i64 ne,.agg azN] W fun e w'=>e=.returned (.bool true)∧Below W.heap.size W w'):=fun W hW=>nodeIs_res ne N2 _ _ W (HR2.out.below (HPW.out W hW).2.1) (.inl ⟨HNE.out,rfl⟩) (fun h=>absurd h HNE.out)
  have HN3:Hid (∀ W,Below W4.heap.size W4 W→Calls Tryz.prog 16 #[.agg #[.string t0z,.string t1z,.slice p2z k2z c2z,.slice p3z k3z c3z,.slice p4z k4z c4z,.slice p5z k5z c5z,.int .i64 i6z,.int .i64 i7z,.int .i64 i8z,.int .i64 i9z,.int .i64 i10z,.slice p11z k11z c11z],.int .i64 ne,.int .i64 ne,.agg azN] W fun e w'=>e=.returned (.bool true)∧Below W.heap.size W w'):=fun W hW=>nodeIs_res ne N3 _ _ W (HR3.out.below (HPW.out W hW).2.2) (.inl ⟨HNE.out,rfl⟩) (fun h=>absurd h HNE.out)
  clear hs1 hs2 hs3 hs4
  clear hs0 hz1 hz2 hz3 hz4
  go_wp2_with fail
  refine (nodeBegun_any W4).mono ?_
  rintro e v0 ⟨rfl,hv⟩
  have HV0:Hid (Below W4.heap.size W4 v0):=hv
  clear hv
  obtain ⟨g0,g1,g2,g3,g4,g5,_⟩:=HGE.out v0 HV0.out
  have a0:v0.cell? ⟨w1.heap.size,0,none⟩=some (.string t0x):=cellsAt g0 0
  have a1:v0.cell? ⟨w1.heap.size,1,none⟩=some (.string t1x):=cellsAt g0 1
  have a2:v0.cell? ⟨w1.heap.size,2,none⟩=some (.slice p2x k2x c2x):=cellsAt g0 2
  have a3:v0.cell? ⟨w1.heap.size,3,none⟩=some (.slice p3x k3x c3x):=cellsAt g0 3
  have a4:v0.cell? ⟨w1.heap.size,4,none⟩=some (.slice p4x k4x c4x):=cellsAt g0 4
  have a5:v0.cell? ⟨w1.heap.size,5,none⟩=some (.slice p5x k5x c5x):=cellsAt g0 5
  have a6:v0.cell? ⟨w1.heap.size,6,none⟩=some (.int .i64 i6x):=cellsAt g0 6
  have a7:v0.cell? ⟨w1.heap.size,7,none⟩=some (.int .i64 i7x):=cellsAt g0 7
  have a8:v0.cell? ⟨w1.heap.size,8,none⟩=some (.int .i64 i8x):=cellsAt g0 8
  have a9:v0.cell? ⟨w1.heap.size,9,none⟩=some (.int .i64 i9x):=cellsAt g0 9
  have a10:v0.cell? ⟨w1.heap.size,10,none⟩=some (.int .i64 i10x):=cellsAt g0 10
  have a11:v0.cell? ⟨w1.heap.size,11,none⟩=some (.slice p11x k11x c11x):=cellsAt g0 11
  have b0:v0.cell? ⟨w4.heap.size,0,none⟩=some (.string ⟨#[]⟩):=cellsAt g3 0
  have b1:v0.cell? ⟨w4.heap.size,1,none⟩=some (.string ⟨#[]⟩):=cellsAt g3 1
  have b2:v0.cell? ⟨w4.heap.size,2,none⟩=some (.slice none 0 0):=cellsAt g3 2
  have b3:v0.cell? ⟨w4.heap.size,3,none⟩=some (.slice none 0 0):=cellsAt g3 3
  have b4:v0.cell? ⟨w4.heap.size,4,none⟩=some (.slice none 0 0):=cellsAt g3 4
  have b5:v0.cell? ⟨w4.heap.size,5,none⟩=some (.slice none 0 0):=cellsAt g3 5
  have b6:v0.cell? ⟨w4.heap.size,6,none⟩=some (.int .i64 0):=cellsAt g3 6
  have b7:v0.cell? ⟨w4.heap.size,7,none⟩=some (.int .i64 0):=cellsAt g3 7
  have b8:v0.cell? ⟨w4.heap.size,8,none⟩=some (.int .i64 0):=cellsAt g3 8
  have b9:v0.cell? ⟨w4.heap.size,9,none⟩=some (.int .i64 0):=cellsAt g3 9
  have b10:v0.cell? ⟨w4.heap.size,10,none⟩=some (.int .i64 0):=cellsAt g3 10
  have b11:v0.cell? ⟨w4.heap.size,11,none⟩=some (.slice none 0 0):=cellsAt g3 11
  clear g0 g1 g2 g3 g4 g5
  go_wp2_with fail
  refine (HN1.out v0 HV0.out).mono ?_
  rintro e v1 ⟨rfl,hv⟩
  have HV1:Hid (Below W4.heap.size W4 v1):=HV0.out.trans (hv.mono HV0.out.size)
  clear a0 a1 a2 a3 a4 a5 a6 a7 a8 a9 a10 a11 b0 b1 b2 b3 b4 b5 b6 b7 b8 b9 b10 b11 hv
  obtain ⟨g0,g1,g2,g3,g4,g5,_⟩:=HGE.out v1 HV1.out
  have a0:v1.cell? ⟨w2.heap.size,0,none⟩=some (.string t0y):=cellsAt g1 0
  have a1:v1.cell? ⟨w2.heap.size,1,none⟩=some (.string t1y):=cellsAt g1 1
  have a2:v1.cell? ⟨w2.heap.size,2,none⟩=some (.slice p2y k2y c2y):=cellsAt g1 2
  have a3:v1.cell? ⟨w2.heap.size,3,none⟩=some (.slice p3y k3y c3y):=cellsAt g1 3
  have a4:v1.cell? ⟨w2.heap.size,4,none⟩=some (.slice p4y k4y c4y):=cellsAt g1 4
  have a5:v1.cell? ⟨w2.heap.size,5,none⟩=some (.slice p5y k5y c5y):=cellsAt g1 5
  have a6:v1.cell? ⟨w2.heap.size,6,none⟩=some (.int .i64 i6y):=cellsAt g1 6
  have a7:v1.cell? ⟨w2.heap.size,7,none⟩=some (.int .i64 i7y):=cellsAt g1 7
  have a8:v1.cell? ⟨w2.heap.size,8,none⟩=some (.int .i64 i8y):=cellsAt g1 8
  have a9:v1.cell? ⟨w2.heap.size,9,none⟩=some (.int .i64 i9y):=cellsAt g1 9
  have a10:v1.cell? ⟨w2.heap.size,10,none⟩=some (.int .i64 i10y):=cellsAt g1 10
  have a11:v1.cell? ⟨w2.heap.size,11,none⟩=some (.slice p11y k11y c11y):=cellsAt g1 11
  have b0:v1.cell? ⟨w4.heap.size+1,0,none⟩=some (.string ⟨#[]⟩):=cellsAt g4 0
  have b1:v1.cell? ⟨w4.heap.size+1,1,none⟩=some (.string ⟨#[]⟩):=cellsAt g4 1
  have b2:v1.cell? ⟨w4.heap.size+1,2,none⟩=some (.slice none 0 0):=cellsAt g4 2
  have b3:v1.cell? ⟨w4.heap.size+1,3,none⟩=some (.slice none 0 0):=cellsAt g4 3
  have b4:v1.cell? ⟨w4.heap.size+1,4,none⟩=some (.slice none 0 0):=cellsAt g4 4
  have b5:v1.cell? ⟨w4.heap.size+1,5,none⟩=some (.slice none 0 0):=cellsAt g4 5
  have b6:v1.cell? ⟨w4.heap.size+1,6,none⟩=some (.int .i64 0):=cellsAt g4 6
  have b7:v1.cell? ⟨w4.heap.size+1,7,none⟩=some (.int .i64 0):=cellsAt g4 7
  have b8:v1.cell? ⟨w4.heap.size+1,8,none⟩=some (.int .i64 0):=cellsAt g4 8
  have b9:v1.cell? ⟨w4.heap.size+1,9,none⟩=some (.int .i64 0):=cellsAt g4 9
  have b10:v1.cell? ⟨w4.heap.size+1,10,none⟩=some (.int .i64 0):=cellsAt g4 10
  have b11:v1.cell? ⟨w4.heap.size+1,11,none⟩=some (.slice none 0 0):=cellsAt g4 11
  clear g0 g1 g2 g3 g4 g5
  go_wp2_with fail
  refine (HN2.out v1 HV1.out).mono ?_
  rintro e v2 ⟨rfl,hv⟩
  have HV2:Hid (Below W4.heap.size W4 v2):=HV1.out.trans (hv.mono HV1.out.size)
  clear a0 a1 a2 a3 a4 a5 a6 a7 a8 a9 a10 a11 b0 b1 b2 b3 b4 b5 b6 b7 b8 b9 b10 b11 hv
  obtain ⟨g0,g1,g2,g3,g4,g5,_⟩:=HGE.out v2 HV2.out
  have a0:v2.cell? ⟨w3.heap.size,0,none⟩=some (.string t0z):=cellsAt g2 0
  have a1:v2.cell? ⟨w3.heap.size,1,none⟩=some (.string t1z):=cellsAt g2 1
  have a2:v2.cell? ⟨w3.heap.size,2,none⟩=some (.slice p2z k2z c2z):=cellsAt g2 2
  have a3:v2.cell? ⟨w3.heap.size,3,none⟩=some (.slice p3z k3z c3z):=cellsAt g2 3
  have a4:v2.cell? ⟨w3.heap.size,4,none⟩=some (.slice p4z k4z c4z):=cellsAt g2 4
  have a5:v2.cell? ⟨w3.heap.size,5,none⟩=some (.slice p5z k5z c5z):=cellsAt g2 5
  have a6:v2.cell? ⟨w3.heap.size,6,none⟩=some (.int .i64 i6z):=cellsAt g2 6
  have a7:v2.cell? ⟨w3.heap.size,7,none⟩=some (.int .i64 i7z):=cellsAt g2 7
  have a8:v2.cell? ⟨w3.heap.size,8,none⟩=some (.int .i64 i8z):=cellsAt g2 8
  have a9:v2.cell? ⟨w3.heap.size,9,none⟩=some (.int .i64 i9z):=cellsAt g2 9
  have a10:v2.cell? ⟨w3.heap.size,10,none⟩=some (.int .i64 i10z):=cellsAt g2 10
  have a11:v2.cell? ⟨w3.heap.size,11,none⟩=some (.slice p11z k11z c11z):=cellsAt g2 11
  have b0:v2.cell? ⟨w4.heap.size+1+1,0,none⟩=some (.string ⟨#[]⟩):=cellsAt g5 0
  have b1:v2.cell? ⟨w4.heap.size+1+1,1,none⟩=some (.string ⟨#[]⟩):=cellsAt g5 1
  have b2:v2.cell? ⟨w4.heap.size+1+1,2,none⟩=some (.slice none 0 0):=cellsAt g5 2
  have b3:v2.cell? ⟨w4.heap.size+1+1,3,none⟩=some (.slice none 0 0):=cellsAt g5 3
  have b4:v2.cell? ⟨w4.heap.size+1+1,4,none⟩=some (.slice none 0 0):=cellsAt g5 4
  have b5:v2.cell? ⟨w4.heap.size+1+1,5,none⟩=some (.slice none 0 0):=cellsAt g5 5
  have b6:v2.cell? ⟨w4.heap.size+1+1,6,none⟩=some (.int .i64 0):=cellsAt g5 6
  have b7:v2.cell? ⟨w4.heap.size+1+1,7,none⟩=some (.int .i64 0):=cellsAt g5 7
  have b8:v2.cell? ⟨w4.heap.size+1+1,8,none⟩=some (.int .i64 0):=cellsAt g5 8
  have b9:v2.cell? ⟨w4.heap.size+1+1,9,none⟩=some (.int .i64 0):=cellsAt g5 9
  have b10:v2.cell? ⟨w4.heap.size+1+1,10,none⟩=some (.int .i64 0):=cellsAt g5 10
  have b11:v2.cell? ⟨w4.heap.size+1+1,11,none⟩=some (.slice none 0 0):=cellsAt g5 11
  clear g0 g1 g2 g3 g4 g5
  go_wp2_with fail
  refine (HN3.out v2 HV2.out).mono ?_
  rintro e v3 ⟨rfl,hv⟩
  have HV3:Hid (Below W4.heap.size W4 v3):=HV2.out.trans (hv.mono HV2.out.size)
  clear a0 a1 a2 a3 a4 a5 a6 a7 a8 a9 a10 a11 b0 b1 b2 b3 b4 b5 b6 b7 b8 b9 b10 b11 hv
  go_wp2_with fail
  go_ret
  exact ⟨rfl,(HGE.out v3 HV3.out).2.2.2.2.2.2⟩
end Go.Proofs.YtikgjgmgbfjcgaaGreat
