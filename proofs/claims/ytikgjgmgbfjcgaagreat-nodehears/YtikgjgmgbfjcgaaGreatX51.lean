import Derived.Test.YtikgjgmgbfjcgaaGreatX49
import Derived.Test.YtikgjgmgbfjcgaaGreatX50
import Derived.Test.YtikgjgmgbfjcgaaGreatX29
namespace Go.Proofs.YtikgjgmgbfjcgaaGreat
open Go.RowKit
theorem Res.setAll {w:World} {er:Int} {n:Nd} {A:Array Value} (h:Res w er n A) {b:Nat} (hn:NBox w b) (L:List Value) (j:Nat):Res (setAll b L j w) er n A:=by
 rcases h with h | ⟨h1,h2⟩
 ·exact .inl h
 ·exact .inr ⟨h1,h2.setAll hn L j⟩
theorem nodeIs_res (er:Int) (n:Nd) (C D:Array Value) (w:World) (h1:Res w er n C) (h2:Res w er n D) (h3:er=0→n.Small) :
 Calls Tryz.prog 16 #[.agg C,.int .i64 er,.int .i64 er,.agg D] w fun e w'=>e=.returned (.bool true)∧Below w.heap.size w w':=
 nodeIs_any er n _ C D w h1 h2.is (fun h=>⟨by rw [if_pos h],h3 h⟩)
theorem hr_small {n:Nd} {p:Pk} {A:NdOk n} (hw:∀ m∈p.wh,m.ok) (h:n.Parts) (hsp:Sp n) (h0:hrE n p=0):(hrN n p).Small:=by
 unfold hrE at h0
 split at h0
 ·rename_i h1
  split at h0
  ·rename_i h2
   have hm:=pk_ms h1
   have hs:=hs_sp p.ms n hsp hm.1 h2
   have l1:=(chk_zero hs.ms).1
   have l2:=(chkR_e0 hs.rs).1
   have l5:=(fine_lrn (Wh.fine_chk h.wh A.wh) hw).len
   split at h0
   ·rename_i h3
    rw [Sv.joinE_good h.sv hm.2.2.2.1] at h3
    rw [Gw.joinE_good h.gw hm.2.2.2.2] at h0
    have l3:(Sv.joinL n.sv p.sv).length≤40:=by
     split at h3
     ·cases h3
     ·omega
    have l4:(Gw.joinL n.gw p.gw).length≤6:=by
     split at h0
     ·cases h0
     ·omega
    exact ⟨show (hsN n p.ms).ms.length≤1000 by omega,show (hsN n p.ms).rs.length≤1000 by omega,show (Sv.joinL n.sv p.sv).length≤1000 by omega,show (Gw.joinL n.gw p.gw).length≤1000 by omega,show (lrn n.wh p.wh).length≤1000 by omega⟩
   ·rename_i h3;exact absurd h0 h3
  ·rename_i h2;exact absurd h0 h2
 ·rename_i h1;exact absurd h0 h1
set_option maxHeartbeats 51200000 in
set_option maxRecDepth 100000 in
theorem nodeHears_walk (n:Nd) (A:Array Value) (p:Pk) (zm zs zg zw:Value) (w:World) (h:IsNd w n A) (hx:PkIs w p zm zs zg zw) (hlen:p.whole=true∨p.sv.length+p.gw.length+p.wh.length≤4611686018427387904) :
 Calls Tryz.prog 6 #[.agg A,.agg #[.string p.frm,.bool p.whole,zm,zs,zg,zw]] w fun e w'=>e=.returned (.bool true)∧Below w.heap.size w w':=by
 have HCK:Hid (∀ W,Below w.heap.size w W→Calls Tryz.prog 18 #[.agg A] W fun e w'=>e=.returned (.int .i64 n.e)∧Below W.heap.size W w'):=fun W hW=>refCheck_is (h.below hW)
 have HP:Hid (∀ W,Below w.heap.size w W→Calls Tryz.prog 24 #[.agg A,.agg #[.string p.frm,.bool p.whole,zm,zs,zg,zw]] W fun e w'=>OpSays n.e (hrE n p) (hrN n p) W e w'):=fun W hW=>by
  obtain ⟨_,_,_,_,_,rfl,hi⟩:=h
  exact Hear_any n p zm zs zg zw _ _ _ _ _ W (hi.below hW) (hx.below hW) hlen
 have hwo:∀ m∈p.wh,m.ok:=by
  obtain ⟨_,_,_,hs,_⟩:=hx.wh
  exact Wh.ns_mem hs
 have hok:=h.ok
 by_cases hne:n.e=0
 ·have hp:=Nd.parts (Nd.e_zero hne).1
  have HSM:Hid (hrE n p=0→Nd.Small (hrN n p)):=fun h=>hr_small (A:=hok) hwo hp (Nd.sp hne) h
  have HD:Hid (∀ W,Below w.heap.size w W→Calls Tryz.prog 25 #[.agg A,.agg #[.string p.frm,.bool p.whole,zm,zs,zg,zw]] W fun e w'=>∃ C,e=.returned (.tuple #[.agg C,.int .i64 (hrE n p)])∧Res w' (hrE n p) (hrN n p) C∧Below W.heap.size W w'):=fun W hW=>hearOf_is n p A zm zs zg zw W (h.below hW) hne (hx.below hW)
  rw [hne] at HP HCK
  obtain ⟨t0a,t1a,p2a,k2a,c2a,p3a,k3a,c3a,p4a,k4a,c4a,p5a,k5a,c5a,i6a,i7a,i8a,i9a,i10a,p11a,k11a,c11a,rfl⟩:=h.letters
  generalize hrE n p=E at *
  generalize hrN n p=N at *
  obtain ⟨frm,whole,ms,sv,gw,wh⟩:=p
  obtain ⟨⟨pm,cm,rfl,_,_⟩,⟨ps,cs,rfl,_,_⟩,⟨pg,cg,rfl,_,_⟩,⟨ph,ch,rfl,_,_⟩,_,_⟩:=hx
  simp only [ndV] at HP HCK HD ⊢
  generalize ms.length=nm at *
  generalize sv.length=ns at *
  generalize gw.length=ng at *
  generalize wh.length=nh at *
  clear h hne hp hlen hwo hok
  obtain ⟨W0,hW0⟩:∃ W0,W0=(w.alloc (.cells #[.string t0a,.string t1a,.slice p2a k2a c2a,.slice p3a k3a c3a,.slice p4a k4a c4a,.slice p5a k5a c5a,.int .i64 i6a,.int .i64 i7a,.int .i64 i8a,.int .i64 i9a,.int .i64 i10a,.slice p11a k11a c11a] 30)).alloc (.cells #[.string frm,.bool whole,.slice pm nm cm,.slice ps ns cs,.slice pg ng cg,.slice ph nh ch] 44):=⟨_,rfl⟩
  have hb0:Below w.heap.size w W0:=by rw [hW0];exact ((Below.refl _ _).alloc (Nat.le_refl _) _).alloc (by simp) _
  have hg:W0.heap[w.heap.size]?=some (.cells #[.string t0a,.string t1a,.slice p2a k2a c2a,.slice p3a k3a c3a,.slice p4a k4a c4a,.slice p5a k5a c5a,.int .i64 i6a,.int .i64 i7a,.int .i64 i8a,.int .i64 i9a,.int .i64 i10a,.slice p11a k11a c11a] 30 (0,0)):=by rw [hW0,Below.heap_alloc _ _ _ (by simp)];exact heap_alloc_new w _
  have hsx:W0.heap[w.heap.size+1]?=some (.cells #[.string frm,.bool whole,.slice pm nm cm,.slice ps ns cs,.slice pg ng cg,.slice ph nh ch] 44 (0,0)):=by
   have h:=heap_alloc_new (w.alloc (.cells #[.string t0a,.string t1a,.slice p2a k2a c2a,.slice p3a k3a c3a,.slice p4a k4a c4a,.slice p5a k5a c5a,.int .i64 i6a,.int .i64 i7a,.int .i64 i8a,.int .i64 i9a,.int .i64 i10a,.slice p11a k11a c11a] 30)) (.cells #[.string frm,.bool whole,.slice pm nm cm,.slice ps ns cs,.slice pg ng cg,.slice ph nh ch] 44)
   rw [hW0];simpa using h
  have hs0:w.heap.size+2≤W0.heap.size:=by rw [hW0];simp
  have HBX:Hid (∀ W,Below W0.heap.size W0 W→W.heap[w.heap.size]?=some (.cells #[.string t0a,.string t1a,.slice p2a k2a c2a,.slice p3a k3a c3a,.slice p4a k4a c4a,.slice p5a k5a c5a,.int .i64 i6a,.int .i64 i7a,.int .i64 i8a,.int .i64 i9a,.int .i64 i10a,.slice p11a k11a c11a] 30 (0,0))∧W.heap[w.heap.size+1]?=some (.cells #[.string frm,.bool whole,.slice pm nm cm,.slice ps ns cs,.slice pg ng cg,.slice ph nh ch] 44 (0,0))∧Below w.heap.size w W):=fun W hW=>⟨(hW.block _ (by omega)).trans hg,(hW.block _ (by omega)).trans hsx,hb0.trans (hW.mono hb0.size)⟩
  have HL0:Hid (Below W0.heap.size W0 W0):=Below.refl _ _
  obtain ⟨a0,a1,a2,a3,a4,a5,a6,a7,a8,a9,a10,a11⟩:=cells12 hg
  obtain ⟨b0,b1,b2,b3,b4,b5⟩:=cells6 hsx
  clear hb0 hg hsx
  go_enter Tryz.func6,Tryz.ntmps6
  go_upto_region 1 with fail
  rw [← hW0]
  clear hW0
  go_wp2_with fail
  refine (HP.out W0 (HBX.out W0 HL0.out).2.2).mono ?_
  intro e w1 hh
  obtain ⟨A1,rfl,hR,hb⟩:=hh.res
  rw [if_pos rfl] at hR ⊢
  obtain ⟨t0x,t1x,p2x,k2x,c2x,p3x,k3x,c3x,p4x,k4x,c4x,p5x,k5x,c5x,i6x,i7x,i8x,i9x,i10x,p11x,k11x,c11x,rfl⟩:=hR.is.letters
  simp only [ndV] at hR ⊢
  have HR1:Hid (Res w1 E N #[.string t0x,.string t1x,.slice p2x k2x c2x,.slice p3x k3x c3x,.slice p4x k4x c4x,.slice p5x k5x c5x,.int .i64 i6x,.int .i64 i7x,.int .i64 i8x,.int .i64 i9x,.int .i64 i10x,.slice p11x k11x c11x]):=hR
  obtain ⟨W1,hW1⟩:∃ W1,W1=w1.alloc (.cells #[.string t0x,.string t1x,.slice p2x k2x c2x,.slice p3x k3x c3x,.slice p4x k4x c4x,.slice p5x k5x c5x,.int .i64 i6x,.int .i64 i7x,.int .i64 i8x,.int .i64 i9x,.int .i64 i10x,.slice p11x k11x c11x] 30):=⟨_,rfl⟩
  have ha1:Below w1.heap.size w1 W1:=by rw [hW1];exact (Below.refl _ _).alloc (Nat.le_refl _) _
  have HG1:Hid (W1.heap[w1.heap.size]?=some (.cells #[.string t0x,.string t1x,.slice p2x k2x c2x,.slice p3x k3x c3x,.slice p4x k4x c4x,.slice p5x k5x c5x,.int .i64 i6x,.int .i64 i7x,.int .i64 i8x,.int .i64 i9x,.int .i64 i10x,.slice p11x k11x c11x] 30 (0,0))):=by rw [hW1];exact heap_alloc_new w1 _
  have hs1:W1.heap.size=w1.heap.size+1:=by rw [hW1];simp
  have hz1:W0.heap.size≤w1.heap.size:=hb.size
  have hbb:Below W0.heap.size W0 W1:=hb.trans (ha1.mono hb.size)
  have HL1:Hid (Below W0.heap.size W0 W1):=hbb
  have HA1:Hid (Below w1.heap.size w1 W1):=ha1
  obtain ⟨hg,hsx,_⟩:=HBX.out W1 HL1.out
  clear a0 a1 a2 a3 a4 a5 a6 a7 a8 a9 a10 a11 b0 b1 b2 b3 b4 b5 hh hR hb ha1 hbb
  obtain ⟨a0,a1,a2,a3,a4,a5,a6,a7,a8,a9,a10,a11⟩:=cells12 hg
  clear hg hsx
  go_upto_region 2 with fail
  rw [← hW1]
  clear hW1
  have HS1:Hid (W1.heap.size=w1.heap.size+1):=hs1
  clear hs1
  go_wp2_with fail
  refine (HCK.out W1 (HBX.out W1 HL1.out).2.2).mono ?_
  rintro e w2 ⟨rfl,hb⟩
  obtain ⟨W2,hW2⟩:∃ W2,W2=w2.alloc (.cells #[.string ⟨#[]⟩,.string ⟨#[]⟩,.slice none 0 0,.slice none 0 0,.slice none 0 0,.slice none 0 0,.int .i64 0,.int .i64 0,.int .i64 0,.int .i64 0,.int .i64 0,.slice none 0 0] 30):=⟨_,rfl⟩
  have hx2:Below w2.heap.size w2 W2:=by rw [hW2];exact (Below.refl _ _).alloc (Nat.le_refl _) _
  have hq:W2.heap[w2.heap.size]?=some (.cells azN 30 (0,0)):=by rw [hW2];exact heap_alloc_new w2 _
  have hs2:W2.heap.size=w2.heap.size+1:=by rw [hW2];simp
  have hz2:W1.heap.size≤w2.heap.size:=hb.size
  have hbb:Below W1.heap.size W1 W2:=hb.trans (hx2.mono hb.size)
  have HL2:Hid (Below W0.heap.size W0 W2):=HL1.out.trans (hbb.mono HL1.out.size)
  have HBB2:Hid (Below W1.heap.size W1 W2):=hbb
  have HQ:Hid (W2.heap[w2.heap.size]?=some (.cells azN 30 (0,0))):=hq
  obtain ⟨hg,hsx,_⟩:=HBX.out W2 HL2.out
  have HS2:Hid (W2.heap.size=w2.heap.size+1):=hs2
  clear a0 a1 a2 a3 a4 a5 a6 a7 a8 a9 a10 a11 hb hbb hx2 hq hs2
  obtain ⟨a0,a1,a2,a3,a4,a5,a6,a7,a8,a9,a10,a11⟩:=cells12 hg
  obtain ⟨b0,b1,b2,b3,b4,b5⟩:=cells6 hsx
  clear hg hsx
  go_upto_region 4 with fail
  rw [← hW2]
  clear hW2
  go_wp2_with fail
  refine (HD.out W2 (HBX.out W2 HL2.out).2.2).mono ?_
  rintro e w3 ⟨C3,rfl,hR,hb⟩
  have hs2:=HS2.out
  have hz3:W2.heap.size≤w3.heap.size:=hb.size
  obtain ⟨t0c,t1c,p2c,k2c,c2c,p3c,k3c,c3c,p4c,k4c,c4c,p5c,k5c,c5c,i6c,i7c,i8c,i9c,i10c,p11c,k11c,c11c,rfl⟩:=hR.is.letters
  simp only [ndV] at hR ⊢
  have hq:w3.heap[w2.heap.size]?=some (.cells azN 30 (0,0)):=(hb.block _ (by omega)).trans HQ.out
  clear a0 a1 a2 a3 a4 a5 a6 a7 a8 a9 a10 a11 b0 b1 b2 b3 b4 b5
  obtain ⟨qq0,qq1,qq2,qq3,qq4,qq5,qq6,qq7,qq8,qq9,qq10,qq11⟩:=cells12 hq
  obtain ⟨qqz0,qqz1,qqz2,qqz3,qqz4,qqz5,qqz6,qqz7,qqz8,qqz9,qqz10,qqz11⟩:=frz12 hq
  obtain ⟨W3,hW3⟩:∃ W3,W3=((((((((((((w3.setCell ⟨w2.heap.size,0,none⟩ (.string t0c)).setCell ⟨w2.heap.size,1,none⟩ (.string t1c)).setCell ⟨w2.heap.size,2,none⟩ (.slice p2c k2c c2c)).setCell ⟨w2.heap.size,3,none⟩ (.slice p3c k3c c3c)).setCell ⟨w2.heap.size,4,none⟩ (.slice p4c k4c c4c)).setCell ⟨w2.heap.size,5,none⟩ (.slice p5c k5c c5c)).setCell ⟨w2.heap.size,6,none⟩ (.int .i64 i6c)).setCell ⟨w2.heap.size,7,none⟩ (.int .i64 i7c)).setCell ⟨w2.heap.size,8,none⟩ (.int .i64 i8c)).setCell ⟨w2.heap.size,9,none⟩ (.int .i64 i9c)).setCell ⟨w2.heap.size,10,none⟩ (.int .i64 i10c)).setCell ⟨w2.heap.size,11,none⟩ (.slice p11c k11c c11c)):=⟨_,rfl⟩
  have hF:W3=setAll (w2.heap.size) [.string t0c,.string t1c,.slice p2c k2c c2c,.slice p3c k3c c3c,.slice p4c k4c c4c,.slice p5c k5c c5c,.int .i64 i6c,.int .i64 i7c,.int .i64 i8c,.int .i64 i9c,.int .i64 i10c,.slice p11c k11c c11c] 0 w3:=by rw [hW3];simp only [setAll,Nat.zero_add,Nat.reduceAdd]
  have hr:W3.heap[w2.heap.size]?=some (.cells #[.string t0c,.string t1c,.slice p2c k2c c2c,.slice p3c k3c c3c,.slice p4c k4c c4c,.slice p5c k5c c5c,.int .i64 i6c,.int .i64 i7c,.int .i64 i8c,.int .i64 i9c,.int .i64 i10c,.slice p11c k11c c11c] 30 (0,0)):=by rw [hF];exact setAll12 hq _ _ _ _ _ _ _ _ _ _ _ _
  have HRD:Hid (Res W3 E N #[.string t0c,.string t1c,.slice p2c k2c c2c,.slice p3c k3c c3c,.slice p4c k4c c4c,.slice p5c k5c c5c,.int .i64 i6c,.int .i64 i7c,.int .i64 i8c,.int .i64 i9c,.int .i64 i10c,.slice p11c k11c c11c]):=by rw [hF];exact hR.setAll (NBox.of hq) _ _
  have hbb:Below w2.heap.size W2 W3:=by rw [hF];exact setAll_below (by omega) _ _ (hb.mono (by omega))
  have hl3:Below W0.heap.size W0 W3:=HL2.out.trans (hbb.mono (by have:=HL1.out.size;omega))
  have h1:Below W1.heap.size W1 W3:=HBB2.out.trans (hbb.mono (by omega))
  have HL3:Hid (Below W0.heap.size W0 W3):=hl3
  have HB13:Hid (Below W1.heap.size W1 W3):=h1
  have HQ3:Hid (W3.heap[w2.heap.size]?=some (.cells #[.string t0c,.string t1c,.slice p2c k2c c2c,.slice p3c k3c c3c,.slice p4c k4c c4c,.slice p5c k5c c5c,.int .i64 i6c,.int .i64 i7c,.int .i64 i8c,.int .i64 i9c,.int .i64 i10c,.slice p11c k11c c11c] 30 (0,0))):=hr
  clear HQ hF hr hq hb hbb hR hs2 hl3 h1
  go_upto_region 5 with fail
  rw [← hW3]
  clear hW3 qq0 qqz0 qq1 qqz1 qq2 qqz2 qq3 qqz3 qq4 qqz4 qq5 qqz5 qq6 qqz6 qq7 qqz7 qq8 qqz8 qq9 qqz9 qq10 qqz10 qq11 qqz11
  have hs2:=HS2.out
  have hs1:=HS1.out
  have hw2:w2.heap.size < W3.heap.size:=(Array.getElem?_eq_some_iff.1 HQ3.out).1
  have HGE:Hid (∀ W,Below W3.heap.size W3 W→W.heap[w1.heap.size]?=some (.cells #[.string t0x,.string t1x,.slice p2x k2x c2x,.slice p3x k3x c3x,.slice p4x k4x c4x,.slice p5x k5x c5x,.int .i64 i6x,.int .i64 i7x,.int .i64 i8x,.int .i64 i9x,.int .i64 i10x,.slice p11x k11x c11x] 30 (0,0))∧W.heap[w2.heap.size]?=some (.cells #[.string t0c,.string t1c,.slice p2c k2c c2c,.slice p3c k3c c3c,.slice p4c k4c c4c,.slice p5c k5c c5c,.int .i64 i6c,.int .i64 i7c,.int .i64 i8c,.int .i64 i9c,.int .i64 i10c,.slice p11c k11c c11c] 30 (0,0))∧Below w.heap.size w W∧Below w1.heap.size w1 W):=fun W hW=>by
   have h1:Below W1.heap.size W1 W:=HB13.out.trans (hW.mono HB13.out.size)
   exact ⟨(h1.block _ (by omega)).trans HG1.out,(hW.block _ hw2).trans HQ3.out,(HBX.out W (HL3.out.trans (hW.mono HL3.out.size))).2.2,HA1.out.trans (h1.mono (by omega))⟩
  have HN:Hid (∀ W,Below W3.heap.size W3 W→Calls Tryz.prog 16 #[.agg #[.string t0x,.string t1x,.slice p2x k2x c2x,.slice p3x k3x c3x,.slice p4x k4x c4x,.slice p5x k5x c5x,.int .i64 i6x,.int .i64 i7x,.int .i64 i8x,.int .i64 i9x,.int .i64 i10x,.slice p11x k11x c11x],.int .i64 E,.int .i64 E,.agg #[.string t0c,.string t1c,.slice p2c k2c c2c,.slice p3c k3c c3c,.slice p4c k4c c4c,.slice p5c k5c c5c,.int .i64 i6c,.int .i64 i7c,.int .i64 i8c,.int .i64 i9c,.int .i64 i10c,.slice p11c k11c c11c]] W fun e w'=>e=.returned (.bool true)∧Below W.heap.size W w'):=fun W hW=>nodeIs_res E N _ _ W (HR1.out.below (HGE.out W hW).2.2.2) (HRD.out.below hW) HSM.out
  clear hs0 hs1 hs2 hz1 hz2 hz3 hw2
  go_wp2_with fail
  refine (nodeBegun_any W3).mono ?_
  rintro e v0 ⟨rfl,hv⟩
  have HV0:Hid (Below W3.heap.size W3 v0):=hv
  clear hv
  obtain ⟨g0,g1,_,_⟩:=HGE.out v0 HV0.out
  obtain ⟨a0,a1,a2,a3,a4,a5,a6,a7,a8,a9,a10,a11⟩:=cells12 g0
  obtain ⟨b0,b1,b2,b3,b4,b5,b6,b7,b8,b9,b10,b11⟩:=cells12 g1
  clear g0 g1
  go_wp2_with fail
  refine (HN.out v0 HV0.out).mono ?_
  rintro e v1 ⟨rfl,hv⟩
  have HV1:Hid (Below W3.heap.size W3 v1):=HV0.out.trans (hv.mono HV0.out.size)
  clear a0 a1 a2 a3 a4 a5 a6 a7 a8 a9 a10 a11 b0 b1 b2 b3 b4 b5 b6 b7 b8 b9 b10 b11 hv
  go_wp2_with fail
  go_ret
  exact ⟨rfl,(HGE.out v1 HV1.out).2.2.1⟩
 ·have HNE:Hid (n.e≠0):=hne
  obtain ⟨t0a,t1a,p2a,k2a,c2a,p3a,k3a,c3a,p4a,k4a,c4a,p5a,k5a,c5a,i6a,i7a,i8a,i9a,i10a,p11a,k11a,c11a,rfl⟩:=h.letters
  generalize hrE n p=E at *
  generalize hrN n p=N at *
  obtain ⟨frm,whole,ms,sv,gw,wh⟩:=p
  obtain ⟨⟨pm,cm,rfl,_,_⟩,⟨ps,cs,rfl,_,_⟩,⟨pg,cg,rfl,_,_⟩,⟨ph,ch,rfl,_,_⟩,_,_⟩:=hx
  simp only [ndV] at HP HCK ⊢
  generalize ms.length=nm at *
  generalize sv.length=ns at *
  generalize gw.length=ng at *
  generalize wh.length=nh at *
  clear h hne hlen hwo hok
  generalize n.e=ne at *
  obtain ⟨W0,hW0⟩:∃ W0,W0=(w.alloc (.cells #[.string t0a,.string t1a,.slice p2a k2a c2a,.slice p3a k3a c3a,.slice p4a k4a c4a,.slice p5a k5a c5a,.int .i64 i6a,.int .i64 i7a,.int .i64 i8a,.int .i64 i9a,.int .i64 i10a,.slice p11a k11a c11a] 30)).alloc (.cells #[.string frm,.bool whole,.slice pm nm cm,.slice ps ns cs,.slice pg ng cg,.slice ph nh ch] 44):=⟨_,rfl⟩
  have hb0:Below w.heap.size w W0:=by rw [hW0];exact ((Below.refl _ _).alloc (Nat.le_refl _) _).alloc (by simp) _
  have hg:W0.heap[w.heap.size]?=some (.cells #[.string t0a,.string t1a,.slice p2a k2a c2a,.slice p3a k3a c3a,.slice p4a k4a c4a,.slice p5a k5a c5a,.int .i64 i6a,.int .i64 i7a,.int .i64 i8a,.int .i64 i9a,.int .i64 i10a,.slice p11a k11a c11a] 30 (0,0)):=by rw [hW0,Below.heap_alloc _ _ _ (by simp)];exact heap_alloc_new w _
  have hsx:W0.heap[w.heap.size+1]?=some (.cells #[.string frm,.bool whole,.slice pm nm cm,.slice ps ns cs,.slice pg ng cg,.slice ph nh ch] 44 (0,0)):=by
   have h:=heap_alloc_new (w.alloc (.cells #[.string t0a,.string t1a,.slice p2a k2a c2a,.slice p3a k3a c3a,.slice p4a k4a c4a,.slice p5a k5a c5a,.int .i64 i6a,.int .i64 i7a,.int .i64 i8a,.int .i64 i9a,.int .i64 i10a,.slice p11a k11a c11a] 30)) (.cells #[.string frm,.bool whole,.slice pm nm cm,.slice ps ns cs,.slice pg ng cg,.slice ph nh ch] 44)
   rw [hW0];simpa using h
  have hs0:w.heap.size+2≤W0.heap.size:=by rw [hW0];simp
  have HBX:Hid (∀ W,Below W0.heap.size W0 W→W.heap[w.heap.size]?=some (.cells #[.string t0a,.string t1a,.slice p2a k2a c2a,.slice p3a k3a c3a,.slice p4a k4a c4a,.slice p5a k5a c5a,.int .i64 i6a,.int .i64 i7a,.int .i64 i8a,.int .i64 i9a,.int .i64 i10a,.slice p11a k11a c11a] 30 (0,0))∧W.heap[w.heap.size+1]?=some (.cells #[.string frm,.bool whole,.slice pm nm cm,.slice ps ns cs,.slice pg ng cg,.slice ph nh ch] 44 (0,0))∧Below w.heap.size w W):=fun W hW=>⟨(hW.block _ (by omega)).trans hg,(hW.block _ (by omega)).trans hsx,hb0.trans (hW.mono hb0.size)⟩
  have HL0:Hid (Below W0.heap.size W0 W0):=Below.refl _ _
  obtain ⟨a0,a1,a2,a3,a4,a5,a6,a7,a8,a9,a10,a11⟩:=cells12 hg
  obtain ⟨b0,b1,b2,b3,b4,b5⟩:=cells6 hsx
  clear hb0 hg hsx
  go_enter Tryz.func6,Tryz.ntmps6
  go_upto_region 1 with fail
  rw [← hW0]
  clear hW0
  go_wp2_with fail
  refine (HP.out W0 (HBX.out W0 HL0.out).2.2).mono ?_
  intro e w1 hh
  obtain ⟨A1,rfl,hR,hb⟩:=hh.res
  rw [if_neg HNE.out] at hR ⊢
  obtain ⟨t0x,t1x,p2x,k2x,c2x,p3x,k3x,c3x,p4x,k4x,c4x,p5x,k5x,c5x,i6x,i7x,i8x,i9x,i10x,p11x,k11x,c11x,rfl⟩:=hR.is.letters
  simp only [ndV] at hR ⊢
  have HR1:Hid (Res w1 ne N #[.string t0x,.string t1x,.slice p2x k2x c2x,.slice p3x k3x c3x,.slice p4x k4x c4x,.slice p5x k5x c5x,.int .i64 i6x,.int .i64 i7x,.int .i64 i8x,.int .i64 i9x,.int .i64 i10x,.slice p11x k11x c11x]):=hR
  obtain ⟨W1,hW1⟩:∃ W1,W1=w1.alloc (.cells #[.string t0x,.string t1x,.slice p2x k2x c2x,.slice p3x k3x c3x,.slice p4x k4x c4x,.slice p5x k5x c5x,.int .i64 i6x,.int .i64 i7x,.int .i64 i8x,.int .i64 i9x,.int .i64 i10x,.slice p11x k11x c11x] 30):=⟨_,rfl⟩
  have ha1:Below w1.heap.size w1 W1:=by rw [hW1];exact (Below.refl _ _).alloc (Nat.le_refl _) _
  have HG1:Hid (W1.heap[w1.heap.size]?=some (.cells #[.string t0x,.string t1x,.slice p2x k2x c2x,.slice p3x k3x c3x,.slice p4x k4x c4x,.slice p5x k5x c5x,.int .i64 i6x,.int .i64 i7x,.int .i64 i8x,.int .i64 i9x,.int .i64 i10x,.slice p11x k11x c11x] 30 (0,0))):=by rw [hW1];exact heap_alloc_new w1 _
  have hs1:W1.heap.size=w1.heap.size+1:=by rw [hW1];simp
  have hz1:W0.heap.size≤w1.heap.size:=hb.size
  have hbb:Below W0.heap.size W0 W1:=hb.trans (ha1.mono hb.size)
  have HL1:Hid (Below W0.heap.size W0 W1):=hbb
  have HA1:Hid (Below w1.heap.size w1 W1):=ha1
  obtain ⟨hg,hsx,_⟩:=HBX.out W1 HL1.out
  clear a0 a1 a2 a3 a4 a5 a6 a7 a8 a9 a10 a11 b0 b1 b2 b3 b4 b5 hh hR hb ha1 hbb
  obtain ⟨a0,a1,a2,a3,a4,a5,a6,a7,a8,a9,a10,a11⟩:=cells12 hg
  clear hg hsx
  go_upto_region 2 with fail
  rw [← hW1]
  clear hW1
  have HS1:Hid (W1.heap.size=w1.heap.size+1):=hs1
  clear hs1
  go_wp2_with fail
  refine (HCK.out W1 (HBX.out W1 HL1.out).2.2).mono ?_
  rintro e w2 ⟨rfl,hb⟩
  obtain ⟨W2,hW2⟩:∃ W2,W2=w2.alloc (.cells #[.string ⟨#[]⟩,.string ⟨#[]⟩,.slice none 0 0,.slice none 0 0,.slice none 0 0,.slice none 0 0,.int .i64 0,.int .i64 0,.int .i64 0,.int .i64 0,.int .i64 0,.slice none 0 0] 30):=⟨_,rfl⟩
  have hx2:Below w2.heap.size w2 W2:=by rw [hW2];exact (Below.refl _ _).alloc (Nat.le_refl _) _
  have hq:W2.heap[w2.heap.size]?=some (.cells azN 30 (0,0)):=by rw [hW2];exact heap_alloc_new w2 _
  have hs2:W2.heap.size=w2.heap.size+1:=by rw [hW2];simp
  have hz2:W1.heap.size≤w2.heap.size:=hb.size
  have hbb:Below W1.heap.size W1 W2:=hb.trans (hx2.mono hb.size)
  have HL2:Hid (Below W0.heap.size W0 W2):=HL1.out.trans (hbb.mono HL1.out.size)
  have HBB2:Hid (Below W1.heap.size W1 W2):=hbb
  have HQ:Hid (W2.heap[w2.heap.size]?=some (.cells azN 30 (0,0))):=hq
  obtain ⟨hg,hsx,_⟩:=HBX.out W2 HL2.out
  have HS2:Hid (W2.heap.size=w2.heap.size+1):=hs2
  clear a0 a1 a2 a3 a4 a5 a6 a7 a8 a9 a10 a11 hb hbb hx2 hq hs2
  have hne2:(ne == 0)=false:=by simpa using HNE.out
  clear hg hsx
  go_upto_region 5 with fail
  rw [← hW2]
  clear hW2
  have hs2:=HS2.out
  have hs1:=HS1.out
  have hw2:w2.heap.size < W2.heap.size:=(Array.getElem?_eq_some_iff.1 HQ.out).1
  have HGE:Hid (∀ W,Below W2.heap.size W2 W→W.heap[w1.heap.size]?=some (.cells #[.string t0x,.string t1x,.slice p2x k2x c2x,.slice p3x k3x c3x,.slice p4x k4x c4x,.slice p5x k5x c5x,.int .i64 i6x,.int .i64 i7x,.int .i64 i8x,.int .i64 i9x,.int .i64 i10x,.slice p11x k11x c11x] 30 (0,0))∧W.heap[w2.heap.size]?=some (.cells azN 30 (0,0))∧Below w.heap.size w W∧Below w1.heap.size w1 W):=fun W hW=>by
   have h1:Below W1.heap.size W1 W:=HBB2.out.trans (hW.mono HBB2.out.size)
   exact ⟨(h1.block _ (by omega)).trans HG1.out,(hW.block _ hw2).trans HQ.out,(HBX.out W (HL2.out.trans (hW.mono HL2.out.size))).2.2,HA1.out.trans (h1.mono (by omega))⟩
  have HN:Hid (∀ W,Below W2.heap.size W2 W→Calls Tryz.prog 16 #[.agg #[.string t0x,.string t1x,.slice p2x k2x c2x,.slice p3x k3x c3x,.slice p4x k4x c4x,.slice p5x k5x c5x,.int .i64 i6x,.int .i64 i7x,.int .i64 i8x,.int .i64 i9x,.int .i64 i10x,.slice p11x k11x c11x],.int .i64 ne,.int .i64 ne,.agg azN] W fun e w'=>e=.returned (.bool true)∧Below W.heap.size W w'):=fun W hW=>nodeIs_res ne N _ _ W (HR1.out.below (HGE.out W hW).2.2.2) (.inl ⟨HNE.out,rfl⟩) (fun h=>absurd h HNE.out)
  clear hs0 hs1 hs2 hz1 hz2  hw2
  go_wp2_with fail
  refine (nodeBegun_any W2).mono ?_
  rintro e v0 ⟨rfl,hv⟩
  have HV0:Hid (Below W2.heap.size W2 v0):=hv
  clear hv
  obtain ⟨g0,g1,_,_⟩:=HGE.out v0 HV0.out
  obtain ⟨a0,a1,a2,a3,a4,a5,a6,a7,a8,a9,a10,a11⟩:=cells12 g0
  obtain ⟨b0,b1,b2,b3,b4,b5,b6,b7,b8,b9,b10,b11⟩:=cells12 g1
  clear g0 g1
  go_wp2_with fail
  refine (HN.out v0 HV0.out).mono ?_
  rintro e v1 ⟨rfl,hv⟩
  have HV1:Hid (Below W2.heap.size W2 v1):=HV0.out.trans (hv.mono HV0.out.size)
  clear a0 a1 a2 a3 a4 a5 a6 a7 a8 a9 a10 a11 b0 b1 b2 b3 b4 b5 b6 b7 b8 b9 b10 b11 hv
  go_wp2_with fail
  go_ret
  exact ⟨rfl,(HGE.out v1 HV1.out).2.2.1⟩
end Go.Proofs.YtikgjgmgbfjcgaaGreat
