import Derived.Test.YtikgjgmgbfjcgaaGreatQ37
import Derived.Test.YtikgjgmgbfjcgaaGreatQ49
import Derived.Lib.QuietBelow
import Derived.Test.YtikgjgmgbfjcgaaGreatQ50
namespace Go.Proofs.YtikgjgmgbfjcgaaGreat
open Go.RowKit
theorem refCheck_is {w:World} {n:Nd} {A:Array Value} (h:IsNd w n A):Calls Tryz.prog 18 #[.agg A] w fun e w'=>e=.returned (.int .i64 n.e)∧Below w.heap.size w w':=by
 obtain ⟨_,_,_,_,_,rfl,h⟩:=h
 exact refNode_any n _ _ _ _ _ w h
theorem Nd.Parts.smallW {n:Nd} (h:n.Parts):n.Small:=by
 have l1:=(chk_zero h.ms).1
 have l2:=(chkR_e0 h.rs).1
 have l3:=(Sv.chk_zero h.sv).1
 have l4:=(Gw.chk_zero h.gw).1
 have l5:=(Wh.chk_zero h.wh).1
 exact ⟨by omega,by omega,by omega,by omega,by omega⟩
theorem OpSays.oneW {ne er R:Int} {n':Nd} {w w':World} {e:Ending} (hR:R=if ne=0 then er else ne) (h:OpSays ne er n' w e w'):∃ A,e=.returned (.tuple #[.agg A,.int .i64 R])∧Res w' R n' A∧Below w.heap.size w w':=by
 rw [hR];exact h.res
set_option maxHeartbeats 51200000 in
set_option maxRecDepth 100000 in
theorem nodeWhole_walk (a:Nd) (A:Array Value) (b:Nd) (B:Array Value) (w:World) (h:IsNd w a A) (hb:IsNd w b B) :
 Calls Tryz.prog 11 #[.agg A,.agg B] w fun e w'=>e=.returned (.bool true)∧Below w.heap.size w w':=by
 by_cases hae:a.e=0
 ·have hoka:=h.ok
  have hokb:=hb.ok
  obtain ⟨R1,hR1⟩:∃ R1,R1=if b.e=0 then hrE b a.pk else b.e:=⟨_,rfl⟩
  have HPW:Hid (∀ W,Below w.heap.size w W→Calls Tryz.prog 20 #[.agg A] W fun e w'=>∃ P,e=.returned (.tuple #[.agg P,.int .i64 0])∧IsPkR w' a.pk P∧Below W.heap.size W w'):=fun W hW=>(whole_is (h.below hW)).mono (fun _ _ hh=>hh.ok hae hoka)
  have HP1:Hid (∀ W P,Below w.heap.size w W→IsPkR W a.pk P→Calls Tryz.prog 24 #[.agg B,.agg P] W fun e w'=>∃ A,e=.returned (.tuple #[.agg A,.int .i64 R1])∧Res w' R1 (hrN b a.pk) A∧Below W.heap.size W w'):=fun W P hW hP=>(hear_is (hb.below hW) hP (.inl rfl)).mono (fun _ _ hh=>hh.oneW hR1)
  have hbe:R1=0→b.e=0∧hrE b a.pk=0:=fun h0=>by
   rw [hR1] at h0
   split at h0
   ·rename_i h1;exact ⟨h1,h0⟩
   ·rename_i h1;exact absurd h0 h1
  have HOK1:Hid (R1=0→NotOlder a (hrN b a.pk)∧(hrN b a.pk).Small∧(hrN b a.pk).Parts∧a.Small):=fun h0=>by
   obtain ⟨h1,h2⟩:=hbe h0
   have hp:=Nd.parts (Nd.e_zero (hr_e0 h1 hokb.wh (show ∀ m∈a.pk.wh,m.ok from hoka.wh) h2)).1
   exact ⟨whole_not_older h1 ⟨rfl,rfl,rfl⟩ h2,hp.smallW,hp,(Nd.parts (Nd.e_zero hae).1).smallW⟩
  have HPA:Hid (R1=0→∀ W X P,Below w.heap.size w W→IsNd W (hrN b a.pk) X→IsPkR W a.pk P→Calls Tryz.prog 24 #[.agg X,.agg P] W fun e w'=>∃ A,e=.returned (.tuple #[.agg A,.int .i64 0])∧IsNd w' (hrN b a.pk) A∧Below W.heap.size W w'):=fun h0 W X P hW hX hP=>by
   obtain ⟨h1,h2⟩:=hbe h0
   have hx:=hr_e0 h1 hokb.wh (show ∀ m∈a.pk.wh,m.ok from hoka.wh) h2
   obtain ⟨g1,g2⟩:=hr_again h1 hokb.wh (show ∀ m∈a.pk.wh,m.ok from hoka.wh) h2
   refine (hear_is hX hP (.inl rfl)).mono ?_
   intro e w' hh
   rw [hx,g1,g2] at hh
   obtain ⟨A,h3,h4,h5⟩:=hh.res
   rw [if_pos rfl] at h3 h4
   rcases h4 with ⟨h4,_⟩ | ⟨_,h4⟩
   ·exact absurd rfl h4
   ·exact ⟨A,h3,h4,h5⟩
  have HIN:Hid (∀ W,Below w.heap.size w W→IsNd W a A):=fun W hW=>h.below hW
  obtain ⟨t0a,t1a,p2a,k2a,c2a,p3a,k3a,c3a,p4a,k4a,c4a,p5a,k5a,c5a,i6a,i7a,i8a,i9a,i10a,p11a,k11a,c11a,rfl⟩:=h.letters
  obtain ⟨t0b,t1b,p2b,k2b,c2b,p3b,k3b,c3b,p4b,k4b,c4b,p5b,k5b,c5b,i6b,i7b,i8b,i9b,i10b,p11b,k11b,c11b,rfl⟩:=hb.letters
  simp only [ndV] at HPW HP1 HPA HIN ⊢
  generalize hrN b a.pk=N1 at *
  generalize a.pk=p at *
  clear h hb hae hoka hokb hbe hR1
  obtain ⟨W0,hW0⟩:∃ W0,W0=(w.alloc (.cells #[.string t0a,.string t1a,.slice p2a k2a c2a,.slice p3a k3a c3a,.slice p4a k4a c4a,.slice p5a k5a c5a,.int .i64 i6a,.int .i64 i7a,.int .i64 i8a,.int .i64 i9a,.int .i64 i10a,.slice p11a k11a c11a] 30)).alloc (.cells #[.string t0b,.string t1b,.slice p2b k2b c2b,.slice p3b k3b c3b,.slice p4b k4b c4b,.slice p5b k5b c5b,.int .i64 i6b,.int .i64 i7b,.int .i64 i8b,.int .i64 i9b,.int .i64 i10b,.slice p11b k11b c11b] 30):=⟨_,rfl⟩
  have HBX:Hid (∀ W,Below W0.heap.size W0 W→W.heap[w.heap.size]?=some (.cells #[.string t0a,.string t1a,.slice p2a k2a c2a,.slice p3a k3a c3a,.slice p4a k4a c4a,.slice p5a k5a c5a,.int .i64 i6a,.int .i64 i7a,.int .i64 i8a,.int .i64 i9a,.int .i64 i10a,.slice p11a k11a c11a] 30 (0,0))∧W.heap[w.heap.size+1]?=some (.cells #[.string t0b,.string t1b,.slice p2b k2b c2b,.slice p3b k3b c3b,.slice p4b k4b c4b,.slice p5b k5b c5b,.int .i64 i6b,.int .i64 i7b,.int .i64 i8b,.int .i64 i9b,.int .i64 i10b,.slice p11b k11b c11b] 30 (0,0))∧Below w.heap.size w W):=fun W hW=>by
   have hb0:Below w.heap.size w W0:=by rw [hW0];exact ((Below.refl _ _).alloc (Nat.le_refl _) _).alloc (by simp) _
   have hs:W0.heap.size=w.heap.size+2:=by rw [hW0];simp
   refine ⟨(hW.block _ (by omega)).trans ?_,(hW.block _ (by omega)).trans ?_,hb0.trans (hW.mono hb0.size)⟩
   ·rw [hW0,Below.heap_alloc _ _ _ (by simp)];exact heap_alloc_new w _
   ·have h:=heap_alloc_new (w.alloc (.cells #[.string t0a,.string t1a,.slice p2a k2a c2a,.slice p3a k3a c3a,.slice p4a k4a c4a,.slice p5a k5a c5a,.int .i64 i6a,.int .i64 i7a,.int .i64 i8a,.int .i64 i9a,.int .i64 i10a,.slice p11a k11a c11a] 30)) (.cells #[.string t0b,.string t1b,.slice p2b k2b c2b,.slice p3b k3b c3b,.slice p4b k4b c4b,.slice p5b k5b c5b,.int .i64 i6b,.int .i64 i7b,.int .i64 i8b,.int .i64 i9b,.int .i64 i10b,.slice p11b k11b c11b] 30)
    rw [hW0];simpa using h
  go_enter Tryz.func11,Tryz.ntmps11
  go_upto_region 1 with fail
  rw [← hW0]
  clear hW0
  go_wp2_with fail
  refine (nodeBegun_any W0).mono ?_
  rintro e V0 ⟨rfl,hv⟩
  have HLV0:Hid (Below W0.heap.size W0 V0):=hv
  obtain ⟨hg,_,hbel⟩:=HBX.out V0 hv
  obtain ⟨a0,a1,a2,a3,a4,a5,a6,a7,a8,a9,a10,a11⟩:=cells12 hg
  clear hv hg
  go_wp2_with fail
  refine (HPW.out V0 hbel).mono ?_
  rintro e w1 ⟨P1,rfl,hP,hb⟩
  obtain ⟨t0p,b1p,p2p,k2p,c2p,p3p,k3p,c3p,p4p,k4p,c4p,p5p,k5p,c5p,rfl⟩:=hP.is.letters
  simp only [pkV] at hP ⊢
  obtain ⟨W1,hW1⟩:∃ W1,W1=w1.alloc (.cells #[.string t0p,.bool b1p,.slice p2p k2p c2p,.slice p3p k3p c3p,.slice p4p k4p c4p,.slice p5p k5p c5p] 44):=⟨_,rfl⟩
  have ha1:Below w1.heap.size w1 W1:=by rw [hW1];exact (Below.refl _ _).alloc (Nat.le_refl _) _
  have HG1:Hid (W1.heap[w1.heap.size]?=some (.cells #[.string t0p,.bool b1p,.slice p2p k2p c2p,.slice p3p k3p c3p,.slice p4p k4p c4p,.slice p5p k5p c5p] 44 (0,0))):=by rw [hW1];exact heap_alloc_new w1 _
  have hs1:W1.heap.size=w1.heap.size+1:=by rw [hW1];simp
  have HL1:Hid (Below W0.heap.size W0 W1):=HLV0.out.trans ((hb.trans (ha1.mono hb.size)).mono HLV0.out.size)
  have HPK:Hid (IsPkR W1 p #[.string t0p,.bool b1p,.slice p2p k2p c2p,.slice p3p k3p c3p,.slice p4p k4p c4p,.slice p5p k5p c5p]):=hP.below ha1
  clear a0 a1 a2 a3 a4 a5 a6 a7 a8 a9 a10 a11 hb ha1 hbel hP
  go_upto_region 6 with fail
  rw [← hW1]
  clear hW1
  obtain ⟨_,hgb,hbel⟩:=HBX.out W1 HL1.out
  have hpk:=HG1.out
  obtain ⟨b0,b1,b2,b3,b4,b5,b6,b7,b8,b9,b10,b11⟩:=cells12 hgb
  obtain ⟨q0,q1,q2,q3,q4,q5⟩:=cells6 hpk
  clear hgb hpk
  go_wp2_with fail
  refine (HP1.out W1 #[.string t0p,.bool b1p,.slice p2p k2p c2p,.slice p3p k3p c3p,.slice p4p k4p c4p,.slice p5p k5p c5p] hbel HPK.out).mono ?_
  rintro e w2 ⟨A2,rfl,hR,hb⟩
  obtain ⟨t0x,t1x,p2x,k2x,c2x,p3x,k3x,c3x,p4x,k4x,c4x,p5x,k5x,c5x,i6x,i7x,i8x,i9x,i10x,p11x,k11x,c11x,rfl⟩:=hR.is.letters
  simp only [ndV] at hR ⊢
  obtain ⟨W2,hW2⟩:∃ W2,W2=w2.alloc (.cells #[.string t0x,.string t1x,.slice p2x k2x c2x,.slice p3x k3x c3x,.slice p4x k4x c4x,.slice p5x k5x c5x,.int .i64 i6x,.int .i64 i7x,.int .i64 i8x,.int .i64 i9x,.int .i64 i10x,.slice p11x k11x c11x] 30):=⟨_,rfl⟩
  have ha2:Below w2.heap.size w2 W2:=by rw [hW2];exact (Below.refl _ _).alloc (Nat.le_refl _) _
  have HG2:Hid (W2.heap[w2.heap.size]?=some (.cells #[.string t0x,.string t1x,.slice p2x k2x c2x,.slice p3x k3x c3x,.slice p4x k4x c4x,.slice p5x k5x c5x,.int .i64 i6x,.int .i64 i7x,.int .i64 i8x,.int .i64 i9x,.int .i64 i10x,.slice p11x k11x c11x] 30 (0,0))):=by rw [hW2];exact heap_alloc_new w2 _
  have hs2:W2.heap.size=w2.heap.size+1:=by rw [hW2];simp
  have hb12:Below W1.heap.size W1 W2:=hb.trans (ha2.mono hb.size)
  have HL2:Hid (Below W0.heap.size W0 W2):=HL1.out.trans (hb12.mono HL1.out.size)
  have HR2:Hid (Res W2 R1 N1 #[.string t0x,.string t1x,.slice p2x k2x c2x,.slice p3x k3x c3x,.slice p4x k4x c4x,.slice p5x k5x c5x,.int .i64 i6x,.int .i64 i7x,.int .i64 i8x,.int .i64 i9x,.int .i64 i10x,.slice p11x k11x c11x]):=hR.below ha2
  have HPK2:Hid (IsPkR W2 p #[.string t0p,.bool b1p,.slice p2p k2p c2p,.slice p3p k3p c3p,.slice p4p k4p c4p,.slice p5p k5p c5p]):=HPK.out.below hb12
  have hpk2:W2.heap[w1.heap.size]?=some (.cells #[.string t0p,.bool b1p,.slice p2p k2p c2p,.slice p3p k3p c3p,.slice p4p k4p c4p,.slice p5p k5p c5p] 44 (0,0)):=(hb12.block _ (by omega)).trans HG1.out
  have HPB2:Hid (W2.heap[w1.heap.size]?=some (.cells #[.string t0p,.bool b1p,.slice p2p k2p c2p,.slice p3p k3p c3p,.slice p4p k4p c4p,.slice p5p k5p c5p] 44 (0,0))):=hpk2
  have hs12:w1.heap.size < W2.heap.size:=(Array.getElem?_eq_some_iff.1 hpk2).1
  clear b0 b1 b2 b3 b4 b5 b6 b7 b8 b9 b10 b11 q0 q1 q2 q3 q4 q5 hb ha2 hbel hR hb12 hpk2
  by_cases hr:R1=0
  rotate_left
  ·have hr1:(R1 != 0)=true:=by simpa using hr
   clear hr
   go_upto_region 7 with fail
   rw [← hW2]
   clear hW2
   go_wp2_with fail
   go_ret
   exact ⟨rfl,(HBX.out W2 HL2.out).2.2⟩
  ·subst hr
   obtain ⟨hno,hsm,hpt,hsa⟩:=HOK1.out rfl
   have hN:IsNd W2 N1 #[.string t0x,.string t1x,.slice p2x k2x c2x,.slice p3x k3x c3x,.slice p4x k4x c4x,.slice p5x k5x c5x,.int .i64 i6x,.int .i64 i7x,.int .i64 i8x,.int .i64 i9x,.int .i64 i10x,.slice p11x k11x c11x]:=by
    rcases HR2.out with ⟨h,_⟩ | ⟨_,h⟩
    ·exact absurd rfl h
    ·exact h
   have HN2:Hid (IsNd W2 N1 #[.string t0x,.string t1x,.slice p2x k2x c2x,.slice p3x k3x c3x,.slice p4x k4x c4x,.slice p5x k5x c5x,.int .i64 i6x,.int .i64 i7x,.int .i64 i8x,.int .i64 i9x,.int .i64 i10x,.slice p11x k11x c11x]):=hN
   have HP2:=HPA.out rfl
   have HP2H:Hid _:=HP2
   clear HP2 HPA HR2 hN
   go_upto_region 9 with fail
   rw [← hW2]
   clear hW2
   have hx:=HG2.out
   have hpk:=HPB2.out
   have hbel:=(HBX.out W2 HL2.out).2.2
   obtain ⟨b0,b1,b2,b3,b4,b5,b6,b7,b8,b9,b10,b11⟩:=cells12 hx
   obtain ⟨q0,q1,q2,q3,q4,q5⟩:=cells6 hpk
   clear hx hpk
   go_wp2_with fail
   refine (HP2H.out W2 #[.string t0x,.string t1x,.slice p2x k2x c2x,.slice p3x k3x c3x,.slice p4x k4x c4x,.slice p5x k5x c5x,.int .i64 i6x,.int .i64 i7x,.int .i64 i8x,.int .i64 i9x,.int .i64 i10x,.slice p11x k11x c11x] #[.string t0p,.bool b1p,.slice p2p k2p c2p,.slice p3p k3p c3p,.slice p4p k4p c4p,.slice p5p k5p c5p] hbel HN2.out HPK2.out).mono ?_
   rintro e w3 ⟨A3,rfl,hN3,hb⟩
   obtain ⟨t0y,t1y,p2y,k2y,c2y,p3y,k3y,c3y,p4y,k4y,c4y,p5y,k5y,c5y,i6y,i7y,i8y,i9y,i10y,p11y,k11y,c11y,rfl⟩:=hN3.letters
   simp only [ndV] at hN3 ⊢
   obtain ⟨W3,hW3⟩:∃ W3,W3=w3.alloc (.cells #[.string t0y,.string t1y,.slice p2y k2y c2y,.slice p3y k3y c3y,.slice p4y k4y c4y,.slice p5y k5y c5y,.int .i64 i6y,.int .i64 i7y,.int .i64 i8y,.int .i64 i9y,.int .i64 i10y,.slice p11y k11y c11y] 30):=⟨_,rfl⟩
   have ha3:Below w3.heap.size w3 W3:=by rw [hW3];exact (Below.refl _ _).alloc (Nat.le_refl _) _
   have HG3:Hid (W3.heap[w3.heap.size]?=some (.cells #[.string t0y,.string t1y,.slice p2y k2y c2y,.slice p3y k3y c3y,.slice p4y k4y c4y,.slice p5y k5y c5y,.int .i64 i6y,.int .i64 i7y,.int .i64 i8y,.int .i64 i9y,.int .i64 i10y,.slice p11y k11y c11y] 30 (0,0))):=by rw [hW3];exact heap_alloc_new w3 _
   have hs3:W3.heap.size=w3.heap.size+1:=by rw [hW3];simp
   have hb23:Below W2.heap.size W2 W3:=hb.trans (ha3.mono hb.size)
   have HL3:Hid (Below W0.heap.size W0 W3):=HL2.out.trans (hb23.mono HL2.out.size)
   have HNX:Hid (IsNd W3 N1 #[.string t0x,.string t1x,.slice p2x k2x c2x,.slice p3x k3x c3x,.slice p4x k4x c4x,.slice p5x k5x c5x,.int .i64 i6x,.int .i64 i7x,.int .i64 i8x,.int .i64 i9x,.int .i64 i10x,.slice p11x k11x c11x]):=HN2.out.below hb23
   have HNY:Hid (IsNd W3 N1 #[.string t0y,.string t1y,.slice p2y k2y c2y,.slice p3y k3y c3y,.slice p4y k4y c4y,.slice p5y k5y c5y,.int .i64 i6y,.int .i64 i7y,.int .i64 i8y,.int .i64 i9y,.int .i64 i10y,.slice p11y k11y c11y]):=hN3.below ha3
   have hx3:W3.heap[w2.heap.size]?=some (.cells #[.string t0x,.string t1x,.slice p2x k2x c2x,.slice p3x k3x c3x,.slice p4x k4x c4x,.slice p5x k5x c5x,.int .i64 i6x,.int .i64 i7x,.int .i64 i8x,.int .i64 i9x,.int .i64 i10x,.slice p11x k11x c11x] 30 (0,0)):=(hb23.block _ (by omega)).trans HG2.out
   have HX3:Hid (W3.heap[w2.heap.size]?=some (.cells #[.string t0x,.string t1x,.slice p2x k2x c2x,.slice p3x k3x c3x,.slice p4x k4x c4x,.slice p5x k5x c5x,.int .i64 i6x,.int .i64 i7x,.int .i64 i8x,.int .i64 i9x,.int .i64 i10x,.slice p11x k11x c11x] 30 (0,0))):=hx3
   have hl23:w2.heap.size < W3.heap.size:=(Array.getElem?_eq_some_iff.1 hx3).1
   have HO:Hid (∀ W,Below W3.heap.size W3 W→Calls Tryz.prog 39 #[.agg #[.string t0a,.string t1a,.slice p2a k2a c2a,.slice p3a k3a c3a,.slice p4a k4a c4a,.slice p5a k5a c5a,.int .i64 i6a,.int .i64 i7a,.int .i64 i8a,.int .i64 i9a,.int .i64 i10a,.slice p11a k11a c11a],.agg #[.string t0x,.string t1x,.slice p2x k2x c2x,.slice p3x k3x c3x,.slice p4x k4x c4x,.slice p5x k5x c5x,.int .i64 i6x,.int .i64 i7x,.int .i64 i8x,.int .i64 i9x,.int .i64 i10x,.slice p11x k11x c11x]] W fun e w'=>e=.returned (.bool false)∧Below W.heap.size W w'):=fun W hW=>older_any a N1 _ _ W (HIN.out W (HBX.out W (HL3.out.trans (hW.mono HL3.out.size))).2.2) (HNX.out.below hW) hno hsa hsm hpt
   have HSA:Hid (∀ W,Below W3.heap.size W3 W→Calls Tryz.prog 40 #[.agg #[.string t0x,.string t1x,.slice p2x k2x c2x,.slice p3x k3x c3x,.slice p4x k4x c4x,.slice p5x k5x c5x,.int .i64 i6x,.int .i64 i7x,.int .i64 i8x,.int .i64 i9x,.int .i64 i10x,.slice p11x k11x c11x],.agg #[.string t0y,.string t1y,.slice p2y k2y c2y,.slice p3y k3y c3y,.slice p4y k4y c4y,.slice p5y k5y c5y,.int .i64 i6y,.int .i64 i7y,.int .i64 i8y,.int .i64 i9y,.int .i64 i10y,.slice p11y k11y c11y]] W fun e w'=>e=.returned (.bool true)∧Below W.heap.size W w'):=fun W hW=>sameNode_any N1 _ _ W (HNX.out.below hW) (HNY.out.below hW) hsm
   clear b0 b1 b2 b3 b4 b5 b6 b7 b8 b9 b10 b11 q0 q1 q2 q3 q4 q5 hb ha3 hbel hN3 hb23 hno hsm hpt hsa
   go_upto_region 10 with fail
   rw [← hW3]
   clear hW3
   obtain ⟨hga,_,_⟩:=HBX.out W3 HL3.out
   obtain ⟨a0,a1,a2,a3,a4,a5,a6,a7,a8,a9,a10,a11⟩:=cells12 hga
   obtain ⟨b0,b1,b2,b3,b4,b5,b6,b7,b8,b9,b10,b11⟩:=cells12 hx3
   clear hga hx3
   go_wp2_with fail
   refine (HO.out W3 (Below.refl _ _)).mono ?_
   rintro e v1 ⟨rfl,hv⟩
   have HV1:Hid (Below W3.heap.size W3 v1):=hv
   have hxv:v1.heap[w2.heap.size]?=some (.cells #[.string t0x,.string t1x,.slice p2x k2x c2x,.slice p3x k3x c3x,.slice p4x k4x c4x,.slice p5x k5x c5x,.int .i64 i6x,.int .i64 i7x,.int .i64 i8x,.int .i64 i9x,.int .i64 i10x,.slice p11x k11x c11x] 30 (0,0)):=(hv.block _ hl23).trans HX3.out
   have hyv:v1.heap[w3.heap.size]?=some (.cells #[.string t0y,.string t1y,.slice p2y k2y c2y,.slice p3y k3y c3y,.slice p4y k4y c4y,.slice p5y k5y c5y,.int .i64 i6y,.int .i64 i7y,.int .i64 i8y,.int .i64 i9y,.int .i64 i10y,.slice p11y k11y c11y] 30 (0,0)):=(hv.block _ (by omega)).trans HG3.out
   clear a0 a1 a2 a3 a4 a5 a6 a7 a8 a9 a10 a11 b0 b1 b2 b3 b4 b5 b6 b7 b8 b9 b10 b11 hv
   obtain ⟨a0,a1,a2,a3,a4,a5,a6,a7,a8,a9,a10,a11⟩:=cells12 hxv
   obtain ⟨b0,b1,b2,b3,b4,b5,b6,b7,b8,b9,b10,b11⟩:=cells12 hyv
   clear hxv hyv
   go_wp2_with fail
   refine (HSA.out v1 HV1.out).mono ?_
   rintro e v2 ⟨rfl,hv⟩
   have HV2:Hid (Below w.heap.size w v2):=(HBX.out v2 (HL3.out.trans ((HV1.out.trans (hv.mono HV1.out.size)).mono HL3.out.size))).2.2
   clear hv a0 a1 a2 a3 a4 a5 a6 a7 a8 a9 a10 a11 b0 b1 b2 b3 b4 b5 b6 b7 b8 b9 b10 b11
   go_wp2_with fail
   go_ret
   exact ⟨rfl,HV2.out⟩
 ·have HNE:Hid (a.e≠0):=hae
  have HPW:Hid (∀ W,Below w.heap.size w W→Calls Tryz.prog 20 #[.agg A] W fun e w'=>e=.returned (.tuple #[.agg #[.string ⟨#[]⟩,.bool false,.slice none 0 0,.slice none 0 0,.slice none 0 0,.slice none 0 0],.int .i64 a.e])∧Below W.heap.size W w'):=fun W hW=>(whole_is (h.below hW)).mono (fun _ _ hh=>by
   obtain ⟨hbb,⟨_,h3⟩ | ⟨h3,_⟩⟩:=hh
   ·exact ⟨h3,hbb⟩
   ·exact absurd h3 hae)
  have HCK:Hid (∀ W,Below w.heap.size w W→Calls Tryz.prog 18 #[.agg A] W fun e w'=>e=.returned (.int .i64 a.e)∧Below W.heap.size W w'):=fun W hW=>refCheck_is (h.below hW)
  obtain ⟨t0a,t1a,p2a,k2a,c2a,p3a,k3a,c3a,p4a,k4a,c4a,p5a,k5a,c5a,i6a,i7a,i8a,i9a,i10a,p11a,k11a,c11a,rfl⟩:=h.letters
  obtain ⟨t0b,t1b,p2b,k2b,c2b,p3b,k3b,c3b,p4b,k4b,c4b,p5b,k5b,c5b,i6b,i7b,i8b,i9b,i10b,p11b,k11b,c11b,rfl⟩:=hb.letters
  simp only [ndV] at HPW HCK ⊢
  clear h hb hae
  generalize a.e=ae at *
  obtain ⟨W0,hW0⟩:∃ W0,W0=(w.alloc (.cells #[.string t0a,.string t1a,.slice p2a k2a c2a,.slice p3a k3a c3a,.slice p4a k4a c4a,.slice p5a k5a c5a,.int .i64 i6a,.int .i64 i7a,.int .i64 i8a,.int .i64 i9a,.int .i64 i10a,.slice p11a k11a c11a] 30)).alloc (.cells #[.string t0b,.string t1b,.slice p2b k2b c2b,.slice p3b k3b c3b,.slice p4b k4b c4b,.slice p5b k5b c5b,.int .i64 i6b,.int .i64 i7b,.int .i64 i8b,.int .i64 i9b,.int .i64 i10b,.slice p11b k11b c11b] 30):=⟨_,rfl⟩
  have HBX:Hid (∀ W,Below W0.heap.size W0 W→W.heap[w.heap.size]?=some (.cells #[.string t0a,.string t1a,.slice p2a k2a c2a,.slice p3a k3a c3a,.slice p4a k4a c4a,.slice p5a k5a c5a,.int .i64 i6a,.int .i64 i7a,.int .i64 i8a,.int .i64 i9a,.int .i64 i10a,.slice p11a k11a c11a] 30 (0,0))∧W.heap[w.heap.size+1]?=some (.cells #[.string t0b,.string t1b,.slice p2b k2b c2b,.slice p3b k3b c3b,.slice p4b k4b c4b,.slice p5b k5b c5b,.int .i64 i6b,.int .i64 i7b,.int .i64 i8b,.int .i64 i9b,.int .i64 i10b,.slice p11b k11b c11b] 30 (0,0))∧Below w.heap.size w W):=fun W hW=>by
   have hb0:Below w.heap.size w W0:=by rw [hW0];exact ((Below.refl _ _).alloc (Nat.le_refl _) _).alloc (by simp) _
   have hs:W0.heap.size=w.heap.size+2:=by rw [hW0];simp
   refine ⟨(hW.block _ (by omega)).trans ?_,(hW.block _ (by omega)).trans ?_,hb0.trans (hW.mono hb0.size)⟩
   ·rw [hW0,Below.heap_alloc _ _ _ (by simp)];exact heap_alloc_new w _
   ·have h:=heap_alloc_new (w.alloc (.cells #[.string t0a,.string t1a,.slice p2a k2a c2a,.slice p3a k3a c3a,.slice p4a k4a c4a,.slice p5a k5a c5a,.int .i64 i6a,.int .i64 i7a,.int .i64 i8a,.int .i64 i9a,.int .i64 i10a,.slice p11a k11a c11a] 30)) (.cells #[.string t0b,.string t1b,.slice p2b k2b c2b,.slice p3b k3b c3b,.slice p4b k4b c4b,.slice p5b k5b c5b,.int .i64 i6b,.int .i64 i7b,.int .i64 i8b,.int .i64 i9b,.int .i64 i10b,.slice p11b k11b c11b] 30)
    rw [hW0];simpa using h
  go_enter Tryz.func11,Tryz.ntmps11
  go_upto_region 1 with fail
  rw [← hW0]
  clear hW0
  go_wp2_with fail
  refine (nodeBegun_any W0).mono ?_
  rintro e V0 ⟨rfl,hv⟩
  have HLV0:Hid (Below W0.heap.size W0 V0):=hv
  obtain ⟨hg,_,hbel⟩:=HBX.out V0 hv
  obtain ⟨a0,a1,a2,a3,a4,a5,a6,a7,a8,a9,a10,a11⟩:=cells12 hg
  clear hv hg
  go_wp2_with fail
  refine (HPW.out V0 hbel).mono ?_
  rintro e w1 ⟨rfl,hb⟩
  obtain ⟨W1,hW1⟩:∃ W1,W1=w1.alloc (.cells #[.string ⟨#[]⟩,.bool false,.slice none 0 0,.slice none 0 0,.slice none 0 0,.slice none 0 0] 44):=⟨_,rfl⟩
  have ha1:Below w1.heap.size w1 W1:=by rw [hW1];exact (Below.refl _ _).alloc (Nat.le_refl _) _
  have HG1:Hid (W1.heap[w1.heap.size]?=some (.cells #[.string ⟨#[]⟩,.bool false,.slice none 0 0,.slice none 0 0,.slice none 0 0,.slice none 0 0] 44 (0,0))):=by rw [hW1];exact heap_alloc_new w1 _
  have hs1:W1.heap.size=w1.heap.size+1:=by rw [hW1];simp
  have HL1:Hid (Below W0.heap.size W0 W1):=HLV0.out.trans ((hb.trans (ha1.mono hb.size)).mono HLV0.out.size)
  clear a0 a1 a2 a3 a4 a5 a6 a7 a8 a9 a10 a11 hb ha1 hbel
  have hne1:(ae != 0)=true:=by simpa using HNE.out
  go_upto_region 4 with fail
  rw [← hW1]
  clear hW1
  obtain ⟨hg,_,hbel⟩:=HBX.out W1 HL1.out
  obtain ⟨a0,a1,a2,a3,a4,a5,a6,a7,a8,a9,a10,a11⟩:=cells12 hg
  clear hg
  go_wp2_with fail
  refine (HCK.out W1 hbel).mono ?_
  rintro e v1 ⟨rfl,hv⟩
  have HV1:Hid (Below w.heap.size w v1):=hbel.trans (hv.mono hbel.size)
  clear hv hbel a0 a1 a2 a3 a4 a5 a6 a7 a8 a9 a10 a11
  go_wp2_with fail
  go_ret
  exact ⟨rfl,HV1.out⟩
end Go.Proofs.YtikgjgmgbfjcgaaGreat
