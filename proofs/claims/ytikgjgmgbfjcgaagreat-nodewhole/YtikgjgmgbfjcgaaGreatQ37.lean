import Derived.Test.YtikgjgmgbfjcgaaGreatQ36
import Derived.Test.YtikgjgmgbfjcgaaGreatQ21
namespace Go.Proofs.YtikgjgmgbfjcgaaGreat
open Go.RowKit
theorem OwnNd.setAll {B:Nat} {w:World} {n:Nd} {A:Array Value} (h:OwnNd B w n A) {b:Nat} (hb:b < B) (L:List Value) (j:Nat):OwnNd B (setAll b L j w) n A:=by
 obtain ⟨v1,v2,v3,v4,v5,h1,h2,h3⟩:=h
 exact ⟨v1,v2,v3,v4,v5,h1,⟨setAll_owns hb L j h2.ms,setAll_owns hb L j h2.rs,setAll_owns hb L j h2.sv,setAll_owns hb L j h2.gw,setAll_owns hb L j h2.wh⟩,h3⟩
theorem IsNd.len {w:World} {n:Nd} {A:Array Value} (h:IsNd w n A):∃ p c,A[2]?=some (.slice p n.ms.length c):=by
 obtain ⟨vm,vr,vs,vg,vw,rfl,⟨pm,cm,rfl,_⟩,_⟩:=h
 exact ⟨pm,cm,rfl⟩
theorem one_le:(1:Nat)≤maxLen:=by decide
set_option maxHeartbeats 25600000 in
set_option maxRecDepth 100000 in
theorem nodeBegun_any (w:World):Calls Tryz.prog 15 #[] w fun e w'=>e=.returned (.bool true)∧Below w.heap.size w w':=by
 go_enter Tryz.func15,Tryz.ntmps15
 go_wp2_with fail
 refine (New_any ⟨#[97]⟩ ⟨#[99]⟩ 1 false w one_le one_le).mono ?_
 intro e w1 h
 obtain ⟨A1,rfl,hA,hb1⟩:=h.ok bg_e1 rfl
 obtain ⟨t0a,t1a,p2a,k2a,c2a,p3a,k3a,c3a,p4a,k4a,c4a,p5a,k5a,c5a,i6a,i7a,i8a,i9a,i10a,p11a,k11a,c11a,rfl⟩:=hA.is.letters
 simp only [ndV] at hA ⊢
 have HA1:Hid (IsNd w1 bgA #[.string t0a,.string t1a,.slice p2a k2a c2a,.slice p3a k3a c3a,.slice p4a k4a c4a,.slice p5a k5a c5a,.int .i64 i6a,.int .i64 i7a,.int .i64 i8a,.int .i64 i9a,.int .i64 i10a,.slice p11a k11a c11a]):=hA.is
 have HB1:Hid (Below w.heap.size w w1):=hb1
 have hz1:w.heap.size≤w1.heap.size:=hb1.size
 clear h hA hb1
 obtain ⟨W1,hW1⟩:∃ W1,W1=w1.alloc (.cells #[.string t0a,.string t1a,.slice p2a k2a c2a,.slice p3a k3a c3a,.slice p4a k4a c4a,.slice p5a k5a c5a,.int .i64 i6a,.int .i64 i7a,.int .i64 i8a,.int .i64 i9a,.int .i64 i10a,.slice p11a k11a c11a] 30):=⟨_,rfl⟩
 have ha1:Below w1.heap.size w1 W1:=by rw [hW1];exact (Below.refl _ _).alloc (Nat.le_refl _) _
 have HG1:Hid (W1.heap[w1.heap.size]?=some (.cells #[.string t0a,.string t1a,.slice p2a k2a c2a,.slice p3a k3a c3a,.slice p4a k4a c4a,.slice p5a k5a c5a,.int .i64 i6a,.int .i64 i7a,.int .i64 i8a,.int .i64 i9a,.int .i64 i10a,.slice p11a k11a c11a] 30 (0,0))):=by rw [hW1];exact heap_alloc_new w1 _
 have hs1:W1.heap.size=w1.heap.size+1:=by rw [hW1];simp
 have HA2:Hid (IsNd W1 bgA #[.string t0a,.string t1a,.slice p2a k2a c2a,.slice p3a k3a c3a,.slice p4a k4a c4a,.slice p5a k5a c5a,.int .i64 i6a,.int .i64 i7a,.int .i64 i8a,.int .i64 i9a,.int .i64 i10a,.slice p11a k11a c11a]):=HA1.out.below ha1
 have HB2:Hid (Below w.heap.size w W1):=HB1.out.trans (ha1.mono hz1)
 clear ha1 HA1
 go_upto_region 2 with fail
 rw [← hW1]
 clear hW1
 go_wp2_with fail
 refine (New_any ⟨#[98]⟩ ⟨#[99]⟩ 2 true W1 one_le one_le).mono ?_
 intro e w2 h
 obtain ⟨A1,rfl,hA,hb1⟩:=h.ok bg_e2 rfl
 obtain ⟨t0b,t1b,p2b,k2b,c2b,p3b,k3b,c3b,p4b,k4b,c4b,p5b,k5b,c5b,i6b,i7b,i8b,i9b,i10b,p11b,k11b,c11b,rfl⟩:=hA.is.letters
 simp only [ndV] at hA ⊢
 have HN1:Hid (IsNd w2 bgB #[.string t0b,.string t1b,.slice p2b k2b c2b,.slice p3b k3b c3b,.slice p4b k4b c4b,.slice p5b k5b c5b,.int .i64 i6b,.int .i64 i7b,.int .i64 i8b,.int .i64 i9b,.int .i64 i10b,.slice p11b k11b c11b]):=hA.is
 have HA3:Hid (IsNd w2 bgA #[.string t0a,.string t1a,.slice p2a k2a c2a,.slice p3a k3a c3a,.slice p4a k4a c4a,.slice p5a k5a c5a,.int .i64 i6a,.int .i64 i7a,.int .i64 i8a,.int .i64 i9a,.int .i64 i10a,.slice p11a k11a c11a]):=HA2.out.below hb1
 have HB3:Hid (Below w.heap.size w w2):=HB2.out.trans (hb1.mono (by omega))
 have HG11:Hid (w2.heap[w1.heap.size]?=some (.cells #[.string t0a,.string t1a,.slice p2a k2a c2a,.slice p3a k3a c3a,.slice p4a k4a c4a,.slice p5a k5a c5a,.int .i64 i6a,.int .i64 i7a,.int .i64 i8a,.int .i64 i9a,.int .i64 i10a,.slice p11a k11a c11a] 30 (0,0))):=(hb1.block _ (by omega)).trans HG1.out
 have hz2:w1.heap.size < w2.heap.size:=by have:=hb1.size;omega
 clear h hA hb1 HA2
 obtain ⟨W2,hW2⟩:∃ W2,W2=w2.alloc (.cells #[.string t0b,.string t1b,.slice p2b k2b c2b,.slice p3b k3b c3b,.slice p4b k4b c4b,.slice p5b k5b c5b,.int .i64 i6b,.int .i64 i7b,.int .i64 i8b,.int .i64 i9b,.int .i64 i10b,.slice p11b k11b c11b] 30):=⟨_,rfl⟩
 have ha2:Below w2.heap.size w2 W2:=by rw [hW2];exact (Below.refl _ _).alloc (Nat.le_refl _) _
 have HG2:Hid (W2.heap[w2.heap.size]?=some (.cells #[.string t0b,.string t1b,.slice p2b k2b c2b,.slice p3b k3b c3b,.slice p4b k4b c4b,.slice p5b k5b c5b,.int .i64 i6b,.int .i64 i7b,.int .i64 i8b,.int .i64 i9b,.int .i64 i10b,.slice p11b k11b c11b] 30 (0,0))):=by rw [hW2];exact heap_alloc_new w2 _
 have hs2:W2.heap.size=w2.heap.size+1:=by rw [hW2];simp
 have HA4:Hid (IsNd W2 bgA #[.string t0a,.string t1a,.slice p2a k2a c2a,.slice p3a k3a c3a,.slice p4a k4a c4a,.slice p5a k5a c5a,.int .i64 i6a,.int .i64 i7a,.int .i64 i8a,.int .i64 i9a,.int .i64 i10a,.slice p11a k11a c11a]):=HA3.out.below ha2
 have HN2:Hid (IsNd W2 bgB #[.string t0b,.string t1b,.slice p2b k2b c2b,.slice p3b k3b c3b,.slice p4b k4b c4b,.slice p5b k5b c5b,.int .i64 i6b,.int .i64 i7b,.int .i64 i8b,.int .i64 i9b,.int .i64 i10b,.slice p11b k11b c11b]):=HN1.out.below ha2
 have HB4:Hid (Below w.heap.size w W2):=HB3.out.trans (ha2.mono (by omega))
 have HG12:Hid (W2.heap[w1.heap.size]?=some (.cells #[.string t0a,.string t1a,.slice p2a k2a c2a,.slice p3a k3a c3a,.slice p4a k4a c4a,.slice p5a k5a c5a,.int .i64 i6a,.int .i64 i7a,.int .i64 i8a,.int .i64 i9a,.int .i64 i10a,.slice p11a k11a c11a] 30 (0,0))):=(ha2.block _ hz2).trans HG11.out
 have hg:=HG2.out
 obtain ⟨y0,y1,y2,y3,y4,y5,y6,y7,y8,y9,y10,y11⟩:=cells12 hg
 clear ha2 HA3 HN1 hg
 go_upto_region 3 with fail
 rw [← hW2]
 clear hW2
 go_wp2_with fail
 refine (whole_is HN2.out).mono ?_
 intro e w3 h
 obtain ⟨A1,rfl,hP,hb1⟩:=h.ok bg_eB HN2.out.ok
 obtain ⟨t0p,b1p,p2p,k2p,c2p,p3p,k3p,c3p,p4p,k4p,c4p,p5p,k5p,c5p,rfl⟩:=hP.is.letters
 simp only [pkV] at hP ⊢
 have HP1:Hid (IsPkR w3 bgP #[.string t0p,.bool b1p,.slice p2p k2p c2p,.slice p3p k3p c3p,.slice p4p k4p c4p,.slice p5p k5p c5p]):=hP
 have HA5:Hid (IsNd w3 bgA #[.string t0a,.string t1a,.slice p2a k2a c2a,.slice p3a k3a c3a,.slice p4a k4a c4a,.slice p5a k5a c5a,.int .i64 i6a,.int .i64 i7a,.int .i64 i8a,.int .i64 i9a,.int .i64 i10a,.slice p11a k11a c11a]):=HA4.out.below hb1
 have HB5:Hid (Below w.heap.size w w3):=HB4.out.trans (hb1.mono (by omega))
 have HG13:Hid (w3.heap[w1.heap.size]?=some (.cells #[.string t0a,.string t1a,.slice p2a k2a c2a,.slice p3a k3a c3a,.slice p4a k4a c4a,.slice p5a k5a c5a,.int .i64 i6a,.int .i64 i7a,.int .i64 i8a,.int .i64 i9a,.int .i64 i10a,.slice p11a k11a c11a] 30 (0,0))):=(hb1.block _ (by omega)).trans HG12.out
 have hz3:w1.heap.size < w3.heap.size:=by have:=hb1.size;omega
 clear h hP hb1 HA4 HN2 y0 y1 y2 y3 y4 y5 y6 y7 y8 y9 y10 y11
 obtain ⟨W3,hW3⟩:∃ W3,W3=w3.alloc (.cells #[.string t0p,.bool b1p,.slice p2p k2p c2p,.slice p3p k3p c3p,.slice p4p k4p c4p,.slice p5p k5p c5p] 44):=⟨_,rfl⟩
 have ha3:Below w3.heap.size w3 W3:=by rw [hW3];exact (Below.refl _ _).alloc (Nat.le_refl _) _
 have HG3:Hid (W3.heap[w3.heap.size]?=some (.cells #[.string t0p,.bool b1p,.slice p2p k2p c2p,.slice p3p k3p c3p,.slice p4p k4p c4p,.slice p5p k5p c5p] 44 (0,0))):=by rw [hW3];exact heap_alloc_new w3 _
 have hs3:W3.heap.size=w3.heap.size+1:=by rw [hW3];simp
 have HA6:Hid (IsNd W3 bgA #[.string t0a,.string t1a,.slice p2a k2a c2a,.slice p3a k3a c3a,.slice p4a k4a c4a,.slice p5a k5a c5a,.int .i64 i6a,.int .i64 i7a,.int .i64 i8a,.int .i64 i9a,.int .i64 i10a,.slice p11a k11a c11a]):=HA5.out.below ha3
 have HP2:Hid (IsPkR W3 bgP #[.string t0p,.bool b1p,.slice p2p k2p c2p,.slice p3p k3p c3p,.slice p4p k4p c4p,.slice p5p k5p c5p]):=HP1.out.below ha3
 have HB6:Hid (Below w.heap.size w W3):=HB5.out.trans (ha3.mono (by omega))
 have hg:=HG3.out
 have hg1:W3.heap[w1.heap.size]?=some (.cells #[.string t0a,.string t1a,.slice p2a k2a c2a,.slice p3a k3a c3a,.slice p4a k4a c4a,.slice p5a k5a c5a,.int .i64 i6a,.int .i64 i7a,.int .i64 i8a,.int .i64 i9a,.int .i64 i10a,.slice p11a k11a c11a] 30 (0,0)):=(ha3.block _ hz3).trans HG13.out
 have HG14:Hid (W3.heap[w1.heap.size]?=some (.cells #[.string t0a,.string t1a,.slice p2a k2a c2a,.slice p3a k3a c3a,.slice p4a k4a c4a,.slice p5a k5a c5a,.int .i64 i6a,.int .i64 i7a,.int .i64 i8a,.int .i64 i9a,.int .i64 i10a,.slice p11a k11a c11a] 30 (0,0))):=hg1
 obtain ⟨y0,y1,y2,y3,y4,y5⟩:=cells6 hg
 obtain ⟨x0,x1,x2,x3,x4,x5,x6,x7,x8,x9,x10,x11⟩:=cells12 hg1
 clear ha3 HA5 HP1 hg hg1
 go_upto_region 4 with fail
 rw [← hW3]
 clear hW3
 go_wp2_with fail
 refine (hear_is HA6.out HP2.out (.inl rfl)).mono ?_
 intro e w4 h
 obtain ⟨A1,rfl,hA,hb1⟩:=h.ok bg_eA bg_e3
 obtain ⟨t0c,t1c,p2c,k2c,c2c,p3c,k3c,c3c,p4c,k4c,c4c,p5c,k5c,c5c,i6c,i7c,i8c,i9c,i10c,p11c,k11c,c11c,rfl⟩:=hA.is.letters
 simp only [ndV] at hA ⊢
 have HA7:Hid (OwnNd W3.heap.size w4 bg3 #[.string t0c,.string t1c,.slice p2c k2c c2c,.slice p3c k3c c3c,.slice p4c k4c c4c,.slice p5c k5c c5c,.int .i64 i6c,.int .i64 i7c,.int .i64 i8c,.int .i64 i9c,.int .i64 i10c,.slice p11c k11c c11c]):=hA
 have HB7:Hid (Below w.heap.size w w4):=HB6.out.trans (hb1.mono (by omega))
 have hg1:w4.heap[w1.heap.size]?=some (.cells #[.string t0a,.string t1a,.slice p2a k2a c2a,.slice p3a k3a c3a,.slice p4a k4a c4a,.slice p5a k5a c5a,.int .i64 i6a,.int .i64 i7a,.int .i64 i8a,.int .i64 i9a,.int .i64 i10a,.slice p11a k11a c11a] 30 (0,0)):=(hb1.block _ (by omega)).trans HG14.out
 have hz4:W3.heap.size≤w4.heap.size:=hb1.size
 clear h hA hb1 HA6 HP2 y0 y1 y2 y3 y4 y5 x0 x1 x2 x3 x4 x5 x6 x7 x8 x9 x10 x11
 obtain ⟨x0,x1,x2,x3,x4,x5,x6,x7,x8,x9,x10,x11⟩:=cells12 hg1
 obtain ⟨xz0,xz1,xz2,xz3,xz4,xz5,xz6,xz7,xz8,xz9,xz10,xz11⟩:=frz12 hg1
 obtain ⟨W4,hW4⟩:∃ W4,W4=((((((((((((w4.setCell ⟨w1.heap.size,0,none⟩ (.string t0c)).setCell ⟨w1.heap.size,1,none⟩ (.string t1c)).setCell ⟨w1.heap.size,2,none⟩ (.slice p2c k2c c2c)).setCell ⟨w1.heap.size,3,none⟩ (.slice p3c k3c c3c)).setCell ⟨w1.heap.size,4,none⟩ (.slice p4c k4c c4c)).setCell ⟨w1.heap.size,5,none⟩ (.slice p5c k5c c5c)).setCell ⟨w1.heap.size,6,none⟩ (.int .i64 i6c)).setCell ⟨w1.heap.size,7,none⟩ (.int .i64 i7c)).setCell ⟨w1.heap.size,8,none⟩ (.int .i64 i8c)).setCell ⟨w1.heap.size,9,none⟩ (.int .i64 i9c)).setCell ⟨w1.heap.size,10,none⟩ (.int .i64 i10c)).setCell ⟨w1.heap.size,11,none⟩ (.slice p11c k11c c11c)):=⟨_,rfl⟩
 have hF4:W4=setAll w1.heap.size [.string t0c,.string t1c,.slice p2c k2c c2c,.slice p3c k3c c3c,.slice p4c k4c c4c,.slice p5c k5c c5c,.int .i64 i6c,.int .i64 i7c,.int .i64 i8c,.int .i64 i9c,.int .i64 i10c,.slice p11c k11c c11c] 0 w4:=by rw [hW4];simp only [setAll,Nat.zero_add,Nat.reduceAdd]
 have hg2:W4.heap[w1.heap.size]?=some (.cells #[.string t0c,.string t1c,.slice p2c k2c c2c,.slice p3c k3c c3c,.slice p4c k4c c4c,.slice p5c k5c c5c,.int .i64 i6c,.int .i64 i7c,.int .i64 i8c,.int .i64 i9c,.int .i64 i10c,.slice p11c k11c c11c] 30 (0,0)):=by rw [hF4];exact setAll12 hg1 _ _ _ _ _ _ _ _ _ _ _ _
 have HG15:Hid (W4.heap[w1.heap.size]?=some (.cells #[.string t0c,.string t1c,.slice p2c k2c c2c,.slice p3c k3c c3c,.slice p4c k4c c4c,.slice p5c k5c c5c,.int .i64 i6c,.int .i64 i7c,.int .i64 i8c,.int .i64 i9c,.int .i64 i10c,.slice p11c k11c c11c] 30 (0,0))):=hg2
 have HB8:Hid (Below w.heap.size w W4):=by rw [hF4];exact setAll_below hz1 _ _ HB7.out
 have HA8:Hid (IsNd W4 bg3 #[.string t0c,.string t1c,.slice p2c k2c c2c,.slice p3c k3c c3c,.slice p4c k4c c4c,.slice p5c k5c c5c,.int .i64 i6c,.int .i64 i7c,.int .i64 i8c,.int .i64 i9c,.int .i64 i10c,.slice p11c k11c c11c]):=by rw [hF4];exact (HA7.out.setAll (by omega) _ _).is
 have hs4:W4.heap.size=w4.heap.size:=by rw [hF4];exact setAll_size _ _ _ _
 obtain ⟨u0,u1,u2,u3,u4,u5,u6,u7,u8,u9,u10,u11⟩:=cells12 hg2
 clear hF4 hg1 hg2 HA7
 go_upto_region 5 with fail
 rw [← hW4]
 clear hW4 x0 xz0 x1 xz1 x2 xz2 x3 xz3 x4 xz4 x5 xz5 x6 xz6 x7 xz7 x8 xz8 x9 xz9 x10 xz10 x11 xz11
 go_wp2_with fail
 refine (doubt_is HA8.out ⟨#[98]⟩ one_le).mono ?_
 intro e w5 h
 obtain ⟨A1,rfl,hA,hb1⟩:=h.ok bg_n3 bg_e4
 obtain ⟨t0d,t1d,p2d,k2d,c2d,p3d,k3d,c3d,p4d,k4d,c4d,p5d,k5d,c5d,i6d,i7d,i8d,i9d,i10d,p11d,k11d,c11d,rfl⟩:=hA.is.letters
 simp only [ndV] at hA ⊢
 have HA9:Hid (OwnNd W4.heap.size w5 bg4 #[.string t0d,.string t1d,.slice p2d k2d c2d,.slice p3d k3d c3d,.slice p4d k4d c4d,.slice p5d k5d c5d,.int .i64 i6d,.int .i64 i7d,.int .i64 i8d,.int .i64 i9d,.int .i64 i10d,.slice p11d k11d c11d]):=hA
 have hk2:k2d=2:=by
  obtain ⟨p,c,hp⟩:=hA.is.len
  have hp2:some (Value.slice p2d k2d c2d)=some (Value.slice p bg4.ms.length c):=hp
  rw [bg_m4] at hp2
  injection hp2 with hp2
  injection hp2
 have HB9:Hid (Below w.heap.size w w5):=HB8.out.trans (hb1.mono (by omega))
 have hg1:w5.heap[w1.heap.size]?=some (.cells #[.string t0c,.string t1c,.slice p2c k2c c2c,.slice p3c k3c c3c,.slice p4c k4c c4c,.slice p5c k5c c5c,.int .i64 i6c,.int .i64 i7c,.int .i64 i8c,.int .i64 i9c,.int .i64 i10c,.slice p11c k11c c11c] 30 (0,0)):=(hb1.block _ (by omega)).trans HG15.out
 have hz5:W4.heap.size≤w5.heap.size:=hb1.size
 clear h hA hb1 HA8 u0 u1 u2 u3 u4 u5 u6 u7 u8 u9 u10 u11
 obtain ⟨x0,x1,x2,x3,x4,x5,x6,x7,x8,x9,x10,x11⟩:=cells12 hg1
 obtain ⟨xz0,xz1,xz2,xz3,xz4,xz5,xz6,xz7,xz8,xz9,xz10,xz11⟩:=frz12 hg1
 obtain ⟨W5,hW5⟩:∃ W5,W5=((((((((((((w5.setCell ⟨w1.heap.size,0,none⟩ (.string t0d)).setCell ⟨w1.heap.size,1,none⟩ (.string t1d)).setCell ⟨w1.heap.size,2,none⟩ (.slice p2d k2d c2d)).setCell ⟨w1.heap.size,3,none⟩ (.slice p3d k3d c3d)).setCell ⟨w1.heap.size,4,none⟩ (.slice p4d k4d c4d)).setCell ⟨w1.heap.size,5,none⟩ (.slice p5d k5d c5d)).setCell ⟨w1.heap.size,6,none⟩ (.int .i64 i6d)).setCell ⟨w1.heap.size,7,none⟩ (.int .i64 i7d)).setCell ⟨w1.heap.size,8,none⟩ (.int .i64 i8d)).setCell ⟨w1.heap.size,9,none⟩ (.int .i64 i9d)).setCell ⟨w1.heap.size,10,none⟩ (.int .i64 i10d)).setCell ⟨w1.heap.size,11,none⟩ (.slice p11d k11d c11d)):=⟨_,rfl⟩
 have hF5:W5=setAll w1.heap.size [.string t0d,.string t1d,.slice p2d k2d c2d,.slice p3d k3d c3d,.slice p4d k4d c4d,.slice p5d k5d c5d,.int .i64 i6d,.int .i64 i7d,.int .i64 i8d,.int .i64 i9d,.int .i64 i10d,.slice p11d k11d c11d] 0 w5:=by rw [hW5];simp only [setAll,Nat.zero_add,Nat.reduceAdd]
 have hg2:W5.heap[w1.heap.size]?=some (.cells #[.string t0d,.string t1d,.slice p2d k2d c2d,.slice p3d k3d c3d,.slice p4d k4d c4d,.slice p5d k5d c5d,.int .i64 i6d,.int .i64 i7d,.int .i64 i8d,.int .i64 i9d,.int .i64 i10d,.slice p11d k11d c11d] 30 (0,0)):=by rw [hF5];exact setAll12 hg1 _ _ _ _ _ _ _ _ _ _ _ _
 have HG16:Hid (W5.heap[w1.heap.size]?=some (.cells #[.string t0d,.string t1d,.slice p2d k2d c2d,.slice p3d k3d c3d,.slice p4d k4d c4d,.slice p5d k5d c5d,.int .i64 i6d,.int .i64 i7d,.int .i64 i8d,.int .i64 i9d,.int .i64 i10d,.slice p11d k11d c11d] 30 (0,0))):=hg2
 have HB10:Hid (Below w.heap.size w W5):=by rw [hF5];exact setAll_below hz1 _ _ HB9.out
 have HA10:Hid (IsNd W5 bg4 #[.string t0d,.string t1d,.slice p2d k2d c2d,.slice p3d k3d c3d,.slice p4d k4d c4d,.slice p5d k5d c5d,.int .i64 i6d,.int .i64 i7d,.int .i64 i8d,.int .i64 i9d,.int .i64 i10d,.slice p11d k11d c11d]):=by rw [hF5];exact (HA9.out.setAll (by omega) _ _).is
 have hs5:W5.heap.size=w5.heap.size:=by rw [hF5];exact setAll_size _ _ _ _
 obtain ⟨u0,u1,u2,u3,u4,u5,u6,u7,u8,u9,u10,u11⟩:=cells12 hg2
 clear hF5 hg1 hg2 HA9
 have hk3:=hk2
 clear hk2
 have HK2:Hid (k2d=2):=hk3
 clear hk3
 go_upto_region 6 with fail
 rw [← hW5]
 clear hW5 x0 xz0 x1 xz1 x2 xz2 x3 xz3 x4 xz4 x5 xz5 x6 xz6 x7 xz7 x8 xz8 x9 xz9 x10 xz10 x11 xz11
 go_wp2_with fail
 refine (tell_is HA10.out).mono ?_
 intro e w6 h
 obtain ⟨A1,ta,tk,tc,l,rest,rfl,hT,hA,hol,hb1⟩:=h.ok bg_n4
 obtain ⟨t0e,t1e,p2e,k2e,c2e,p3e,k3e,c3e,p4e,k4e,c4e,p5e,k5e,c5e,i6e,i7e,i8e,i9e,i10e,p11e,k11e,c11e,rfl⟩:=hA.is.letters
 simp only [ndV] at hA ⊢
 have hl:=bg_tell hT
 subst hl
 have hb6:w1.heap.size < w6.heap.size:=by have:=hb1.size;omega
 have hg1:w6.heap[w1.heap.size]?=some (.cells #[.string t0d,.string t1d,.slice p2d k2d c2d,.slice p3d k3d c3d,.slice p4d k4d c4d,.slice p5d k5d c5d,.int .i64 i6d,.int .i64 i7d,.int .i64 i8d,.int .i64 i9d,.int .i64 i10d,.slice p11d k11d c11d] 30 (0,0)):=(hb1.block _ (by omega)).trans HG16.out
 have HB11:Hid (Below w.heap.size w w6):=HB10.out.trans (hb1.mono (by omega))
 obtain ⟨a,cap,hv,_,hrow⟩:=hol.sl (ns_get (by intro m hm;rw [List.mem_singleton.1 hm];exact one_le))
 injection hv with hv1 hv2 hv3
 rcases hrow with h0 | ⟨g,off,hp,hlt,hrow⟩
 ·cases h0
 have hc:=(hrow 0 (by simp)).2.1
 have hc2:w6.cell? ⟨g,off+1,none⟩=some (.int .i64 2):=by simpa [bgM] using hc
 have HC:Hid (w6.cell? ⟨g,off+1,none⟩=some (.int .i64 2)):=hc2
 clear hc2
 subst hv1 hp
 have hv2':tk=1:=hv2
 subst hv2'
 clear hv2 hv3 hrow hc hT hA hol h hb1 HA10 u0 u1 u2 u3 u4 u5 u6 u7 u8 u9 u10 u11
 generalize bg4.name=qn at *
 obtain ⟨W6,hW6⟩:∃ W6,W6=(w6.alloc (.cells #[.string t0e,.string t1e,.slice p2e k2e c2e,.slice p3e k3e c3e,.slice p4e k4e c4e,.slice p5e k5e c5e,.int .i64 i6e,.int .i64 i7e,.int .i64 i8e,.int .i64 i9e,.int .i64 i10e,.slice p11e k11e c11e] 30)).alloc (.cells #[.string qn,.bool false,.slice (some ⟨g,off,none⟩) 1 tc,.slice none 0 0,.slice none 0 0,.slice none 0 0] 44):=⟨_,rfl⟩
 have hb7:Below w6.heap.size w6 W6:=by rw [hW6];exact ((Below.refl _ _).alloc (Nat.le_refl _) _).alloc (by simp) _
 have hgq:W6.heap[w6.heap.size+1]?=some (.cells #[.string qn,.bool false,.slice (some ⟨g,off,none⟩) 1 tc,.slice none 0 0,.slice none 0 0,.slice none 0 0] 44 (0,0)):=by
  have h:=heap_alloc_new (w6.alloc (.cells #[.string t0e,.string t1e,.slice p2e k2e c2e,.slice p3e k3e c3e,.slice p4e k4e c4e,.slice p5e k5e c5e,.int .i64 i6e,.int .i64 i7e,.int .i64 i8e,.int .i64 i9e,.int .i64 i10e,.slice p11e k11e c11e] 30)) (.cells #[.string qn,.bool false,.slice (some ⟨g,off,none⟩) 1 tc,.slice none 0 0,.slice none 0 0,.slice none 0 0] 44)
  rw [hW6];simpa using h
 have hgd:W6.heap[w1.heap.size]?=some (.cells #[.string t0d,.string t1d,.slice p2d k2d c2d,.slice p3d k3d c3d,.slice p4d k4d c4d,.slice p5d k5d c5d,.int .i64 i6d,.int .i64 i7d,.int .i64 i8d,.int .i64 i9d,.int .i64 i10d,.slice p11d k11d c11d] 30 (0,0)):=(hb7.block _ hb6).trans hg1
 have z1:W6.cell? ⟨w1.heap.size,2,none⟩=some (.slice p2d 2 c2d):=(cellsAt hgd 2).trans (by rw [HK2.out];rfl)
 have z2:W6.cell? ⟨w6.heap.size+1,2,none⟩=some (.slice (some ⟨g,off,none⟩) 1 tc):=cellsAt hgq 2
 have z3:W6.cell? ⟨g,off+1,none⟩=some (.int .i64 2):=(hb7.cell hlt).trans HC.out
 have HB12:Hid (Below w.heap.size w W6):=HB11.out.trans (hb7.mono HB11.out.size)
 clear hb7 hgq hgd hg1 hlt
 go_upto_region 7 with fail
 rw [← hW6]
 clear hW6
 go_wp2_with fail
 go_ret
 exact ⟨rfl,HB12.out⟩
end Go.Proofs.YtikgjgmgbfjcgaaGreat
