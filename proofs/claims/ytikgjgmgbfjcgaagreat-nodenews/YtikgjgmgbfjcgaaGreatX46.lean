import Derived.Test.YtikgjgmgbfjcgaaGreatX45
namespace Go.Proofs.YtikgjgmgbfjcgaaGreat
open Go.RowKit
theorem isNew {W:World} {nm ct:ByteArray} {ad:Int} {sv:Bool} {g:Nat} {T:TypeId} {f:Nat × Nat} (hn:nm.size≤maxLen) (hc:ct.size≤maxLen) (h:W.heap[g]?=some (.cells #[.string nm,.int .i64 1,.int .i64 1,.int .i64 ad,.bool sv] T f)) :
 IsNd W (nwN nm ct ad sv) #[.string nm,.string ct,.slice (some ⟨g,0,none⟩) 1 1,.slice none 0 0,.slice none 0 0,.slice none 0 0,.int .i64 0,.int .i64 0,.int .i64 0,.int .i64 0,.int .i64 1000,.slice none 0 0]:=by
 have hlt:g < W.heap.size:=(Array.getElem?_eq_some_iff.1 h).1
 refine ⟨.slice (some ⟨g,0,none⟩) 1 1,.slice none 0 0,.slice none 0 0,.slice none 0 0,.slice none 0 0,rfl,?_,?_,?_,?_,?_,hn,hc⟩
 ·refine ⟨some ⟨g,0,none⟩,1,rfl,ns_get (fun m hm=>?_),.inr ⟨g,0,rfl,hlt,fun j hj=>?_⟩⟩
  ·rw [List.mem_singleton.1 hm];exact hn
  ·have hj0:j=0:=by simp [nwN] at hj;omega
   subst hj0
   exact ⟨cellsAt h 0,cellsAt h 1,cellsAt h 2,cellsAt h 3,cellsAt h 4⟩
 ·exact ⟨none,0,rfl,rns_get (by simp [nwN]),.inl rfl⟩
 ·exact ⟨none,0,rfl,Sv.ns_get (by simp [nwN]),.inl rfl⟩
 ·exact ⟨none,0,rfl,Gw.ns_get (by simp [nwN]),.inl rfl⟩
 ·exact ⟨none,0,rfl,Wh.ns_get (by simp [nwN]),.inl rfl⟩
set_option maxHeartbeats 25600000 in
set_option maxRecDepth 100000 in
theorem nodeNews_walk (nm ct:ByteArray) (ad:Int) (sv:Bool) (w:World) (hn:nm.size≤maxLen) (hc:ct.size≤maxLen) :
 Calls Tryz.prog 3 #[.string nm,.string ct,.int .i64 ad,.bool sv] w fun e w'=>e=.returned (.bool true)∧Below w.heap.size w w':=by
 have HE:Hid (nwE nm ct ad=if (labB nm && labB ct)=true then (if within ad 0 4294967295=true then 0 else 3) else 1):=rfl
 have HNW:=New_any nm ct ad sv w hn hc
 generalize nwE nm ct ad=E at *
 go_enter Tryz.func3,Tryz.ntmps3
 go_wp2_with fail
 refine HNW.mono ?_
 intro e w1 h
 obtain ⟨A,rfl,hR,hb1⟩:=h.res
 have hif:(if E=0 then (0:Int) else E)=E:=by by_cases h:E=0<;>simp [h]
 rw [hif] at hR ⊢
 obtain ⟨t0a,t1a,p2a,k2a,c2a,p3a,k3a,c3a,p4a,k4a,c4a,p5a,k5a,c5a,i6a,i7a,i8a,i9a,i10a,p11a,k11a,c11a,rfl⟩:=hR.is.letters
 simp only [ndV] at hR ⊢
 have HR1:Hid (Res w1 E (nwN nm ct ad sv) #[.string t0a,.string t1a,.slice p2a k2a c2a,.slice p3a k3a c3a,.slice p4a k4a c4a,.slice p5a k5a c5a,.int .i64 i6a,.int .i64 i7a,.int .i64 i8a,.int .i64 i9a,.int .i64 i10a,.slice p11a k11a c11a]):=hR
 have HB1:Hid (Below w.heap.size w w1):=hb1
 have hz1:w.heap.size≤w1.heap.size:=hb1.size
 clear h hR hb1 hif HNW
 obtain ⟨W1,hW1⟩:∃ W1,W1=w1.alloc (.cells #[.string t0a,.string t1a,.slice p2a k2a c2a,.slice p3a k3a c3a,.slice p4a k4a c4a,.slice p5a k5a c5a,.int .i64 i6a,.int .i64 i7a,.int .i64 i8a,.int .i64 i9a,.int .i64 i10a,.slice p11a k11a c11a] 30):=⟨_,rfl⟩
 have ha1:Below w1.heap.size w1 W1:=by rw [hW1];exact (Below.refl _ _).alloc (Nat.le_refl _) _
 have HG1:Hid (W1.heap[w1.heap.size]?=some (.cells #[.string t0a,.string t1a,.slice p2a k2a c2a,.slice p3a k3a c3a,.slice p4a k4a c4a,.slice p5a k5a c5a,.int .i64 i6a,.int .i64 i7a,.int .i64 i8a,.int .i64 i9a,.int .i64 i10a,.slice p11a k11a c11a] 30 (0,0))):=by rw [hW1];exact heap_alloc_new w1 _
 have hs1:W1.heap.size=w1.heap.size+1:=by rw [hW1];simp
 have HR2:Hid (Res W1 E (nwN nm ct ad sv) #[.string t0a,.string t1a,.slice p2a k2a c2a,.slice p3a k3a c3a,.slice p4a k4a c4a,.slice p5a k5a c5a,.int .i64 i6a,.int .i64 i7a,.int .i64 i8a,.int .i64 i9a,.int .i64 i10a,.slice p11a k11a c11a]):=HR1.out.below ha1
 have HBW:Hid (Below w.heap.size w W1):=HB1.out.trans (ha1.mono hz1)
 have hG1:=HG1.out
 clear ha1 HR1
 go_upto_region 2 with fail
 rw [← hW1]
 clear hW1
 obtain ⟨W2,hW2⟩:∃ W2,W2=(W1.alloc (.cells #[.string nm,.int .i64 1,.int .i64 1,.int .i64 ad,.bool sv] 37)).alloc (.cells #[.string nm,.string ct,.slice (some ⟨W1.heap.size,0,none⟩) 1 1,.slice none 0 0,.slice none 0 0,.slice none 0 0,.int .i64 0,.int .i64 0,.int .i64 0,.int .i64 0,.int .i64 1000,.slice none 0 0] 30):=⟨_,rfl⟩
 have hb2:Below W1.heap.size W1 W2:=by rw [hW2];exact ((Below.refl _ _).alloc (Nat.le_refl _) _).alloc (by simp) _
 have hs2:W2.heap.size=W1.heap.size+2:=by rw [hW2];simp
 have hgm:W2.heap[W1.heap.size]?=some (.cells #[.string nm,.int .i64 1,.int .i64 1,.int .i64 ad,.bool sv] 37 (0,0)):=by
  rw [hW2,Below.heap_alloc _ _ _ (by simp)];exact heap_alloc_new W1 _
 have HG2:Hid (W2.heap[W1.heap.size+1]?=some (.cells #[.string nm,.string ct,.slice (some ⟨W1.heap.size,0,none⟩) 1 1,.slice none 0 0,.slice none 0 0,.slice none 0 0,.int .i64 0,.int .i64 0,.int .i64 0,.int .i64 0,.int .i64 1000,.slice none 0 0] 30 (0,0))):=by
  have h:=heap_alloc_new (W1.alloc (.cells #[.string nm,.int .i64 1,.int .i64 1,.int .i64 ad,.bool sv] 37)) (.cells #[.string nm,.string ct,.slice (some ⟨W1.heap.size,0,none⟩) 1 1,.slice none 0 0,.slice none 0 0,.slice none 0 0,.int .i64 0,.int .i64 0,.int .i64 0,.int .i64 0,.int .i64 1000,.slice none 0 0] 30)
  have h2:W2.heap[W1.heap.size+1]?=some (.cells #[.string nm,.string ct,.slice (some ⟨W1.heap.size,0,none⟩) 1 1,.slice none 0 0,.slice none 0 0,.slice none 0 0,.int .i64 0,.int .i64 0,.int .i64 0,.int .i64 0,.int .i64 1000,.slice none 0 0] 30 (0,0)):=by rw [hW2];simpa using h
  exact h2
 have HG1:Hid (W2.heap[w1.heap.size]?=some (.cells #[.string t0a,.string t1a,.slice p2a k2a c2a,.slice p3a k3a c3a,.slice p4a k4a c4a,.slice p5a k5a c5a,.int .i64 i6a,.int .i64 i7a,.int .i64 i8a,.int .i64 i9a,.int .i64 i10a,.slice p11a k11a c11a] 30 (0,0))):=(hb2.block _ (by omega)).trans hG1
 have HB2:Hid (Below w.heap.size w W2):=HBW.out.trans (hb2.mono (by omega))
 have HNI:Hid (∀ W3,Below W2.heap.size W2 W3→Calls Tryz.prog 16 #[.agg #[.string t0a,.string t1a,.slice p2a k2a c2a,.slice p3a k3a c3a,.slice p4a k4a c4a,.slice p5a k5a c5a,.int .i64 i6a,.int .i64 i7a,.int .i64 i8a,.int .i64 i9a,.int .i64 i10a,.slice p11a k11a c11a],.int .i64 E,.int .i64 E,.agg #[.string nm,.string ct,.slice (some ⟨W1.heap.size,0,none⟩) 1 1,.slice none 0 0,.slice none 0 0,.slice none 0 0,.int .i64 0,.int .i64 0,.int .i64 0,.int .i64 0,.int .i64 1000,.slice none 0 0]] W3 fun e w'=>e=.returned (.bool true)∧Below W3.heap.size W3 w'):=fun W3 h3=>
  nodeIs_any E (nwN nm ct ad sv) (nwN nm ct ad sv) _ _ W3 ((HR2.out.below hb2).below h3) ((isNew hn hc hgm).below h3) (fun _=>⟨rfl,by simp [nwN],by simp [nwN],by simp [nwN],by simp [nwN],by simp [nwN]⟩)
 have HS1:Hid (W1.heap.size=w1.heap.size+1):=hs1
 have HS2:Hid (W2.heap.size=W1.heap.size+2):=hs2
 clear hb2 hgm hG1 HR2 hs1 hs2
 rcases hl1:labB nm with _ | _
 ·rcases hl2:labB ct with _ | _
  ·rcases ha:within ad 0 4294967295 with _ | _
   ·have hEE:E=1:=HE.out.trans (by rw [hl1,hl2];rfl)
    subst hEE
    clear HE
    go_upto_region 8 with (first
     | (go_at_call 13;refine (isLabel_any _ _ (by first | exact hn | exact hc)).mono ?_;rintro e w' ⟨rfl,hww⟩;have hwq:=hww.symm;subst hwq;first | rw [hl1] | rw [hl2])
     | (go_at_call 14;refine (isAddress_any _ _).mono ?_;rintro e w' ⟨rfl,hww⟩;have hwq:=hww.symm;subst hwq;rw [ha]))
    rw [← hW2]
    clear hW2 hl1 hl2 ha hn hc
    go_wp2_with fail
    refine (nodeBegun_any W2).mono ?_
    rintro e w3 ⟨rfl,hb3⟩
    have hs1:=HS1.out
    have hs2:=HS2.out
    have hg3:w3.heap[w1.heap.size]?=some (.cells #[.string t0a,.string t1a,.slice p2a k2a c2a,.slice p3a k3a c3a,.slice p4a k4a c4a,.slice p5a k5a c5a,.int .i64 i6a,.int .i64 i7a,.int .i64 i8a,.int .i64 i9a,.int .i64 i10a,.slice p11a k11a c11a] 30 (0,0)):=(hb3.block _ (by omega)).trans HG1.out
    have hd3:w3.heap[W1.heap.size+1]?=some (.cells #[.string nm,.string ct,.slice (some ⟨W1.heap.size,0,none⟩) 1 1,.slice none 0 0,.slice none 0 0,.slice none 0 0,.int .i64 0,.int .i64 0,.int .i64 0,.int .i64 0,.int .i64 1000,.slice none 0 0] 30 (0,0)):=(hb3.block _ (by omega)).trans HG2.out
    have HB3:Hid (Below w.heap.size w w3):=HB2.out.trans (hb3.mono HB2.out.size)
    have HI:Hid (Calls Tryz.prog 16 #[.agg #[.string t0a,.string t1a,.slice p2a k2a c2a,.slice p3a k3a c3a,.slice p4a k4a c4a,.slice p5a k5a c5a,.int .i64 i6a,.int .i64 i7a,.int .i64 i8a,.int .i64 i9a,.int .i64 i10a,.slice p11a k11a c11a],.int .i64 1,.int .i64 1,.agg #[.string nm,.string ct,.slice (some ⟨W1.heap.size,0,none⟩) 1 1,.slice none 0 0,.slice none 0 0,.slice none 0 0,.int .i64 0,.int .i64 0,.int .i64 0,.int .i64 0,.int .i64 1000,.slice none 0 0]] w3 fun e w'=>e=.returned (.bool true)∧Below w3.heap.size w3 w'):=HNI.out w3 hb3
    have x0:w3.cell? ⟨w1.heap.size,0,none⟩=some (.string t0a):=cellsAt hg3 0
    have x1:w3.cell? ⟨w1.heap.size,1,none⟩=some (.string t1a):=cellsAt hg3 1
    have x2:w3.cell? ⟨w1.heap.size,2,none⟩=some (.slice p2a k2a c2a):=cellsAt hg3 2
    have x3:w3.cell? ⟨w1.heap.size,3,none⟩=some (.slice p3a k3a c3a):=cellsAt hg3 3
    have x4:w3.cell? ⟨w1.heap.size,4,none⟩=some (.slice p4a k4a c4a):=cellsAt hg3 4
    have x5:w3.cell? ⟨w1.heap.size,5,none⟩=some (.slice p5a k5a c5a):=cellsAt hg3 5
    have x6:w3.cell? ⟨w1.heap.size,6,none⟩=some (.int .i64 i6a):=cellsAt hg3 6
    have x7:w3.cell? ⟨w1.heap.size,7,none⟩=some (.int .i64 i7a):=cellsAt hg3 7
    have x8:w3.cell? ⟨w1.heap.size,8,none⟩=some (.int .i64 i8a):=cellsAt hg3 8
    have x9:w3.cell? ⟨w1.heap.size,9,none⟩=some (.int .i64 i9a):=cellsAt hg3 9
    have x10:w3.cell? ⟨w1.heap.size,10,none⟩=some (.int .i64 i10a):=cellsAt hg3 10
    have x11:w3.cell? ⟨w1.heap.size,11,none⟩=some (.slice p11a k11a c11a):=cellsAt hg3 11
    have y0:w3.cell? ⟨W1.heap.size+1,0,none⟩=some (.string nm):=cellsAt hd3 0
    have y1:w3.cell? ⟨W1.heap.size+1,1,none⟩=some (.string ct):=cellsAt hd3 1
    have y2:w3.cell? ⟨W1.heap.size+1,2,none⟩=some (.slice (some ⟨W1.heap.size,0,none⟩) 1 1):=cellsAt hd3 2
    have y3:w3.cell? ⟨W1.heap.size+1,3,none⟩=some (.slice none 0 0):=cellsAt hd3 3
    have y4:w3.cell? ⟨W1.heap.size+1,4,none⟩=some (.slice none 0 0):=cellsAt hd3 4
    have y5:w3.cell? ⟨W1.heap.size+1,5,none⟩=some (.slice none 0 0):=cellsAt hd3 5
    have y6:w3.cell? ⟨W1.heap.size+1,6,none⟩=some (.int .i64 0):=cellsAt hd3 6
    have y7:w3.cell? ⟨W1.heap.size+1,7,none⟩=some (.int .i64 0):=cellsAt hd3 7
    have y8:w3.cell? ⟨W1.heap.size+1,8,none⟩=some (.int .i64 0):=cellsAt hd3 8
    have y9:w3.cell? ⟨W1.heap.size+1,9,none⟩=some (.int .i64 0):=cellsAt hd3 9
    have y10:w3.cell? ⟨W1.heap.size+1,10,none⟩=some (.int .i64 1000):=cellsAt hd3 10
    have y11:w3.cell? ⟨W1.heap.size+1,11,none⟩=some (.slice none 0 0):=cellsAt hd3 11
    clear hg3 hd3 hb3 HNI hs1 hs2
    go_wp2_with fail
    refine HI.out.mono ?_
    rintro e w4 ⟨rfl,hb4⟩
    have HB4:Hid (Below w.heap.size w w4):=HB3.out.trans (hb4.mono HB3.out.size)
    clear hb4 HI
    go_wp2_with fail
    go_ret
    exact ⟨rfl,HB4.out⟩
   ·have hEE:E=1:=HE.out.trans (by rw [hl1,hl2];rfl)
    subst hEE
    clear HE
    go_upto_region 8 with (first
     | (go_at_call 13;refine (isLabel_any _ _ (by first | exact hn | exact hc)).mono ?_;rintro e w' ⟨rfl,hww⟩;have hwq:=hww.symm;subst hwq;first | rw [hl1] | rw [hl2])
     | (go_at_call 14;refine (isAddress_any _ _).mono ?_;rintro e w' ⟨rfl,hww⟩;have hwq:=hww.symm;subst hwq;rw [ha]))
    rw [← hW2]
    clear hW2 hl1 hl2 ha hn hc
    go_wp2_with fail
    refine (nodeBegun_any W2).mono ?_
    rintro e w3 ⟨rfl,hb3⟩
    have hs1:=HS1.out
    have hs2:=HS2.out
    have hg3:w3.heap[w1.heap.size]?=some (.cells #[.string t0a,.string t1a,.slice p2a k2a c2a,.slice p3a k3a c3a,.slice p4a k4a c4a,.slice p5a k5a c5a,.int .i64 i6a,.int .i64 i7a,.int .i64 i8a,.int .i64 i9a,.int .i64 i10a,.slice p11a k11a c11a] 30 (0,0)):=(hb3.block _ (by omega)).trans HG1.out
    have hd3:w3.heap[W1.heap.size+1]?=some (.cells #[.string nm,.string ct,.slice (some ⟨W1.heap.size,0,none⟩) 1 1,.slice none 0 0,.slice none 0 0,.slice none 0 0,.int .i64 0,.int .i64 0,.int .i64 0,.int .i64 0,.int .i64 1000,.slice none 0 0] 30 (0,0)):=(hb3.block _ (by omega)).trans HG2.out
    have HB3:Hid (Below w.heap.size w w3):=HB2.out.trans (hb3.mono HB2.out.size)
    have HI:Hid (Calls Tryz.prog 16 #[.agg #[.string t0a,.string t1a,.slice p2a k2a c2a,.slice p3a k3a c3a,.slice p4a k4a c4a,.slice p5a k5a c5a,.int .i64 i6a,.int .i64 i7a,.int .i64 i8a,.int .i64 i9a,.int .i64 i10a,.slice p11a k11a c11a],.int .i64 1,.int .i64 1,.agg #[.string nm,.string ct,.slice (some ⟨W1.heap.size,0,none⟩) 1 1,.slice none 0 0,.slice none 0 0,.slice none 0 0,.int .i64 0,.int .i64 0,.int .i64 0,.int .i64 0,.int .i64 1000,.slice none 0 0]] w3 fun e w'=>e=.returned (.bool true)∧Below w3.heap.size w3 w'):=HNI.out w3 hb3
    have x0:w3.cell? ⟨w1.heap.size,0,none⟩=some (.string t0a):=cellsAt hg3 0
    have x1:w3.cell? ⟨w1.heap.size,1,none⟩=some (.string t1a):=cellsAt hg3 1
    have x2:w3.cell? ⟨w1.heap.size,2,none⟩=some (.slice p2a k2a c2a):=cellsAt hg3 2
    have x3:w3.cell? ⟨w1.heap.size,3,none⟩=some (.slice p3a k3a c3a):=cellsAt hg3 3
    have x4:w3.cell? ⟨w1.heap.size,4,none⟩=some (.slice p4a k4a c4a):=cellsAt hg3 4
    have x5:w3.cell? ⟨w1.heap.size,5,none⟩=some (.slice p5a k5a c5a):=cellsAt hg3 5
    have x6:w3.cell? ⟨w1.heap.size,6,none⟩=some (.int .i64 i6a):=cellsAt hg3 6
    have x7:w3.cell? ⟨w1.heap.size,7,none⟩=some (.int .i64 i7a):=cellsAt hg3 7
    have x8:w3.cell? ⟨w1.heap.size,8,none⟩=some (.int .i64 i8a):=cellsAt hg3 8
    have x9:w3.cell? ⟨w1.heap.size,9,none⟩=some (.int .i64 i9a):=cellsAt hg3 9
    have x10:w3.cell? ⟨w1.heap.size,10,none⟩=some (.int .i64 i10a):=cellsAt hg3 10
    have x11:w3.cell? ⟨w1.heap.size,11,none⟩=some (.slice p11a k11a c11a):=cellsAt hg3 11
    have y0:w3.cell? ⟨W1.heap.size+1,0,none⟩=some (.string nm):=cellsAt hd3 0
    have y1:w3.cell? ⟨W1.heap.size+1,1,none⟩=some (.string ct):=cellsAt hd3 1
    have y2:w3.cell? ⟨W1.heap.size+1,2,none⟩=some (.slice (some ⟨W1.heap.size,0,none⟩) 1 1):=cellsAt hd3 2
    have y3:w3.cell? ⟨W1.heap.size+1,3,none⟩=some (.slice none 0 0):=cellsAt hd3 3
    have y4:w3.cell? ⟨W1.heap.size+1,4,none⟩=some (.slice none 0 0):=cellsAt hd3 4
    have y5:w3.cell? ⟨W1.heap.size+1,5,none⟩=some (.slice none 0 0):=cellsAt hd3 5
    have y6:w3.cell? ⟨W1.heap.size+1,6,none⟩=some (.int .i64 0):=cellsAt hd3 6
    have y7:w3.cell? ⟨W1.heap.size+1,7,none⟩=some (.int .i64 0):=cellsAt hd3 7
    have y8:w3.cell? ⟨W1.heap.size+1,8,none⟩=some (.int .i64 0):=cellsAt hd3 8
    have y9:w3.cell? ⟨W1.heap.size+1,9,none⟩=some (.int .i64 0):=cellsAt hd3 9
    have y10:w3.cell? ⟨W1.heap.size+1,10,none⟩=some (.int .i64 1000):=cellsAt hd3 10
    have y11:w3.cell? ⟨W1.heap.size+1,11,none⟩=some (.slice none 0 0):=cellsAt hd3 11
    clear hg3 hd3 hb3 HNI hs1 hs2
    go_wp2_with fail
    refine HI.out.mono ?_
    rintro e w4 ⟨rfl,hb4⟩
    have HB4:Hid (Below w.heap.size w w4):=HB3.out.trans (hb4.mono HB3.out.size)
    clear hb4 HI
    go_wp2_with fail
    go_ret
    exact ⟨rfl,HB4.out⟩
  ·rcases ha:within ad 0 4294967295 with _ | _
   ·have hEE:E=1:=HE.out.trans (by rw [hl1,hl2];rfl)
    subst hEE
    clear HE
    go_upto_region 8 with (first
     | (go_at_call 13;refine (isLabel_any _ _ (by first | exact hn | exact hc)).mono ?_;rintro e w' ⟨rfl,hww⟩;have hwq:=hww.symm;subst hwq;first | rw [hl1] | rw [hl2])
     | (go_at_call 14;refine (isAddress_any _ _).mono ?_;rintro e w' ⟨rfl,hww⟩;have hwq:=hww.symm;subst hwq;rw [ha]))
    rw [← hW2]
    clear hW2 hl1 hl2 ha hn hc
    go_wp2_with fail
    refine (nodeBegun_any W2).mono ?_
    rintro e w3 ⟨rfl,hb3⟩
    have hs1:=HS1.out
    have hs2:=HS2.out
    have hg3:w3.heap[w1.heap.size]?=some (.cells #[.string t0a,.string t1a,.slice p2a k2a c2a,.slice p3a k3a c3a,.slice p4a k4a c4a,.slice p5a k5a c5a,.int .i64 i6a,.int .i64 i7a,.int .i64 i8a,.int .i64 i9a,.int .i64 i10a,.slice p11a k11a c11a] 30 (0,0)):=(hb3.block _ (by omega)).trans HG1.out
    have hd3:w3.heap[W1.heap.size+1]?=some (.cells #[.string nm,.string ct,.slice (some ⟨W1.heap.size,0,none⟩) 1 1,.slice none 0 0,.slice none 0 0,.slice none 0 0,.int .i64 0,.int .i64 0,.int .i64 0,.int .i64 0,.int .i64 1000,.slice none 0 0] 30 (0,0)):=(hb3.block _ (by omega)).trans HG2.out
    have HB3:Hid (Below w.heap.size w w3):=HB2.out.trans (hb3.mono HB2.out.size)
    have HI:Hid (Calls Tryz.prog 16 #[.agg #[.string t0a,.string t1a,.slice p2a k2a c2a,.slice p3a k3a c3a,.slice p4a k4a c4a,.slice p5a k5a c5a,.int .i64 i6a,.int .i64 i7a,.int .i64 i8a,.int .i64 i9a,.int .i64 i10a,.slice p11a k11a c11a],.int .i64 1,.int .i64 1,.agg #[.string nm,.string ct,.slice (some ⟨W1.heap.size,0,none⟩) 1 1,.slice none 0 0,.slice none 0 0,.slice none 0 0,.int .i64 0,.int .i64 0,.int .i64 0,.int .i64 0,.int .i64 1000,.slice none 0 0]] w3 fun e w'=>e=.returned (.bool true)∧Below w3.heap.size w3 w'):=HNI.out w3 hb3
    have x0:w3.cell? ⟨w1.heap.size,0,none⟩=some (.string t0a):=cellsAt hg3 0
    have x1:w3.cell? ⟨w1.heap.size,1,none⟩=some (.string t1a):=cellsAt hg3 1
    have x2:w3.cell? ⟨w1.heap.size,2,none⟩=some (.slice p2a k2a c2a):=cellsAt hg3 2
    have x3:w3.cell? ⟨w1.heap.size,3,none⟩=some (.slice p3a k3a c3a):=cellsAt hg3 3
    have x4:w3.cell? ⟨w1.heap.size,4,none⟩=some (.slice p4a k4a c4a):=cellsAt hg3 4
    have x5:w3.cell? ⟨w1.heap.size,5,none⟩=some (.slice p5a k5a c5a):=cellsAt hg3 5
    have x6:w3.cell? ⟨w1.heap.size,6,none⟩=some (.int .i64 i6a):=cellsAt hg3 6
    have x7:w3.cell? ⟨w1.heap.size,7,none⟩=some (.int .i64 i7a):=cellsAt hg3 7
    have x8:w3.cell? ⟨w1.heap.size,8,none⟩=some (.int .i64 i8a):=cellsAt hg3 8
    have x9:w3.cell? ⟨w1.heap.size,9,none⟩=some (.int .i64 i9a):=cellsAt hg3 9
    have x10:w3.cell? ⟨w1.heap.size,10,none⟩=some (.int .i64 i10a):=cellsAt hg3 10
    have x11:w3.cell? ⟨w1.heap.size,11,none⟩=some (.slice p11a k11a c11a):=cellsAt hg3 11
    have y0:w3.cell? ⟨W1.heap.size+1,0,none⟩=some (.string nm):=cellsAt hd3 0
    have y1:w3.cell? ⟨W1.heap.size+1,1,none⟩=some (.string ct):=cellsAt hd3 1
    have y2:w3.cell? ⟨W1.heap.size+1,2,none⟩=some (.slice (some ⟨W1.heap.size,0,none⟩) 1 1):=cellsAt hd3 2
    have y3:w3.cell? ⟨W1.heap.size+1,3,none⟩=some (.slice none 0 0):=cellsAt hd3 3
    have y4:w3.cell? ⟨W1.heap.size+1,4,none⟩=some (.slice none 0 0):=cellsAt hd3 4
    have y5:w3.cell? ⟨W1.heap.size+1,5,none⟩=some (.slice none 0 0):=cellsAt hd3 5
    have y6:w3.cell? ⟨W1.heap.size+1,6,none⟩=some (.int .i64 0):=cellsAt hd3 6
    have y7:w3.cell? ⟨W1.heap.size+1,7,none⟩=some (.int .i64 0):=cellsAt hd3 7
    have y8:w3.cell? ⟨W1.heap.size+1,8,none⟩=some (.int .i64 0):=cellsAt hd3 8
    have y9:w3.cell? ⟨W1.heap.size+1,9,none⟩=some (.int .i64 0):=cellsAt hd3 9
    have y10:w3.cell? ⟨W1.heap.size+1,10,none⟩=some (.int .i64 1000):=cellsAt hd3 10
    have y11:w3.cell? ⟨W1.heap.size+1,11,none⟩=some (.slice none 0 0):=cellsAt hd3 11
    clear hg3 hd3 hb3 HNI hs1 hs2
    go_wp2_with fail
    refine HI.out.mono ?_
    rintro e w4 ⟨rfl,hb4⟩
    have HB4:Hid (Below w.heap.size w w4):=HB3.out.trans (hb4.mono HB3.out.size)
    clear hb4 HI
    go_wp2_with fail
    go_ret
    exact ⟨rfl,HB4.out⟩
   ·have hEE:E=1:=HE.out.trans (by rw [hl1,hl2];rfl)
    subst hEE
    clear HE
    go_upto_region 8 with (first
     | (go_at_call 13;refine (isLabel_any _ _ (by first | exact hn | exact hc)).mono ?_;rintro e w' ⟨rfl,hww⟩;have hwq:=hww.symm;subst hwq;first | rw [hl1] | rw [hl2])
     | (go_at_call 14;refine (isAddress_any _ _).mono ?_;rintro e w' ⟨rfl,hww⟩;have hwq:=hww.symm;subst hwq;rw [ha]))
    rw [← hW2]
    clear hW2 hl1 hl2 ha hn hc
    go_wp2_with fail
    refine (nodeBegun_any W2).mono ?_
    rintro e w3 ⟨rfl,hb3⟩
    have hs1:=HS1.out
    have hs2:=HS2.out
    have hg3:w3.heap[w1.heap.size]?=some (.cells #[.string t0a,.string t1a,.slice p2a k2a c2a,.slice p3a k3a c3a,.slice p4a k4a c4a,.slice p5a k5a c5a,.int .i64 i6a,.int .i64 i7a,.int .i64 i8a,.int .i64 i9a,.int .i64 i10a,.slice p11a k11a c11a] 30 (0,0)):=(hb3.block _ (by omega)).trans HG1.out
    have hd3:w3.heap[W1.heap.size+1]?=some (.cells #[.string nm,.string ct,.slice (some ⟨W1.heap.size,0,none⟩) 1 1,.slice none 0 0,.slice none 0 0,.slice none 0 0,.int .i64 0,.int .i64 0,.int .i64 0,.int .i64 0,.int .i64 1000,.slice none 0 0] 30 (0,0)):=(hb3.block _ (by omega)).trans HG2.out
    have HB3:Hid (Below w.heap.size w w3):=HB2.out.trans (hb3.mono HB2.out.size)
    have HI:Hid (Calls Tryz.prog 16 #[.agg #[.string t0a,.string t1a,.slice p2a k2a c2a,.slice p3a k3a c3a,.slice p4a k4a c4a,.slice p5a k5a c5a,.int .i64 i6a,.int .i64 i7a,.int .i64 i8a,.int .i64 i9a,.int .i64 i10a,.slice p11a k11a c11a],.int .i64 1,.int .i64 1,.agg #[.string nm,.string ct,.slice (some ⟨W1.heap.size,0,none⟩) 1 1,.slice none 0 0,.slice none 0 0,.slice none 0 0,.int .i64 0,.int .i64 0,.int .i64 0,.int .i64 0,.int .i64 1000,.slice none 0 0]] w3 fun e w'=>e=.returned (.bool true)∧Below w3.heap.size w3 w'):=HNI.out w3 hb3
    have x0:w3.cell? ⟨w1.heap.size,0,none⟩=some (.string t0a):=cellsAt hg3 0
    have x1:w3.cell? ⟨w1.heap.size,1,none⟩=some (.string t1a):=cellsAt hg3 1
    have x2:w3.cell? ⟨w1.heap.size,2,none⟩=some (.slice p2a k2a c2a):=cellsAt hg3 2
    have x3:w3.cell? ⟨w1.heap.size,3,none⟩=some (.slice p3a k3a c3a):=cellsAt hg3 3
    have x4:w3.cell? ⟨w1.heap.size,4,none⟩=some (.slice p4a k4a c4a):=cellsAt hg3 4
    have x5:w3.cell? ⟨w1.heap.size,5,none⟩=some (.slice p5a k5a c5a):=cellsAt hg3 5
    have x6:w3.cell? ⟨w1.heap.size,6,none⟩=some (.int .i64 i6a):=cellsAt hg3 6
    have x7:w3.cell? ⟨w1.heap.size,7,none⟩=some (.int .i64 i7a):=cellsAt hg3 7
    have x8:w3.cell? ⟨w1.heap.size,8,none⟩=some (.int .i64 i8a):=cellsAt hg3 8
    have x9:w3.cell? ⟨w1.heap.size,9,none⟩=some (.int .i64 i9a):=cellsAt hg3 9
    have x10:w3.cell? ⟨w1.heap.size,10,none⟩=some (.int .i64 i10a):=cellsAt hg3 10
    have x11:w3.cell? ⟨w1.heap.size,11,none⟩=some (.slice p11a k11a c11a):=cellsAt hg3 11
    have y0:w3.cell? ⟨W1.heap.size+1,0,none⟩=some (.string nm):=cellsAt hd3 0
    have y1:w3.cell? ⟨W1.heap.size+1,1,none⟩=some (.string ct):=cellsAt hd3 1
    have y2:w3.cell? ⟨W1.heap.size+1,2,none⟩=some (.slice (some ⟨W1.heap.size,0,none⟩) 1 1):=cellsAt hd3 2
    have y3:w3.cell? ⟨W1.heap.size+1,3,none⟩=some (.slice none 0 0):=cellsAt hd3 3
    have y4:w3.cell? ⟨W1.heap.size+1,4,none⟩=some (.slice none 0 0):=cellsAt hd3 4
    have y5:w3.cell? ⟨W1.heap.size+1,5,none⟩=some (.slice none 0 0):=cellsAt hd3 5
    have y6:w3.cell? ⟨W1.heap.size+1,6,none⟩=some (.int .i64 0):=cellsAt hd3 6
    have y7:w3.cell? ⟨W1.heap.size+1,7,none⟩=some (.int .i64 0):=cellsAt hd3 7
    have y8:w3.cell? ⟨W1.heap.size+1,8,none⟩=some (.int .i64 0):=cellsAt hd3 8
    have y9:w3.cell? ⟨W1.heap.size+1,9,none⟩=some (.int .i64 0):=cellsAt hd3 9
    have y10:w3.cell? ⟨W1.heap.size+1,10,none⟩=some (.int .i64 1000):=cellsAt hd3 10
    have y11:w3.cell? ⟨W1.heap.size+1,11,none⟩=some (.slice none 0 0):=cellsAt hd3 11
    clear hg3 hd3 hb3 HNI hs1 hs2
    go_wp2_with fail
    refine HI.out.mono ?_
    rintro e w4 ⟨rfl,hb4⟩
    have HB4:Hid (Below w.heap.size w w4):=HB3.out.trans (hb4.mono HB3.out.size)
    clear hb4 HI
    go_wp2_with fail
    go_ret
    exact ⟨rfl,HB4.out⟩
 rcases hl2:labB ct with _ | _
 ·rcases ha:within ad 0 4294967295 with _ | _
  ·have hEE:E=1:=HE.out.trans (by rw [hl1,hl2];rfl)
   subst hEE
   clear HE
   go_upto_region 8 with (first
    | (go_at_call 13;refine (isLabel_any _ _ (by first | exact hn | exact hc)).mono ?_;rintro e w' ⟨rfl,hww⟩;have hwq:=hww.symm;subst hwq;first | rw [hl1] | rw [hl2])
    | (go_at_call 14;refine (isAddress_any _ _).mono ?_;rintro e w' ⟨rfl,hww⟩;have hwq:=hww.symm;subst hwq;rw [ha]))
   rw [← hW2]
   clear hW2 hl1 hl2 ha hn hc
   go_wp2_with fail
   refine (nodeBegun_any W2).mono ?_
   rintro e w3 ⟨rfl,hb3⟩
   have hs1:=HS1.out
   have hs2:=HS2.out
   have hg3:w3.heap[w1.heap.size]?=some (.cells #[.string t0a,.string t1a,.slice p2a k2a c2a,.slice p3a k3a c3a,.slice p4a k4a c4a,.slice p5a k5a c5a,.int .i64 i6a,.int .i64 i7a,.int .i64 i8a,.int .i64 i9a,.int .i64 i10a,.slice p11a k11a c11a] 30 (0,0)):=(hb3.block _ (by omega)).trans HG1.out
   have hd3:w3.heap[W1.heap.size+1]?=some (.cells #[.string nm,.string ct,.slice (some ⟨W1.heap.size,0,none⟩) 1 1,.slice none 0 0,.slice none 0 0,.slice none 0 0,.int .i64 0,.int .i64 0,.int .i64 0,.int .i64 0,.int .i64 1000,.slice none 0 0] 30 (0,0)):=(hb3.block _ (by omega)).trans HG2.out
   have HB3:Hid (Below w.heap.size w w3):=HB2.out.trans (hb3.mono HB2.out.size)
   have HI:Hid (Calls Tryz.prog 16 #[.agg #[.string t0a,.string t1a,.slice p2a k2a c2a,.slice p3a k3a c3a,.slice p4a k4a c4a,.slice p5a k5a c5a,.int .i64 i6a,.int .i64 i7a,.int .i64 i8a,.int .i64 i9a,.int .i64 i10a,.slice p11a k11a c11a],.int .i64 1,.int .i64 1,.agg #[.string nm,.string ct,.slice (some ⟨W1.heap.size,0,none⟩) 1 1,.slice none 0 0,.slice none 0 0,.slice none 0 0,.int .i64 0,.int .i64 0,.int .i64 0,.int .i64 0,.int .i64 1000,.slice none 0 0]] w3 fun e w'=>e=.returned (.bool true)∧Below w3.heap.size w3 w'):=HNI.out w3 hb3
   have x0:w3.cell? ⟨w1.heap.size,0,none⟩=some (.string t0a):=cellsAt hg3 0
   have x1:w3.cell? ⟨w1.heap.size,1,none⟩=some (.string t1a):=cellsAt hg3 1
   have x2:w3.cell? ⟨w1.heap.size,2,none⟩=some (.slice p2a k2a c2a):=cellsAt hg3 2
   have x3:w3.cell? ⟨w1.heap.size,3,none⟩=some (.slice p3a k3a c3a):=cellsAt hg3 3
   have x4:w3.cell? ⟨w1.heap.size,4,none⟩=some (.slice p4a k4a c4a):=cellsAt hg3 4
   have x5:w3.cell? ⟨w1.heap.size,5,none⟩=some (.slice p5a k5a c5a):=cellsAt hg3 5
   have x6:w3.cell? ⟨w1.heap.size,6,none⟩=some (.int .i64 i6a):=cellsAt hg3 6
   have x7:w3.cell? ⟨w1.heap.size,7,none⟩=some (.int .i64 i7a):=cellsAt hg3 7
   have x8:w3.cell? ⟨w1.heap.size,8,none⟩=some (.int .i64 i8a):=cellsAt hg3 8
   have x9:w3.cell? ⟨w1.heap.size,9,none⟩=some (.int .i64 i9a):=cellsAt hg3 9
   have x10:w3.cell? ⟨w1.heap.size,10,none⟩=some (.int .i64 i10a):=cellsAt hg3 10
   have x11:w3.cell? ⟨w1.heap.size,11,none⟩=some (.slice p11a k11a c11a):=cellsAt hg3 11
   have y0:w3.cell? ⟨W1.heap.size+1,0,none⟩=some (.string nm):=cellsAt hd3 0
   have y1:w3.cell? ⟨W1.heap.size+1,1,none⟩=some (.string ct):=cellsAt hd3 1
   have y2:w3.cell? ⟨W1.heap.size+1,2,none⟩=some (.slice (some ⟨W1.heap.size,0,none⟩) 1 1):=cellsAt hd3 2
   have y3:w3.cell? ⟨W1.heap.size+1,3,none⟩=some (.slice none 0 0):=cellsAt hd3 3
   have y4:w3.cell? ⟨W1.heap.size+1,4,none⟩=some (.slice none 0 0):=cellsAt hd3 4
   have y5:w3.cell? ⟨W1.heap.size+1,5,none⟩=some (.slice none 0 0):=cellsAt hd3 5
   have y6:w3.cell? ⟨W1.heap.size+1,6,none⟩=some (.int .i64 0):=cellsAt hd3 6
   have y7:w3.cell? ⟨W1.heap.size+1,7,none⟩=some (.int .i64 0):=cellsAt hd3 7
   have y8:w3.cell? ⟨W1.heap.size+1,8,none⟩=some (.int .i64 0):=cellsAt hd3 8
   have y9:w3.cell? ⟨W1.heap.size+1,9,none⟩=some (.int .i64 0):=cellsAt hd3 9
   have y10:w3.cell? ⟨W1.heap.size+1,10,none⟩=some (.int .i64 1000):=cellsAt hd3 10
   have y11:w3.cell? ⟨W1.heap.size+1,11,none⟩=some (.slice none 0 0):=cellsAt hd3 11
   clear hg3 hd3 hb3 HNI hs1 hs2
   go_wp2_with fail
   refine HI.out.mono ?_
   rintro e w4 ⟨rfl,hb4⟩
   have HB4:Hid (Below w.heap.size w w4):=HB3.out.trans (hb4.mono HB3.out.size)
   clear hb4 HI
   go_wp2_with fail
   go_ret
   exact ⟨rfl,HB4.out⟩
  ·have hEE:E=1:=HE.out.trans (by rw [hl1,hl2];rfl)
   subst hEE
   clear HE
   go_upto_region 8 with (first
    | (go_at_call 13;refine (isLabel_any _ _ (by first | exact hn | exact hc)).mono ?_;rintro e w' ⟨rfl,hww⟩;have hwq:=hww.symm;subst hwq;first | rw [hl1] | rw [hl2])
    | (go_at_call 14;refine (isAddress_any _ _).mono ?_;rintro e w' ⟨rfl,hww⟩;have hwq:=hww.symm;subst hwq;rw [ha]))
   rw [← hW2]
   clear hW2 hl1 hl2 ha hn hc
   go_wp2_with fail
   refine (nodeBegun_any W2).mono ?_
   rintro e w3 ⟨rfl,hb3⟩
   have hs1:=HS1.out
   have hs2:=HS2.out
   have hg3:w3.heap[w1.heap.size]?=some (.cells #[.string t0a,.string t1a,.slice p2a k2a c2a,.slice p3a k3a c3a,.slice p4a k4a c4a,.slice p5a k5a c5a,.int .i64 i6a,.int .i64 i7a,.int .i64 i8a,.int .i64 i9a,.int .i64 i10a,.slice p11a k11a c11a] 30 (0,0)):=(hb3.block _ (by omega)).trans HG1.out
   have hd3:w3.heap[W1.heap.size+1]?=some (.cells #[.string nm,.string ct,.slice (some ⟨W1.heap.size,0,none⟩) 1 1,.slice none 0 0,.slice none 0 0,.slice none 0 0,.int .i64 0,.int .i64 0,.int .i64 0,.int .i64 0,.int .i64 1000,.slice none 0 0] 30 (0,0)):=(hb3.block _ (by omega)).trans HG2.out
   have HB3:Hid (Below w.heap.size w w3):=HB2.out.trans (hb3.mono HB2.out.size)
   have HI:Hid (Calls Tryz.prog 16 #[.agg #[.string t0a,.string t1a,.slice p2a k2a c2a,.slice p3a k3a c3a,.slice p4a k4a c4a,.slice p5a k5a c5a,.int .i64 i6a,.int .i64 i7a,.int .i64 i8a,.int .i64 i9a,.int .i64 i10a,.slice p11a k11a c11a],.int .i64 1,.int .i64 1,.agg #[.string nm,.string ct,.slice (some ⟨W1.heap.size,0,none⟩) 1 1,.slice none 0 0,.slice none 0 0,.slice none 0 0,.int .i64 0,.int .i64 0,.int .i64 0,.int .i64 0,.int .i64 1000,.slice none 0 0]] w3 fun e w'=>e=.returned (.bool true)∧Below w3.heap.size w3 w'):=HNI.out w3 hb3
   have x0:w3.cell? ⟨w1.heap.size,0,none⟩=some (.string t0a):=cellsAt hg3 0
   have x1:w3.cell? ⟨w1.heap.size,1,none⟩=some (.string t1a):=cellsAt hg3 1
   have x2:w3.cell? ⟨w1.heap.size,2,none⟩=some (.slice p2a k2a c2a):=cellsAt hg3 2
   have x3:w3.cell? ⟨w1.heap.size,3,none⟩=some (.slice p3a k3a c3a):=cellsAt hg3 3
   have x4:w3.cell? ⟨w1.heap.size,4,none⟩=some (.slice p4a k4a c4a):=cellsAt hg3 4
   have x5:w3.cell? ⟨w1.heap.size,5,none⟩=some (.slice p5a k5a c5a):=cellsAt hg3 5
   have x6:w3.cell? ⟨w1.heap.size,6,none⟩=some (.int .i64 i6a):=cellsAt hg3 6
   have x7:w3.cell? ⟨w1.heap.size,7,none⟩=some (.int .i64 i7a):=cellsAt hg3 7
   have x8:w3.cell? ⟨w1.heap.size,8,none⟩=some (.int .i64 i8a):=cellsAt hg3 8
   have x9:w3.cell? ⟨w1.heap.size,9,none⟩=some (.int .i64 i9a):=cellsAt hg3 9
   have x10:w3.cell? ⟨w1.heap.size,10,none⟩=some (.int .i64 i10a):=cellsAt hg3 10
   have x11:w3.cell? ⟨w1.heap.size,11,none⟩=some (.slice p11a k11a c11a):=cellsAt hg3 11
   have y0:w3.cell? ⟨W1.heap.size+1,0,none⟩=some (.string nm):=cellsAt hd3 0
   have y1:w3.cell? ⟨W1.heap.size+1,1,none⟩=some (.string ct):=cellsAt hd3 1
   have y2:w3.cell? ⟨W1.heap.size+1,2,none⟩=some (.slice (some ⟨W1.heap.size,0,none⟩) 1 1):=cellsAt hd3 2
   have y3:w3.cell? ⟨W1.heap.size+1,3,none⟩=some (.slice none 0 0):=cellsAt hd3 3
   have y4:w3.cell? ⟨W1.heap.size+1,4,none⟩=some (.slice none 0 0):=cellsAt hd3 4
   have y5:w3.cell? ⟨W1.heap.size+1,5,none⟩=some (.slice none 0 0):=cellsAt hd3 5
   have y6:w3.cell? ⟨W1.heap.size+1,6,none⟩=some (.int .i64 0):=cellsAt hd3 6
   have y7:w3.cell? ⟨W1.heap.size+1,7,none⟩=some (.int .i64 0):=cellsAt hd3 7
   have y8:w3.cell? ⟨W1.heap.size+1,8,none⟩=some (.int .i64 0):=cellsAt hd3 8
   have y9:w3.cell? ⟨W1.heap.size+1,9,none⟩=some (.int .i64 0):=cellsAt hd3 9
   have y10:w3.cell? ⟨W1.heap.size+1,10,none⟩=some (.int .i64 1000):=cellsAt hd3 10
   have y11:w3.cell? ⟨W1.heap.size+1,11,none⟩=some (.slice none 0 0):=cellsAt hd3 11
   clear hg3 hd3 hb3 HNI hs1 hs2
   go_wp2_with fail
   refine HI.out.mono ?_
   rintro e w4 ⟨rfl,hb4⟩
   have HB4:Hid (Below w.heap.size w w4):=HB3.out.trans (hb4.mono HB3.out.size)
   clear hb4 HI
   go_wp2_with fail
   go_ret
   exact ⟨rfl,HB4.out⟩
 rcases ha:within ad 0 4294967295 with _ | _
 ·have hEE:E=3:=HE.out.trans (by rw [hl1,hl2,ha];rfl)
  subst hEE
  clear HE
  go_upto_region 8 with (first
   | (go_at_call 13;refine (isLabel_any _ _ (by first | exact hn | exact hc)).mono ?_;rintro e w' ⟨rfl,hww⟩;have hwq:=hww.symm;subst hwq;first | rw [hl1] | rw [hl2])
   | (go_at_call 14;refine (isAddress_any _ _).mono ?_;rintro e w' ⟨rfl,hww⟩;have hwq:=hww.symm;subst hwq;rw [ha]))
  rw [← hW2]
  clear hW2 hl1 hl2 ha hn hc
  go_wp2_with fail
  refine (nodeBegun_any W2).mono ?_
  rintro e w3 ⟨rfl,hb3⟩
  have hs1:=HS1.out
  have hs2:=HS2.out
  have hg3:w3.heap[w1.heap.size]?=some (.cells #[.string t0a,.string t1a,.slice p2a k2a c2a,.slice p3a k3a c3a,.slice p4a k4a c4a,.slice p5a k5a c5a,.int .i64 i6a,.int .i64 i7a,.int .i64 i8a,.int .i64 i9a,.int .i64 i10a,.slice p11a k11a c11a] 30 (0,0)):=(hb3.block _ (by omega)).trans HG1.out
  have hd3:w3.heap[W1.heap.size+1]?=some (.cells #[.string nm,.string ct,.slice (some ⟨W1.heap.size,0,none⟩) 1 1,.slice none 0 0,.slice none 0 0,.slice none 0 0,.int .i64 0,.int .i64 0,.int .i64 0,.int .i64 0,.int .i64 1000,.slice none 0 0] 30 (0,0)):=(hb3.block _ (by omega)).trans HG2.out
  have HB3:Hid (Below w.heap.size w w3):=HB2.out.trans (hb3.mono HB2.out.size)
  have HI:Hid (Calls Tryz.prog 16 #[.agg #[.string t0a,.string t1a,.slice p2a k2a c2a,.slice p3a k3a c3a,.slice p4a k4a c4a,.slice p5a k5a c5a,.int .i64 i6a,.int .i64 i7a,.int .i64 i8a,.int .i64 i9a,.int .i64 i10a,.slice p11a k11a c11a],.int .i64 3,.int .i64 3,.agg #[.string nm,.string ct,.slice (some ⟨W1.heap.size,0,none⟩) 1 1,.slice none 0 0,.slice none 0 0,.slice none 0 0,.int .i64 0,.int .i64 0,.int .i64 0,.int .i64 0,.int .i64 1000,.slice none 0 0]] w3 fun e w'=>e=.returned (.bool true)∧Below w3.heap.size w3 w'):=HNI.out w3 hb3
  have x0:w3.cell? ⟨w1.heap.size,0,none⟩=some (.string t0a):=cellsAt hg3 0
  have x1:w3.cell? ⟨w1.heap.size,1,none⟩=some (.string t1a):=cellsAt hg3 1
  have x2:w3.cell? ⟨w1.heap.size,2,none⟩=some (.slice p2a k2a c2a):=cellsAt hg3 2
  have x3:w3.cell? ⟨w1.heap.size,3,none⟩=some (.slice p3a k3a c3a):=cellsAt hg3 3
  have x4:w3.cell? ⟨w1.heap.size,4,none⟩=some (.slice p4a k4a c4a):=cellsAt hg3 4
  have x5:w3.cell? ⟨w1.heap.size,5,none⟩=some (.slice p5a k5a c5a):=cellsAt hg3 5
  have x6:w3.cell? ⟨w1.heap.size,6,none⟩=some (.int .i64 i6a):=cellsAt hg3 6
  have x7:w3.cell? ⟨w1.heap.size,7,none⟩=some (.int .i64 i7a):=cellsAt hg3 7
  have x8:w3.cell? ⟨w1.heap.size,8,none⟩=some (.int .i64 i8a):=cellsAt hg3 8
  have x9:w3.cell? ⟨w1.heap.size,9,none⟩=some (.int .i64 i9a):=cellsAt hg3 9
  have x10:w3.cell? ⟨w1.heap.size,10,none⟩=some (.int .i64 i10a):=cellsAt hg3 10
  have x11:w3.cell? ⟨w1.heap.size,11,none⟩=some (.slice p11a k11a c11a):=cellsAt hg3 11
  have y0:w3.cell? ⟨W1.heap.size+1,0,none⟩=some (.string nm):=cellsAt hd3 0
  have y1:w3.cell? ⟨W1.heap.size+1,1,none⟩=some (.string ct):=cellsAt hd3 1
  have y2:w3.cell? ⟨W1.heap.size+1,2,none⟩=some (.slice (some ⟨W1.heap.size,0,none⟩) 1 1):=cellsAt hd3 2
  have y3:w3.cell? ⟨W1.heap.size+1,3,none⟩=some (.slice none 0 0):=cellsAt hd3 3
  have y4:w3.cell? ⟨W1.heap.size+1,4,none⟩=some (.slice none 0 0):=cellsAt hd3 4
  have y5:w3.cell? ⟨W1.heap.size+1,5,none⟩=some (.slice none 0 0):=cellsAt hd3 5
  have y6:w3.cell? ⟨W1.heap.size+1,6,none⟩=some (.int .i64 0):=cellsAt hd3 6
  have y7:w3.cell? ⟨W1.heap.size+1,7,none⟩=some (.int .i64 0):=cellsAt hd3 7
  have y8:w3.cell? ⟨W1.heap.size+1,8,none⟩=some (.int .i64 0):=cellsAt hd3 8
  have y9:w3.cell? ⟨W1.heap.size+1,9,none⟩=some (.int .i64 0):=cellsAt hd3 9
  have y10:w3.cell? ⟨W1.heap.size+1,10,none⟩=some (.int .i64 1000):=cellsAt hd3 10
  have y11:w3.cell? ⟨W1.heap.size+1,11,none⟩=some (.slice none 0 0):=cellsAt hd3 11
  clear hg3 hd3 hb3 HNI hs1 hs2
  go_wp2_with fail
  refine HI.out.mono ?_
  rintro e w4 ⟨rfl,hb4⟩
  have HB4:Hid (Below w.heap.size w w4):=HB3.out.trans (hb4.mono HB3.out.size)
  clear hb4 HI
  go_wp2_with fail
  go_ret
  exact ⟨rfl,HB4.out⟩
 ·have hEE:E=0:=HE.out.trans (by rw [hl1,hl2,ha];rfl)
  subst hEE
  clear HE
  go_upto_region 8 with (first
   | (go_at_call 13;refine (isLabel_any _ _ (by first | exact hn | exact hc)).mono ?_;rintro e w' ⟨rfl,hww⟩;have hwq:=hww.symm;subst hwq;first | rw [hl1] | rw [hl2])
   | (go_at_call 14;refine (isAddress_any _ _).mono ?_;rintro e w' ⟨rfl,hww⟩;have hwq:=hww.symm;subst hwq;rw [ha]))
  rw [← hW2]
  clear hW2 hl1 hl2 ha hn hc
  go_wp2_with fail
  refine (nodeBegun_any W2).mono ?_
  rintro e w3 ⟨rfl,hb3⟩
  have hs1:=HS1.out
  have hs2:=HS2.out
  have hg3:w3.heap[w1.heap.size]?=some (.cells #[.string t0a,.string t1a,.slice p2a k2a c2a,.slice p3a k3a c3a,.slice p4a k4a c4a,.slice p5a k5a c5a,.int .i64 i6a,.int .i64 i7a,.int .i64 i8a,.int .i64 i9a,.int .i64 i10a,.slice p11a k11a c11a] 30 (0,0)):=(hb3.block _ (by omega)).trans HG1.out
  have hd3:w3.heap[W1.heap.size+1]?=some (.cells #[.string nm,.string ct,.slice (some ⟨W1.heap.size,0,none⟩) 1 1,.slice none 0 0,.slice none 0 0,.slice none 0 0,.int .i64 0,.int .i64 0,.int .i64 0,.int .i64 0,.int .i64 1000,.slice none 0 0] 30 (0,0)):=(hb3.block _ (by omega)).trans HG2.out
  have HB3:Hid (Below w.heap.size w w3):=HB2.out.trans (hb3.mono HB2.out.size)
  have HI:Hid (Calls Tryz.prog 16 #[.agg #[.string t0a,.string t1a,.slice p2a k2a c2a,.slice p3a k3a c3a,.slice p4a k4a c4a,.slice p5a k5a c5a,.int .i64 i6a,.int .i64 i7a,.int .i64 i8a,.int .i64 i9a,.int .i64 i10a,.slice p11a k11a c11a],.int .i64 0,.int .i64 0,.agg #[.string nm,.string ct,.slice (some ⟨W1.heap.size,0,none⟩) 1 1,.slice none 0 0,.slice none 0 0,.slice none 0 0,.int .i64 0,.int .i64 0,.int .i64 0,.int .i64 0,.int .i64 1000,.slice none 0 0]] w3 fun e w'=>e=.returned (.bool true)∧Below w3.heap.size w3 w'):=HNI.out w3 hb3
  have x0:w3.cell? ⟨w1.heap.size,0,none⟩=some (.string t0a):=cellsAt hg3 0
  have x1:w3.cell? ⟨w1.heap.size,1,none⟩=some (.string t1a):=cellsAt hg3 1
  have x2:w3.cell? ⟨w1.heap.size,2,none⟩=some (.slice p2a k2a c2a):=cellsAt hg3 2
  have x3:w3.cell? ⟨w1.heap.size,3,none⟩=some (.slice p3a k3a c3a):=cellsAt hg3 3
  have x4:w3.cell? ⟨w1.heap.size,4,none⟩=some (.slice p4a k4a c4a):=cellsAt hg3 4
  have x5:w3.cell? ⟨w1.heap.size,5,none⟩=some (.slice p5a k5a c5a):=cellsAt hg3 5
  have x6:w3.cell? ⟨w1.heap.size,6,none⟩=some (.int .i64 i6a):=cellsAt hg3 6
  have x7:w3.cell? ⟨w1.heap.size,7,none⟩=some (.int .i64 i7a):=cellsAt hg3 7
  have x8:w3.cell? ⟨w1.heap.size,8,none⟩=some (.int .i64 i8a):=cellsAt hg3 8
  have x9:w3.cell? ⟨w1.heap.size,9,none⟩=some (.int .i64 i9a):=cellsAt hg3 9
  have x10:w3.cell? ⟨w1.heap.size,10,none⟩=some (.int .i64 i10a):=cellsAt hg3 10
  have x11:w3.cell? ⟨w1.heap.size,11,none⟩=some (.slice p11a k11a c11a):=cellsAt hg3 11
  have y0:w3.cell? ⟨W1.heap.size+1,0,none⟩=some (.string nm):=cellsAt hd3 0
  have y1:w3.cell? ⟨W1.heap.size+1,1,none⟩=some (.string ct):=cellsAt hd3 1
  have y2:w3.cell? ⟨W1.heap.size+1,2,none⟩=some (.slice (some ⟨W1.heap.size,0,none⟩) 1 1):=cellsAt hd3 2
  have y3:w3.cell? ⟨W1.heap.size+1,3,none⟩=some (.slice none 0 0):=cellsAt hd3 3
  have y4:w3.cell? ⟨W1.heap.size+1,4,none⟩=some (.slice none 0 0):=cellsAt hd3 4
  have y5:w3.cell? ⟨W1.heap.size+1,5,none⟩=some (.slice none 0 0):=cellsAt hd3 5
  have y6:w3.cell? ⟨W1.heap.size+1,6,none⟩=some (.int .i64 0):=cellsAt hd3 6
  have y7:w3.cell? ⟨W1.heap.size+1,7,none⟩=some (.int .i64 0):=cellsAt hd3 7
  have y8:w3.cell? ⟨W1.heap.size+1,8,none⟩=some (.int .i64 0):=cellsAt hd3 8
  have y9:w3.cell? ⟨W1.heap.size+1,9,none⟩=some (.int .i64 0):=cellsAt hd3 9
  have y10:w3.cell? ⟨W1.heap.size+1,10,none⟩=some (.int .i64 1000):=cellsAt hd3 10
  have y11:w3.cell? ⟨W1.heap.size+1,11,none⟩=some (.slice none 0 0):=cellsAt hd3 11
  clear hg3 hd3 hb3 HNI hs1 hs2
  go_wp2_with fail
  refine HI.out.mono ?_
  rintro e w4 ⟨rfl,hb4⟩
  have HB4:Hid (Below w.heap.size w w4):=HB3.out.trans (hb4.mono HB3.out.size)
  clear hb4 HI
  go_wp2_with fail
  go_ret
  exact ⟨rfl,HB4.out⟩
end Go.Proofs.YtikgjgmgbfjcgaaGreat
