import Derived.Test.YtikgjgmgbfjcgaaGreatX45
import Derived.Test.YtikgjgmgbfjcgaaGreatX49
import Derived.Lib.QuietBelow
import Derived.Test.YtikgjgmgbfjcgaaGreatX51
namespace Go.Proofs.YtikgjgmgbfjcgaaGreat
open Go.RowKit
theorem refCheck_is {w:World} {n:Nd} {A:Array Value} (h:IsNd w n A):Calls Tryz.prog 18 #[.agg A] w fun e w'=>e=.returned (.int .i64 n.e)∧Below w.heap.size w w':=by
 obtain ⟨_,_,_,_,_,rfl,h⟩:=h
 exact refNode_any n _ _ _ _ _ w h
def pz:Pk:=⟨⟨#[]⟩,false,[],[],[],[]⟩
theorem isPz (w:World):IsPk w pz #[.string ⟨#[]⟩,.bool false,.slice none 0 0,.slice none 0 0,.slice none 0 0,.slice none 0 0]:=
 ⟨_,_,_,_,rfl,⟨none,0,rfl,ns_get (by simp [pz]),.inl rfl⟩,⟨none,0,rfl,Sv.ns_get (by simp [pz]),.inl rfl⟩,⟨none,0,rfl,Gw.ns_get (by simp [pz]),.inl rfl⟩,⟨none,0,rfl,Wh.ns_get (by simp [pz]),.inl rfl⟩⟩
theorem pz_small:pz.Small:=⟨by simp [pz],by simp [pz],by simp [pz],by simp [pz]⟩
theorem Nd.Parts.small {n:Nd} (h:n.Parts):n.Small:=by
 have l1:=(chk_zero h.ms).1
 have l2:=(chkR_e0 h.rs).1
 have l3:=(Sv.chk_zero h.sv).1
 have l4:=(Gw.chk_zero h.gw).1
 have l5:=(Wh.chk_zero h.wh).1
 exact ⟨by omega,by omega,by omega,by omega,by omega⟩
theorem bumps_len:∀ (is:List Nat) (rs:List Rum),(is.foldl bumpOne rs).length=rs.length
 | [],_=>rfl
 | i :: is,rs=>by rw [List.foldl_cons,bumps_len is];simp [bumpOne]
theorem takeIs_rest {rs:List Rum} {times:Int} {told:List Mem} {rest:List Rum} (h:TakeIs rs times told rest):rest.length≤rs.length:=by
 rcases h with ⟨rfl,_,rfl⟩ | ⟨_,ord,_,_,rfl⟩
 ·exact Nat.le_refl _
 ·refine Nat.le_trans (List.length_filter_le _ _) ?_
  unfold bump
  rw [bumps_len]
  exact Nat.le_refl _
theorem TellSays.bad {n:Nd} {ne:Int} {w w':World} {e:Ending} (h:TellSays n ne w e w') (h1:ne≠0):e=.returned (.tuple #[.agg #[.string ⟨#[]⟩,.string ⟨#[]⟩,.slice none 0 0,.slice none 0 0,.slice none 0 0,.slice none 0 0,.int .i64 0,.int .i64 0,.int .i64 0,.int .i64 0,.int .i64 0,.slice none 0 0],.agg #[.string ⟨#[]⟩,.bool false,.slice none 0 0,.slice none 0 0,.slice none 0 0,.slice none 0 0],.int .i64 ne])∧Below w.heap.size w w':=by
 obtain ⟨hb,⟨_,rfl⟩ | ⟨h3,_⟩⟩:=h
 ·exact ⟨rfl,hb⟩
 ·exact absurd h3 h1
theorem WholeSays.bad {n:Nd} {ne:Int} {w w':World} {e:Ending} (h:WholeSays n ne w e w') (h1:ne≠0):e=.returned (.tuple #[.agg #[.string ⟨#[]⟩,.bool false,.slice none 0 0,.slice none 0 0,.slice none 0 0,.slice none 0 0],.int .i64 ne])∧Below w.heap.size w w':=by
 obtain ⟨hb,⟨_,rfl⟩ | ⟨h3,_⟩⟩:=h
 ·exact ⟨rfl,hb⟩
 ·exact absurd h3 h1
set_option maxHeartbeats 25600000 in
set_option maxRecDepth 100000 in
theorem nodeTells_walk (n:Nd) (A:Array Value) (w:World) (h:IsNd w n A) :
 Calls Tryz.prog 5 #[.agg A] w fun e w'=>e=.returned (.bool true)∧Below w.heap.size w w':=by
 have HOK:Hid (NdOk n):=h.ok
 have HTL:Hid (∀ W,Below w.heap.size w W→Calls Tryz.prog 19 #[.agg A] W fun e w'=>TellSays n n.e W e w'):=fun W hW=>tell_is (h.below hW)
 have HWH:Hid (∀ W,Below w.heap.size w W→Calls Tryz.prog 20 #[.agg A] W fun e w'=>WholeSays n n.e W e w'):=fun W hW=>whole_is (h.below hW)
 have HCK:Hid (∀ W,Below w.heap.size w W→Calls Tryz.prog 18 #[.agg A] W fun e w'=>e=.returned (.int .i64 n.e)∧Below W.heap.size W w'):=fun W hW=>refCheck_is (h.below hW)
 by_cases hne:n.e=0
 ·have hp:=Nd.parts (Nd.e_zero hne).1
  have HTO:Hid (∀ W l rest,TellIs n l rest→Below w.heap.size w W→Calls Tryz.prog 21 #[.agg A] W fun e w'=>∃ C P,e=.returned (.tuple #[.agg C,.agg P])∧(∀ V,Sh (fun k=>w.heap.size≤k∧k < W.heap.size) w' V→IsNd V { n with rs:=rest } C∧IsPk V ⟨n.name,false,l,[],[],[]⟩ P)∧Below W.heap.size W w'):=fun W l rest ht hW=>tellOf_is n A w W h hW hne l rest ht
  have HWO:Hid (∀ W,Calls Tryz.prog 22 #[.agg A] W fun e w'=>∃ P,e=.returned (.agg P)∧IsPk w n.pk P∧Below W.heap.size W w'):=fun W=>wholeOf_is n A w W h
  have HSM:Hid (∀ l rest,TellIs n l rest→Nd.Small { n with rs:=rest }):=fun l rest ht=>by
   obtain ⟨told,hk,_⟩:=ht
   have:=takeIs_rest hk
   have hs:=hp.small
   exact ⟨hs.ms,by have:=hs.rs;simp only;omega,hs.sv,hs.gw,hs.wh⟩
  have HSL:Hid (∀ l rest,TellIs n l rest→Pk.Small ⟨n.name,false,l,[],[],[]⟩):=fun l rest ht=>by
   obtain ⟨told,hk,hpm,_⟩:=ht
   have h1:=takeIs_len hk
   have h2:=hpm.length_eq
   exact ⟨by simp only;omega,by simp,by simp,by simp⟩
  have HLN:Hid (∀ l rest,TellIs n l rest→∀ m∈l,m.name.size≤maxLen):=fun l rest ht m hm=>by
   obtain ⟨told,hk,hpm,_⟩:=ht
   exact (takeIs_ok hk HOK.out.rs).1 m (hpm.mem_iff.1 hm)
  have HSK:Hid (n.pk.Small):=⟨hp.small.ms,hp.small.sv,hp.small.gw,hp.small.wh⟩
  rw [hne] at HTL HWH HCK
  obtain ⟨t0a,t1a,p2a,k2a,c2a,p3a,k3a,c3a,p4a,k4a,c4a,p5a,k5a,c5a,i6a,i7a,i8a,i9a,i10a,p11a,k11a,c11a,rfl⟩:=h.letters
  simp only [ndV] at HTL HWH HCK HTO HWO ⊢
  clear h hne hp
  obtain ⟨W0,hW0⟩:∃ W0,W0=w.alloc (.cells #[.string t0a,.string t1a,.slice p2a k2a c2a,.slice p3a k3a c3a,.slice p4a k4a c4a,.slice p5a k5a c5a,.int .i64 i6a,.int .i64 i7a,.int .i64 i8a,.int .i64 i9a,.int .i64 i10a,.slice p11a k11a c11a] 30):=⟨_,rfl⟩
  have hb0:Below w.heap.size w W0:=by rw [hW0];exact (Below.refl _ _).alloc (Nat.le_refl _) _
  have hg0:W0.heap[w.heap.size]?=some (.cells #[.string t0a,.string t1a,.slice p2a k2a c2a,.slice p3a k3a c3a,.slice p4a k4a c4a,.slice p5a k5a c5a,.int .i64 i6a,.int .i64 i7a,.int .i64 i8a,.int .i64 i9a,.int .i64 i10a,.slice p11a k11a c11a] 30 (0,0)):=by rw [hW0];exact heap_alloc_new w _
  have hs0:w.heap.size < W0.heap.size:=by rw [hW0];simp
  have HB0:Hid (Below w.heap.size w W0):=hb0
  have HG0:Hid (W0.heap[w.heap.size]?=some (.cells #[.string t0a,.string t1a,.slice p2a k2a c2a,.slice p3a k3a c3a,.slice p4a k4a c4a,.slice p5a k5a c5a,.int .i64 i6a,.int .i64 i7a,.int .i64 i8a,.int .i64 i9a,.int .i64 i10a,.slice p11a k11a c11a] 30 (0,0))):=hg0
  have a0:W0.cell? ⟨w.heap.size,0,none⟩=some (.string t0a):=cellsAt hg0 0
  have a1:W0.cell? ⟨w.heap.size,1,none⟩=some (.string t1a):=cellsAt hg0 1
  have a2:W0.cell? ⟨w.heap.size,2,none⟩=some (.slice p2a k2a c2a):=cellsAt hg0 2
  have a3:W0.cell? ⟨w.heap.size,3,none⟩=some (.slice p3a k3a c3a):=cellsAt hg0 3
  have a4:W0.cell? ⟨w.heap.size,4,none⟩=some (.slice p4a k4a c4a):=cellsAt hg0 4
  have a5:W0.cell? ⟨w.heap.size,5,none⟩=some (.slice p5a k5a c5a):=cellsAt hg0 5
  have a6:W0.cell? ⟨w.heap.size,6,none⟩=some (.int .i64 i6a):=cellsAt hg0 6
  have a7:W0.cell? ⟨w.heap.size,7,none⟩=some (.int .i64 i7a):=cellsAt hg0 7
  have a8:W0.cell? ⟨w.heap.size,8,none⟩=some (.int .i64 i8a):=cellsAt hg0 8
  have a9:W0.cell? ⟨w.heap.size,9,none⟩=some (.int .i64 i9a):=cellsAt hg0 9
  have a10:W0.cell? ⟨w.heap.size,10,none⟩=some (.int .i64 i10a):=cellsAt hg0 10
  have a11:W0.cell? ⟨w.heap.size,11,none⟩=some (.slice p11a k11a c11a):=cellsAt hg0 11
  clear hb0 hg0
  go_enter Tryz.func5,Tryz.ntmps5
  go_upto_region 1 with fail
  rw [← hW0]
  clear hW0
  go_wp2_with fail
  refine (HTL.out W0 HB0.out).mono ?_
  intro e w1 hh
  obtain ⟨A1,ta,tk,tc,l,rest,rfl,hTI,hOX,hOL,hb1⟩:=hh.ok rfl
  obtain ⟨t0x,t1x,p2x,k2x,c2x,p3x,k3x,c3x,p4x,k4x,c4x,p5x,k5x,c5x,i6x,i7x,i8x,i9x,i10x,p11x,k11x,c11x,rfl⟩:=hOX.is.letters
  simp only [ndV] at hOX ⊢
  have HTI:Hid (TellIs n l rest):=hTI
  have HX1:Hid (IsNd w1 { n with rs:=rest } #[.string t0x,.string t1x,.slice p2x k2x c2x,.slice p3x k3x c3x,.slice p4x k4x c4x,.slice p5x k5x c5x,.int .i64 i6x,.int .i64 i7x,.int .i64 i8x,.int .i64 i9x,.int .i64 i10x,.slice p11x k11x c11x]):=hOX.is
  have HP1:Hid (IsPk w1 ⟨n.name,false,l,[],[],[]⟩ #[.string n.name,.bool false,.slice ta tk tc,.slice none 0 0,.slice none 0 0,.slice none 0 0]):=⟨_,_,_,_,rfl,hOL.sl (ns_get (HLN.out l rest hTI)),⟨none,0,rfl,Sv.ns_get (by simp),.inl rfl⟩,⟨none,0,rfl,Gw.ns_get (by simp),.inl rfl⟩,⟨none,0,rfl,Wh.ns_get (by simp),.inl rfl⟩⟩
  clear hOX hOL
  have hg1:w1.heap[w.heap.size]?=some (.cells #[.string t0a,.string t1a,.slice p2a k2a c2a,.slice p3a k3a c3a,.slice p4a k4a c4a,.slice p5a k5a c5a,.int .i64 i6a,.int .i64 i7a,.int .i64 i8a,.int .i64 i9a,.int .i64 i10a,.slice p11a k11a c11a] 30 (0,0)):=(hb1.block _ hs0).trans HG0.out
  have hbw1:Below w.heap.size w w1:=HB0.out.trans (hb1.mono (Nat.le_of_lt hs0))
  obtain ⟨W1,hW1⟩:∃ W1,W1=(w1.alloc (.cells #[.string t0x,.string t1x,.slice p2x k2x c2x,.slice p3x k3x c3x,.slice p4x k4x c4x,.slice p5x k5x c5x,.int .i64 i6x,.int .i64 i7x,.int .i64 i8x,.int .i64 i9x,.int .i64 i10x,.slice p11x k11x c11x] 30)).alloc (.cells #[.string n.name,.bool false,.slice ta tk tc,.slice none 0 0,.slice none 0 0,.slice none 0 0] 44):=⟨_,rfl⟩
  have hx1:Below w1.heap.size w1 W1:=by rw [hW1];exact ((Below.refl _ _).alloc (Nat.le_refl _) _).alloc (by simp) _
  have hgx:W1.heap[w1.heap.size]?=some (.cells #[.string t0x,.string t1x,.slice p2x k2x c2x,.slice p3x k3x c3x,.slice p4x k4x c4x,.slice p5x k5x c5x,.int .i64 i6x,.int .i64 i7x,.int .i64 i8x,.int .i64 i9x,.int .i64 i10x,.slice p11x k11x c11x] 30 (0,0)):=by rw [hW1,Below.heap_alloc _ _ _ (by simp)];exact heap_alloc_new w1 _
  have hgp:W1.heap[w1.heap.size+1]?=some (.cells #[.string n.name,.bool false,.slice ta tk tc,.slice none 0 0,.slice none 0 0,.slice none 0 0] 44 (0,0)):=by
   have h:=heap_alloc_new (w1.alloc (.cells #[.string t0x,.string t1x,.slice p2x k2x c2x,.slice p3x k3x c3x,.slice p4x k4x c4x,.slice p5x k5x c5x,.int .i64 i6x,.int .i64 i7x,.int .i64 i8x,.int .i64 i9x,.int .i64 i10x,.slice p11x k11x c11x] 30)) (.cells #[.string n.name,.bool false,.slice ta tk tc,.slice none 0 0,.slice none 0 0,.slice none 0 0] 44)
   rw [hW1];simpa using h
  have hz1:w1.heap.size+1 < W1.heap.size:=by rw [hW1];simp
  have hlt1:w.heap.size < w1.heap.size:=Nat.lt_of_lt_of_le hs0 hb1.size
  have hga:W1.heap[w.heap.size]?=some (.cells #[.string t0a,.string t1a,.slice p2a k2a c2a,.slice p3a k3a c3a,.slice p4a k4a c4a,.slice p5a k5a c5a,.int .i64 i6a,.int .i64 i7a,.int .i64 i8a,.int .i64 i9a,.int .i64 i10a,.slice p11a k11a c11a] 30 (0,0)):=(hx1.block _ hlt1).trans hg1
  have HB1:Hid (Below w.heap.size w W1):=hbw1.trans (hx1.mono hbw1.size)
  have HB11:Hid (Below w1.heap.size w1 W1):=hx1
  have HGX:Hid (W1.heap[w1.heap.size]?=some (.cells #[.string t0x,.string t1x,.slice p2x k2x c2x,.slice p3x k3x c3x,.slice p4x k4x c4x,.slice p5x k5x c5x,.int .i64 i6x,.int .i64 i7x,.int .i64 i8x,.int .i64 i9x,.int .i64 i10x,.slice p11x k11x c11x] 30 (0,0))):=hgx
  have HGP:Hid (W1.heap[w1.heap.size+1]?=some (.cells #[.string n.name,.bool false,.slice ta tk tc,.slice none 0 0,.slice none 0 0,.slice none 0 0] 44 (0,0))):=hgp
  have HGA:Hid (W1.heap[w.heap.size]?=some (.cells #[.string t0a,.string t1a,.slice p2a k2a c2a,.slice p3a k3a c3a,.slice p4a k4a c4a,.slice p5a k5a c5a,.int .i64 i6a,.int .i64 i7a,.int .i64 i8a,.int .i64 i9a,.int .i64 i10a,.slice p11a k11a c11a] 30 (0,0))):=hga
  clear a0 a1 a2 a3 a4 a5 a6 a7 a8 a9 a10 a11 hb1 hh hg1 hx1 hgx hgp hbw1
  have a0:W1.cell? ⟨w.heap.size,0,none⟩=some (.string t0a):=cellsAt hga 0
  have a1:W1.cell? ⟨w.heap.size,1,none⟩=some (.string t1a):=cellsAt hga 1
  have a2:W1.cell? ⟨w.heap.size,2,none⟩=some (.slice p2a k2a c2a):=cellsAt hga 2
  have a3:W1.cell? ⟨w.heap.size,3,none⟩=some (.slice p3a k3a c3a):=cellsAt hga 3
  have a4:W1.cell? ⟨w.heap.size,4,none⟩=some (.slice p4a k4a c4a):=cellsAt hga 4
  have a5:W1.cell? ⟨w.heap.size,5,none⟩=some (.slice p5a k5a c5a):=cellsAt hga 5
  have a6:W1.cell? ⟨w.heap.size,6,none⟩=some (.int .i64 i6a):=cellsAt hga 6
  have a7:W1.cell? ⟨w.heap.size,7,none⟩=some (.int .i64 i7a):=cellsAt hga 7
  have a8:W1.cell? ⟨w.heap.size,8,none⟩=some (.int .i64 i8a):=cellsAt hga 8
  have a9:W1.cell? ⟨w.heap.size,9,none⟩=some (.int .i64 i9a):=cellsAt hga 9
  have a10:W1.cell? ⟨w.heap.size,10,none⟩=some (.int .i64 i10a):=cellsAt hga 10
  have a11:W1.cell? ⟨w.heap.size,11,none⟩=some (.slice p11a k11a c11a):=cellsAt hga 11
  clear hga
  go_upto_region 2 with fail
  rw [← hW1]
  clear hW1
  go_wp2_with fail
  refine (HWH.out W1 HB1.out).mono ?_
  intro e w2 hh
  obtain ⟨A1,rfl,hPQ,hb2⟩:=hh.ok rfl HOK.out
  obtain ⟨t0q,b1q,p2q,k2q,c2q,p3q,k3q,c3q,p4q,k4q,c4q,p5q,k5q,c5q,rfl⟩:=hPQ.is.letters
  simp only [pkV] at hPQ ⊢
  have HQ2:Hid (IsPk w2 n.pk #[.string t0q,.bool b1q,.slice p2q k2q c2q,.slice p3q k3q c3q,.slice p4q k4q c4q,.slice p5q k5q c5q]):=hPQ.is
  clear hPQ
  obtain ⟨W2,hW2⟩:∃ W2,W2=w2.alloc (.cells #[.string t0q,.bool b1q,.slice p2q k2q c2q,.slice p3q k3q c3q,.slice p4q k4q c4q,.slice p5q k5q c5q] 44):=⟨_,rfl⟩
  have hx2:Below w2.heap.size w2 W2:=by rw [hW2];exact (Below.refl _ _).alloc (Nat.le_refl _) _
  have hgq:W2.heap[w2.heap.size]?=some (.cells #[.string t0q,.bool b1q,.slice p2q k2q c2q,.slice p3q k3q c3q,.slice p4q k4q c4q,.slice p5q k5q c5q] 44 (0,0)):=by rw [hW2];exact heap_alloc_new w2 _
  have hz2:w2.heap.size < W2.heap.size:=by rw [hW2];simp
  have hy2:W1.heap.size≤w2.heap.size:=hb2.size
  have hb12:Below W1.heap.size W1 W2:=hb2.trans (hx2.mono hb2.size)
  have hga:W2.heap[w.heap.size]?=some (.cells #[.string t0a,.string t1a,.slice p2a k2a c2a,.slice p3a k3a c3a,.slice p4a k4a c4a,.slice p5a k5a c5a,.int .i64 i6a,.int .i64 i7a,.int .i64 i8a,.int .i64 i9a,.int .i64 i10a,.slice p11a k11a c11a] 30 (0,0)):=(hb12.block _ (by omega)).trans HGA.out
  have HB2:Hid (Below w.heap.size w W2):=HB1.out.trans (hb12.mono HB1.out.size)
  have HB12:Hid (Below W1.heap.size W1 W2):=hb12
  have HB22:Hid (Below w2.heap.size w2 W2):=hx2
  have HGQ:Hid (W2.heap[w2.heap.size]?=some (.cells #[.string t0q,.bool b1q,.slice p2q k2q c2q,.slice p3q k3q c3q,.slice p4q k4q c4q,.slice p5q k5q c5q] 44 (0,0))):=hgq
  have HGA2:Hid (W2.heap[w.heap.size]?=some (.cells #[.string t0a,.string t1a,.slice p2a k2a c2a,.slice p3a k3a c3a,.slice p4a k4a c4a,.slice p5a k5a c5a,.int .i64 i6a,.int .i64 i7a,.int .i64 i8a,.int .i64 i9a,.int .i64 i10a,.slice p11a k11a c11a] 30 (0,0))):=hga
  clear a0 a1 a2 a3 a4 a5 a6 a7 a8 a9 a10 a11 hb2 hh hx2 hgq hb12
  have a0:W2.cell? ⟨w.heap.size,0,none⟩=some (.string t0a):=cellsAt hga 0
  have a1:W2.cell? ⟨w.heap.size,1,none⟩=some (.string t1a):=cellsAt hga 1
  have a2:W2.cell? ⟨w.heap.size,2,none⟩=some (.slice p2a k2a c2a):=cellsAt hga 2
  have a3:W2.cell? ⟨w.heap.size,3,none⟩=some (.slice p3a k3a c3a):=cellsAt hga 3
  have a4:W2.cell? ⟨w.heap.size,4,none⟩=some (.slice p4a k4a c4a):=cellsAt hga 4
  have a5:W2.cell? ⟨w.heap.size,5,none⟩=some (.slice p5a k5a c5a):=cellsAt hga 5
  have a6:W2.cell? ⟨w.heap.size,6,none⟩=some (.int .i64 i6a):=cellsAt hga 6
  have a7:W2.cell? ⟨w.heap.size,7,none⟩=some (.int .i64 i7a):=cellsAt hga 7
  have a8:W2.cell? ⟨w.heap.size,8,none⟩=some (.int .i64 i8a):=cellsAt hga 8
  have a9:W2.cell? ⟨w.heap.size,9,none⟩=some (.int .i64 i9a):=cellsAt hga 9
  have a10:W2.cell? ⟨w.heap.size,10,none⟩=some (.int .i64 i10a):=cellsAt hga 10
  have a11:W2.cell? ⟨w.heap.size,11,none⟩=some (.slice p11a k11a c11a):=cellsAt hga 11
  clear hga
  go_upto_region 3 with fail
  rw [← hW2]
  clear hW2
  go_wp2_with fail
  refine (HCK.out W2 HB2.out).mono ?_
  rintro e w3 ⟨rfl,hb3⟩
  obtain ⟨W3,hW3⟩:∃ W3,W3=((w3.alloc (.cells #[.string ⟨#[]⟩,.string ⟨#[]⟩,.slice none 0 0,.slice none 0 0,.slice none 0 0,.slice none 0 0,.int .i64 0,.int .i64 0,.int .i64 0,.int .i64 0,.int .i64 0,.slice none 0 0] 30)).alloc (.cells #[.string ⟨#[]⟩,.bool false,.slice none 0 0,.slice none 0 0,.slice none 0 0,.slice none 0 0] 44)).alloc (.cells #[.string ⟨#[]⟩,.bool false,.slice none 0 0,.slice none 0 0,.slice none 0 0,.slice none 0 0] 44):=⟨_,rfl⟩
  have hx3:Below w3.heap.size w3 W3:=by rw [hW3];exact (((Below.refl _ _).alloc (Nat.le_refl _) _).alloc (by simp) _).alloc (by simp<;>omega) _
  have hgw:W3.heap[w3.heap.size]?=some (.cells #[.string ⟨#[]⟩,.string ⟨#[]⟩,.slice none 0 0,.slice none 0 0,.slice none 0 0,.slice none 0 0,.int .i64 0,.int .i64 0,.int .i64 0,.int .i64 0,.int .i64 0,.slice none 0 0] 30 (0,0)):=by rw [hW3,Below.heap_alloc _ _ _ (by simp<;>omega),Below.heap_alloc _ _ _ (by simp)];exact heap_alloc_new w3 _
  have hgt:W3.heap[w3.heap.size+1]?=some (.cells #[.string ⟨#[]⟩,.bool false,.slice none 0 0,.slice none 0 0,.slice none 0 0,.slice none 0 0] 44 (0,0)):=by
   have h:=heap_alloc_new (w3.alloc (.cells #[.string ⟨#[]⟩,.string ⟨#[]⟩,.slice none 0 0,.slice none 0 0,.slice none 0 0,.slice none 0 0,.int .i64 0,.int .i64 0,.int .i64 0,.int .i64 0,.int .i64 0,.slice none 0 0] 30)) (.cells #[.string ⟨#[]⟩,.bool false,.slice none 0 0,.slice none 0 0,.slice none 0 0,.slice none 0 0] 44)
   rw [hW3,Below.heap_alloc _ _ _ (by simp)];simpa using h
  have hgh:W3.heap[w3.heap.size+1+1]?=some (.cells #[.string ⟨#[]⟩,.bool false,.slice none 0 0,.slice none 0 0,.slice none 0 0,.slice none 0 0] 44 (0,0)):=by
   have h:=heap_alloc_new ((w3.alloc (.cells #[.string ⟨#[]⟩,.string ⟨#[]⟩,.slice none 0 0,.slice none 0 0,.slice none 0 0,.slice none 0 0,.int .i64 0,.int .i64 0,.int .i64 0,.int .i64 0,.int .i64 0,.slice none 0 0] 30)).alloc (.cells #[.string ⟨#[]⟩,.bool false,.slice none 0 0,.slice none 0 0,.slice none 0 0,.slice none 0 0] 44)) (.cells #[.string ⟨#[]⟩,.bool false,.slice none 0 0,.slice none 0 0,.slice none 0 0,.slice none 0 0] 44)
   rw [hW3];simpa using h
  have hs3:W3.heap.size=w3.heap.size+3:=by rw [hW3];simp
  have hy3:W2.heap.size≤w3.heap.size:=hb3.size
  have hb23:Below W2.heap.size W2 W3:=hb3.trans (hx3.mono hb3.size)
  have HB3:Hid (Below w.heap.size w W3):=HB2.out.trans (hb23.mono HB2.out.size)
  have HB23:Hid (Below W2.heap.size W2 W3):=hb23
  have HGW:Hid (W3.heap[w3.heap.size]?=some (.cells #[.string ⟨#[]⟩,.string ⟨#[]⟩,.slice none 0 0,.slice none 0 0,.slice none 0 0,.slice none 0 0,.int .i64 0,.int .i64 0,.int .i64 0,.int .i64 0,.int .i64 0,.slice none 0 0] 30 (0,0))):=hgw
  have HGT:Hid (W3.heap[w3.heap.size+1]?=some (.cells #[.string ⟨#[]⟩,.bool false,.slice none 0 0,.slice none 0 0,.slice none 0 0,.slice none 0 0] 44 (0,0))):=hgt
  have HGH:Hid (W3.heap[w3.heap.size+1+1]?=some (.cells #[.string ⟨#[]⟩,.bool false,.slice none 0 0,.slice none 0 0,.slice none 0 0,.slice none 0 0] 44 (0,0))):=hgh
  have hga:W3.heap[w.heap.size]?=some (.cells #[.string t0a,.string t1a,.slice p2a k2a c2a,.slice p3a k3a c3a,.slice p4a k4a c4a,.slice p5a k5a c5a,.int .i64 i6a,.int .i64 i7a,.int .i64 i8a,.int .i64 i9a,.int .i64 i10a,.slice p11a k11a c11a] 30 (0,0)):=(hb23.block _ (by omega)).trans HGA2.out
  have HGA3:Hid (W3.heap[w.heap.size]?=some (.cells #[.string t0a,.string t1a,.slice p2a k2a c2a,.slice p3a k3a c3a,.slice p4a k4a c4a,.slice p5a k5a c5a,.int .i64 i6a,.int .i64 i7a,.int .i64 i8a,.int .i64 i9a,.int .i64 i10a,.slice p11a k11a c11a] 30 (0,0))):=hga
  clear a0 a1 a2 a3 a4 a5 a6 a7 a8 a9 a10 a11 hb3 hx3 hgw hgt hgh hb23
  have a0:W3.cell? ⟨w.heap.size,0,none⟩=some (.string t0a):=cellsAt hga 0
  have a1:W3.cell? ⟨w.heap.size,1,none⟩=some (.string t1a):=cellsAt hga 1
  have a2:W3.cell? ⟨w.heap.size,2,none⟩=some (.slice p2a k2a c2a):=cellsAt hga 2
  have a3:W3.cell? ⟨w.heap.size,3,none⟩=some (.slice p3a k3a c3a):=cellsAt hga 3
  have a4:W3.cell? ⟨w.heap.size,4,none⟩=some (.slice p4a k4a c4a):=cellsAt hga 4
  have a5:W3.cell? ⟨w.heap.size,5,none⟩=some (.slice p5a k5a c5a):=cellsAt hga 5
  have a6:W3.cell? ⟨w.heap.size,6,none⟩=some (.int .i64 i6a):=cellsAt hga 6
  have a7:W3.cell? ⟨w.heap.size,7,none⟩=some (.int .i64 i7a):=cellsAt hga 7
  have a8:W3.cell? ⟨w.heap.size,8,none⟩=some (.int .i64 i8a):=cellsAt hga 8
  have a9:W3.cell? ⟨w.heap.size,9,none⟩=some (.int .i64 i9a):=cellsAt hga 9
  have a10:W3.cell? ⟨w.heap.size,10,none⟩=some (.int .i64 i10a):=cellsAt hga 10
  have a11:W3.cell? ⟨w.heap.size,11,none⟩=some (.slice p11a k11a c11a):=cellsAt hga 11
  clear hga
  have HS3:Hid (W3.heap.size=w3.heap.size+3):=hs3
  clear hs3
  go_upto_region 6 with fail
  rw [← hW3]
  clear hW3
  go_wp2_with fail
  refine (HTO.out W3 l rest HTI.out HB3.out).mono ?_
  rintro e w4 ⟨C4,P4,rfl,hK4,hb4⟩
  have hs3:=HS3.out
  obtain ⟨t0c,t1c,p2c,k2c,c2c,p3c,k3c,c3c,p4c,k4c,c4c,p5c,k5c,c5c,i6c,i7c,i8c,i9c,i10c,p11c,k11c,c11c,rfl⟩:=(hK4 w4 (Sh.refl _ _)).1.letters
  obtain ⟨t0t,b1t,p2t,k2t,c2t,p3t,k3t,c3t,p4t,k4t,c4t,p5t,k5t,c5t,rfl⟩:=(hK4 w4 (Sh.refl _ _)).2.letters
  simp only [ndV,pkV] at hK4 ⊢
  have HK4:Hid (∀ W,Sh (fun k=>w.heap.size≤k∧k < W3.heap.size) w4 W→IsNd W { n with rs:=rest } #[.string t0c,.string t1c,.slice p2c k2c c2c,.slice p3c k3c c3c,.slice p4c k4c c4c,.slice p5c k5c c5c,.int .i64 i6c,.int .i64 i7c,.int .i64 i8c,.int .i64 i9c,.int .i64 i10c,.slice p11c k11c c11c]∧IsPk W ⟨n.name,false,l,[],[],[]⟩ #[.string t0t,.bool b1t,.slice p2t k2t c2t,.slice p3t k3t c3t,.slice p4t k4t c4t,.slice p5t k5t c5t]):=hK4
  have hgw:w4.heap[w3.heap.size]?=some (.cells #[.string ⟨#[]⟩,.string ⟨#[]⟩,.slice none 0 0,.slice none 0 0,.slice none 0 0,.slice none 0 0,.int .i64 0,.int .i64 0,.int .i64 0,.int .i64 0,.int .i64 0,.slice none 0 0] 30 (0,0)):=(hb4.block _ (by omega)).trans HGW.out
  have hgt:w4.heap[w3.heap.size+1]?=some (.cells #[.string ⟨#[]⟩,.bool false,.slice none 0 0,.slice none 0 0,.slice none 0 0,.slice none 0 0] 44 (0,0)):=(hb4.block _ (by omega)).trans HGT.out
  have hgh:w4.heap[w3.heap.size+1+1]?=some (.cells #[.string ⟨#[]⟩,.bool false,.slice none 0 0,.slice none 0 0,.slice none 0 0,.slice none 0 0] 44 (0,0)):=(hb4.block _ (by omega)).trans HGH.out
  have hga:w4.heap[w.heap.size]?=some (.cells #[.string t0a,.string t1a,.slice p2a k2a c2a,.slice p3a k3a c3a,.slice p4a k4a c4a,.slice p5a k5a c5a,.int .i64 i6a,.int .i64 i7a,.int .i64 i8a,.int .i64 i9a,.int .i64 i10a,.slice p11a k11a c11a] 30 (0,0)):=(hb4.block _ (by omega)).trans HGA3.out
  clear a0 a1 a2 a3 a4 a5 a6 a7 a8 a9 a10 a11
  have b0:w4.cell? ⟨w3.heap.size,0,none⟩=some (.string ⟨#[]⟩):=cellsAt hgw 0
  have bz0:w4.frozen? ⟨w3.heap.size,0,none⟩=false:=frozen_of hgw 0
  have b1:w4.cell? ⟨w3.heap.size,1,none⟩=some (.string ⟨#[]⟩):=cellsAt hgw 1
  have bz1:w4.frozen? ⟨w3.heap.size,1,none⟩=false:=frozen_of hgw 1
  have b2:w4.cell? ⟨w3.heap.size,2,none⟩=some (.slice none 0 0):=cellsAt hgw 2
  have bz2:w4.frozen? ⟨w3.heap.size,2,none⟩=false:=frozen_of hgw 2
  have b3:w4.cell? ⟨w3.heap.size,3,none⟩=some (.slice none 0 0):=cellsAt hgw 3
  have bz3:w4.frozen? ⟨w3.heap.size,3,none⟩=false:=frozen_of hgw 3
  have b4:w4.cell? ⟨w3.heap.size,4,none⟩=some (.slice none 0 0):=cellsAt hgw 4
  have bz4:w4.frozen? ⟨w3.heap.size,4,none⟩=false:=frozen_of hgw 4
  have b5:w4.cell? ⟨w3.heap.size,5,none⟩=some (.slice none 0 0):=cellsAt hgw 5
  have bz5:w4.frozen? ⟨w3.heap.size,5,none⟩=false:=frozen_of hgw 5
  have b6:w4.cell? ⟨w3.heap.size,6,none⟩=some (.int .i64 0):=cellsAt hgw 6
  have bz6:w4.frozen? ⟨w3.heap.size,6,none⟩=false:=frozen_of hgw 6
  have b7:w4.cell? ⟨w3.heap.size,7,none⟩=some (.int .i64 0):=cellsAt hgw 7
  have bz7:w4.frozen? ⟨w3.heap.size,7,none⟩=false:=frozen_of hgw 7
  have b8:w4.cell? ⟨w3.heap.size,8,none⟩=some (.int .i64 0):=cellsAt hgw 8
  have bz8:w4.frozen? ⟨w3.heap.size,8,none⟩=false:=frozen_of hgw 8
  have b9:w4.cell? ⟨w3.heap.size,9,none⟩=some (.int .i64 0):=cellsAt hgw 9
  have bz9:w4.frozen? ⟨w3.heap.size,9,none⟩=false:=frozen_of hgw 9
  have b10:w4.cell? ⟨w3.heap.size,10,none⟩=some (.int .i64 0):=cellsAt hgw 10
  have bz10:w4.frozen? ⟨w3.heap.size,10,none⟩=false:=frozen_of hgw 10
  have b11:w4.cell? ⟨w3.heap.size,11,none⟩=some (.slice none 0 0):=cellsAt hgw 11
  have bz11:w4.frozen? ⟨w3.heap.size,11,none⟩=false:=frozen_of hgw 11
  have d0:w4.cell? ⟨w3.heap.size+1,0,none⟩=some (.string ⟨#[]⟩):=cellsAt hgt 0
  have dz0:w4.frozen? ⟨w3.heap.size+1,0,none⟩=false:=frozen_of hgt 0
  have d1:w4.cell? ⟨w3.heap.size+1,1,none⟩=some (.bool false):=cellsAt hgt 1
  have dz1:w4.frozen? ⟨w3.heap.size+1,1,none⟩=false:=frozen_of hgt 1
  have d2:w4.cell? ⟨w3.heap.size+1,2,none⟩=some (.slice none 0 0):=cellsAt hgt 2
  have dz2:w4.frozen? ⟨w3.heap.size+1,2,none⟩=false:=frozen_of hgt 2
  have d3:w4.cell? ⟨w3.heap.size+1,3,none⟩=some (.slice none 0 0):=cellsAt hgt 3
  have dz3:w4.frozen? ⟨w3.heap.size+1,3,none⟩=false:=frozen_of hgt 3
  have d4:w4.cell? ⟨w3.heap.size+1,4,none⟩=some (.slice none 0 0):=cellsAt hgt 4
  have dz4:w4.frozen? ⟨w3.heap.size+1,4,none⟩=false:=frozen_of hgt 4
  have d5:w4.cell? ⟨w3.heap.size+1,5,none⟩=some (.slice none 0 0):=cellsAt hgt 5
  have dz5:w4.frozen? ⟨w3.heap.size+1,5,none⟩=false:=frozen_of hgt 5
  obtain ⟨W4,hW4⟩:∃ W4,W4=((((((((((((((((((w4.setCell ⟨w3.heap.size,0,none⟩ (.string t0c)).setCell ⟨w3.heap.size,1,none⟩ (.string t1c)).setCell ⟨w3.heap.size,2,none⟩ (.slice p2c k2c c2c)).setCell ⟨w3.heap.size,3,none⟩ (.slice p3c k3c c3c)).setCell ⟨w3.heap.size,4,none⟩ (.slice p4c k4c c4c)).setCell ⟨w3.heap.size,5,none⟩ (.slice p5c k5c c5c)).setCell ⟨w3.heap.size,6,none⟩ (.int .i64 i6c)).setCell ⟨w3.heap.size,7,none⟩ (.int .i64 i7c)).setCell ⟨w3.heap.size,8,none⟩ (.int .i64 i8c)).setCell ⟨w3.heap.size,9,none⟩ (.int .i64 i9c)).setCell ⟨w3.heap.size,10,none⟩ (.int .i64 i10c)).setCell ⟨w3.heap.size,11,none⟩ (.slice p11c k11c c11c)).setCell ⟨w3.heap.size+1,0,none⟩ (.string t0t)).setCell ⟨w3.heap.size+1,1,none⟩ (.bool b1t)).setCell ⟨w3.heap.size+1,2,none⟩ (.slice p2t k2t c2t)).setCell ⟨w3.heap.size+1,3,none⟩ (.slice p3t k3t c3t)).setCell ⟨w3.heap.size+1,4,none⟩ (.slice p4t k4t c4t)).setCell ⟨w3.heap.size+1,5,none⟩ (.slice p5t k5t c5t)):=⟨_,rfl⟩
  have hF4:W4=setAll (w3.heap.size+1) [.string t0t,.bool b1t,.slice p2t k2t c2t,.slice p3t k3t c3t,.slice p4t k4t c4t,.slice p5t k5t c5t] 0 (setAll w3.heap.size [.string t0c,.string t1c,.slice p2c k2c c2c,.slice p3c k3c c3c,.slice p4c k4c c4c,.slice p5c k5c c5c,.int .i64 i6c,.int .i64 i7c,.int .i64 i8c,.int .i64 i9c,.int .i64 i10c,.slice p11c k11c c11c] 0 w4):=by rw [hW4];simp only [setAll,Nat.zero_add,Nat.reduceAdd]
  have hgw4:W4.heap[w3.heap.size]?=some (.cells #[.string t0c,.string t1c,.slice p2c k2c c2c,.slice p3c k3c c3c,.slice p4c k4c c4c,.slice p5c k5c c5c,.int .i64 i6c,.int .i64 i7c,.int .i64 i8c,.int .i64 i9c,.int .i64 i10c,.slice p11c k11c c11c] 30 (0,0)):=by rw [hF4,setAll_other (by omega)];exact setAll12 hgw _ _ _ _ _ _ _ _ _ _ _ _
  have hgt4:W4.heap[w3.heap.size+1]?=some (.cells #[.string t0t,.bool b1t,.slice p2t k2t c2t,.slice p3t k3t c3t,.slice p4t k4t c4t,.slice p5t k5t c5t] 44 (0,0)):=by rw [hF4];exact setAll6 ((setAll_other (by omega) _ _ _).trans hgt) _ _ _ _ _ _
  have hgh4:W4.heap[w3.heap.size+1+1]?=some (.cells #[.string ⟨#[]⟩,.bool false,.slice none 0 0,.slice none 0 0,.slice none 0 0,.slice none 0 0] 44 (0,0)):=by rw [hF4,setAll_other (by omega),setAll_other (by omega)];exact hgh
  have hga4:W4.heap[w.heap.size]?=some (.cells #[.string t0a,.string t1a,.slice p2a k2a c2a,.slice p3a k3a c3a,.slice p4a k4a c4a,.slice p5a k5a c5a,.int .i64 i6a,.int .i64 i7a,.int .i64 i8a,.int .i64 i9a,.int .i64 i10a,.slice p11a k11a c11a] 30 (0,0)):=by rw [hF4,setAll_other (by omega),setAll_other (by omega)];exact hga
  have hsz4:W4.heap.size=w4.heap.size:=by rw [hF4,setAll_size,setAll_size]
  have HSH4:Hid (Sh (fun k=>w.heap.size≤k∧k < W3.heap.size) w4 W4):=by rw [hF4];exact setAll_sh (by omega) _ _ (setAll_sh (by omega) _ _ (Sh.refl _ _))
  have HB34:Hid (Below w3.heap.size W3 W4):=by rw [hF4];exact setAll_below (by omega) _ _ (setAll_below (by omega) _ _ (hb4.mono (by omega)))
  have HB4:Hid (Below w.heap.size w W4):=HB3.out.trans (HB34.out.mono (by omega))
  have hy4:W3.heap.size≤w4.heap.size:=hb4.size
  have HGW4:Hid (W4.heap[w3.heap.size]?=some (.cells #[.string t0c,.string t1c,.slice p2c k2c c2c,.slice p3c k3c c3c,.slice p4c k4c c4c,.slice p5c k5c c5c,.int .i64 i6c,.int .i64 i7c,.int .i64 i8c,.int .i64 i9c,.int .i64 i10c,.slice p11c k11c c11c] 30 (0,0))):=hgw4
  have HGT4:Hid (W4.heap[w3.heap.size+1]?=some (.cells #[.string t0t,.bool b1t,.slice p2t k2t c2t,.slice p3t k3t c3t,.slice p4t k4t c4t,.slice p5t k5t c5t] 44 (0,0))):=hgt4
  have HGH4:Hid (W4.heap[w3.heap.size+1+1]?=some (.cells #[.string ⟨#[]⟩,.bool false,.slice none 0 0,.slice none 0 0,.slice none 0 0,.slice none 0 0] 44 (0,0))):=hgh4
  have a0:W4.cell? ⟨w.heap.size,0,none⟩=some (.string t0a):=cellsAt hga4 0
  have a1:W4.cell? ⟨w.heap.size,1,none⟩=some (.string t1a):=cellsAt hga4 1
  have a2:W4.cell? ⟨w.heap.size,2,none⟩=some (.slice p2a k2a c2a):=cellsAt hga4 2
  have a3:W4.cell? ⟨w.heap.size,3,none⟩=some (.slice p3a k3a c3a):=cellsAt hga4 3
  have a4:W4.cell? ⟨w.heap.size,4,none⟩=some (.slice p4a k4a c4a):=cellsAt hga4 4
  have a5:W4.cell? ⟨w.heap.size,5,none⟩=some (.slice p5a k5a c5a):=cellsAt hga4 5
  have a6:W4.cell? ⟨w.heap.size,6,none⟩=some (.int .i64 i6a):=cellsAt hga4 6
  have a7:W4.cell? ⟨w.heap.size,7,none⟩=some (.int .i64 i7a):=cellsAt hga4 7
  have a8:W4.cell? ⟨w.heap.size,8,none⟩=some (.int .i64 i8a):=cellsAt hga4 8
  have a9:W4.cell? ⟨w.heap.size,9,none⟩=some (.int .i64 i9a):=cellsAt hga4 9
  have a10:W4.cell? ⟨w.heap.size,10,none⟩=some (.int .i64 i10a):=cellsAt hga4 10
  have a11:W4.cell? ⟨w.heap.size,11,none⟩=some (.slice p11a k11a c11a):=cellsAt hga4 11
  clear hF4 hgw hgt hgh hga hgw4 hgt4 hgh4 hga4 hb4 hK4 hs3
  go_upto_region 7 with fail
  rw [← hW4]
  clear hW4 b0 bz0 b1 bz1 b2 bz2 b3 bz3 b4 bz4 b5 bz5 b6 bz6 b7 bz7 b8 bz8 b9 bz9 b10 bz10 b11 bz11 d0 dz0 d1 dz1 d2 dz2 d3 dz3 d4 dz4 d5 dz5
  go_wp2_with fail
  refine (HWO.out W4).mono ?_
  rintro e w5 ⟨P5,rfl,hQ5,hb5⟩
  have hs3:=HS3.out
  obtain ⟨t0h,b1h,p2h,k2h,c2h,p3h,k3h,c3h,p4h,k4h,c4h,p5h,k5h,c5h,rfl⟩:=hQ5.letters
  simp only [pkV] at hQ5 ⊢
  have HQ5:Hid (IsPk w n.pk #[.string t0h,.bool b1h,.slice p2h k2h c2h,.slice p3h k3h c3h,.slice p4h k4h c4h,.slice p5h k5h c5h]):=hQ5
  have hgh:w5.heap[w3.heap.size+1+1]?=some (.cells #[.string ⟨#[]⟩,.bool false,.slice none 0 0,.slice none 0 0,.slice none 0 0,.slice none 0 0] 44 (0,0)):=(hb5.block _ (by omega)).trans HGH4.out
  clear a0 a1 a2 a3 a4 a5 a6 a7 a8 a9 a10 a11
  have d0:w5.cell? ⟨w3.heap.size+1+1,0,none⟩=some (.string ⟨#[]⟩):=cellsAt hgh 0
  have dz0:w5.frozen? ⟨w3.heap.size+1+1,0,none⟩=false:=frozen_of hgh 0
  have d1:w5.cell? ⟨w3.heap.size+1+1,1,none⟩=some (.bool false):=cellsAt hgh 1
  have dz1:w5.frozen? ⟨w3.heap.size+1+1,1,none⟩=false:=frozen_of hgh 1
  have d2:w5.cell? ⟨w3.heap.size+1+1,2,none⟩=some (.slice none 0 0):=cellsAt hgh 2
  have dz2:w5.frozen? ⟨w3.heap.size+1+1,2,none⟩=false:=frozen_of hgh 2
  have d3:w5.cell? ⟨w3.heap.size+1+1,3,none⟩=some (.slice none 0 0):=cellsAt hgh 3
  have dz3:w5.frozen? ⟨w3.heap.size+1+1,3,none⟩=false:=frozen_of hgh 3
  have d4:w5.cell? ⟨w3.heap.size+1+1,4,none⟩=some (.slice none 0 0):=cellsAt hgh 4
  have dz4:w5.frozen? ⟨w3.heap.size+1+1,4,none⟩=false:=frozen_of hgh 4
  have d5:w5.cell? ⟨w3.heap.size+1+1,5,none⟩=some (.slice none 0 0):=cellsAt hgh 5
  have dz5:w5.frozen? ⟨w3.heap.size+1+1,5,none⟩=false:=frozen_of hgh 5
  obtain ⟨W5,hW5⟩:∃ W5,W5=((((((w5.setCell ⟨w3.heap.size+1+1,0,none⟩ (.string t0h)).setCell ⟨w3.heap.size+1+1,1,none⟩ (.bool b1h)).setCell ⟨w3.heap.size+1+1,2,none⟩ (.slice p2h k2h c2h)).setCell ⟨w3.heap.size+1+1,3,none⟩ (.slice p3h k3h c3h)).setCell ⟨w3.heap.size+1+1,4,none⟩ (.slice p4h k4h c4h)).setCell ⟨w3.heap.size+1+1,5,none⟩ (.slice p5h k5h c5h)):=⟨_,rfl⟩
  have hF5:W5=setAll (w3.heap.size+1+1) [.string t0h,.bool b1h,.slice p2h k2h c2h,.slice p3h k3h c3h,.slice p4h k4h c4h,.slice p5h k5h c5h] 0 w5:=by rw [hW5];simp only [setAll,Nat.zero_add,Nat.reduceAdd]
  have hgh5:W5.heap[w3.heap.size+1+1]?=some (.cells #[.string t0h,.bool b1h,.slice p2h k2h c2h,.slice p3h k3h c3h,.slice p4h k4h c4h,.slice p5h k5h c5h] 44 (0,0)):=by rw [hF5];exact setAll6 hgh _ _ _ _ _ _
  have hgw5:W5.heap[w3.heap.size]?=some (.cells #[.string t0c,.string t1c,.slice p2c k2c c2c,.slice p3c k3c c3c,.slice p4c k4c c4c,.slice p5c k5c c5c,.int .i64 i6c,.int .i64 i7c,.int .i64 i8c,.int .i64 i9c,.int .i64 i10c,.slice p11c k11c c11c] 30 (0,0)):=by rw [hF5,setAll_other (by omega)];exact (hb5.block _ (by omega)).trans HGW4.out
  have hgt5:W5.heap[w3.heap.size+1]?=some (.cells #[.string t0t,.bool b1t,.slice p2t k2t c2t,.slice p3t k3t c3t,.slice p4t k4t c4t,.slice p5t k5t c5t] 44 (0,0)):=by rw [hF5,setAll_other (by omega)];exact (hb5.block _ (by omega)).trans HGT4.out
  have HSH5:Hid (Sh (fun k=>w.heap.size≤k∧k < W3.heap.size) w4 W5):=by rw [hF5];exact setAll_sh (by omega) _ _ (HSH4.out.trans (Sh.of hb5))
  have HB35:Hid (Below w3.heap.size W3 W5):=by rw [hF5];exact setAll_below (by omega) _ _ (HB34.out.trans (hb5.mono (by omega)))
  have hz5:w4.heap.size≤W5.heap.size:=by rw [hF5,setAll_size];have:=hb5.size;omega
  have HGW5:Hid (W5.heap[w3.heap.size]?=some (.cells #[.string t0c,.string t1c,.slice p2c k2c c2c,.slice p3c k3c c3c,.slice p4c k4c c4c,.slice p5c k5c c5c,.int .i64 i6c,.int .i64 i7c,.int .i64 i8c,.int .i64 i9c,.int .i64 i10c,.slice p11c k11c c11c] 30 (0,0))):=hgw5
  have HGT5:Hid (W5.heap[w3.heap.size+1]?=some (.cells #[.string t0t,.bool b1t,.slice p2t k2t c2t,.slice p3t k3t c3t,.slice p4t k4t c4t,.slice p5t k5t c5t] 44 (0,0))):=hgt5
  have HGH5:Hid (W5.heap[w3.heap.size+1+1]?=some (.cells #[.string t0h,.bool b1h,.slice p2h k2h c2h,.slice p3h k3h c3h,.slice p4h k4h c4h,.slice p5h k5h c5h] 44 (0,0))):=hgh5
  clear hF5 hgh hgh5 hgw5 hgt5 hb5 hQ5 hs3
  go_upto_region 8 with fail
  rw [← hW5]
  clear hW5 d0 dz0 d1 dz1 d2 dz2 d3 dz3 d4 dz4 d5 dz5
  have hs3:=HS3.out
  have HGE:Hid (∀ W,Below W5.heap.size W5 W→W.heap[w1.heap.size]?=some (.cells #[.string t0x,.string t1x,.slice p2x k2x c2x,.slice p3x k3x c3x,.slice p4x k4x c4x,.slice p5x k5x c5x,.int .i64 i6x,.int .i64 i7x,.int .i64 i8x,.int .i64 i9x,.int .i64 i10x,.slice p11x k11x c11x] 30 (0,0))∧W.heap[w1.heap.size+1]?=some (.cells #[.string n.name,.bool false,.slice ta tk tc,.slice none 0 0,.slice none 0 0,.slice none 0 0] 44 (0,0))∧W.heap[w2.heap.size]?=some (.cells #[.string t0q,.bool b1q,.slice p2q k2q c2q,.slice p3q k3q c3q,.slice p4q k4q c4q,.slice p5q k5q c5q] 44 (0,0))∧W.heap[w3.heap.size]?=some (.cells #[.string t0c,.string t1c,.slice p2c k2c c2c,.slice p3c k3c c3c,.slice p4c k4c c4c,.slice p5c k5c c5c,.int .i64 i6c,.int .i64 i7c,.int .i64 i8c,.int .i64 i9c,.int .i64 i10c,.slice p11c k11c c11c] 30 (0,0))∧W.heap[w3.heap.size+1]?=some (.cells #[.string t0t,.bool b1t,.slice p2t k2t c2t,.slice p3t k3t c3t,.slice p4t k4t c4t,.slice p5t k5t c5t] 44 (0,0))∧W.heap[w3.heap.size+1+1]?=some (.cells #[.string t0h,.bool b1h,.slice p2h k2h c2h,.slice p3h k3h c3h,.slice p4h k4h c4h,.slice p5h k5h c5h] 44 (0,0))∧Below w.heap.size w W):=fun W hW=>by
   have h35:Below w3.heap.size W3 W:=HB35.out.trans (hW.mono (by omega))
   exact ⟨(h35.block _ (by omega)).trans ((HB23.out.block _ (by omega)).trans ((HB12.out.block _ (by omega)).trans HGX.out)),(h35.block _ (by omega)).trans ((HB23.out.block _ (by omega)).trans ((HB12.out.block _ (by omega)).trans HGP.out)),(h35.block _ (by omega)).trans ((HB23.out.block _ (by omega)).trans HGQ.out),(hW.block _ (by omega)).trans HGW5.out,(hW.block _ (by omega)).trans HGT5.out,(hW.block _ (by omega)).trans HGH5.out,HB3.out.trans (h35.mono (by omega))⟩
  have HBK:Hid (∀ W,Below W5.heap.size W5 W→Below w1.heap.size w1 W∧Below w2.heap.size w2 W):=fun W hW=>by
   have h35:Below w3.heap.size W3 W:=HB35.out.trans (hW.mono (by omega))
   have h2:Below W2.heap.size W2 W:=HB23.out.trans (h35.mono (by omega))
   exact ⟨HB11.out.trans ((HB12.out.trans (h2.mono (by omega))).mono (by omega)),HB22.out.trans (h2.mono (by omega))⟩
  have HNI:Hid (∀ W,Below W5.heap.size W5 W→Calls Tryz.prog 16 #[.agg #[.string t0x,.string t1x,.slice p2x k2x c2x,.slice p3x k3x c3x,.slice p4x k4x c4x,.slice p5x k5x c5x,.int .i64 i6x,.int .i64 i7x,.int .i64 i8x,.int .i64 i9x,.int .i64 i10x,.slice p11x k11x c11x],.int .i64 0,.int .i64 0,.agg #[.string t0c,.string t1c,.slice p2c k2c c2c,.slice p3c k3c c3c,.slice p4c k4c c4c,.slice p5c k5c c5c,.int .i64 i6c,.int .i64 i7c,.int .i64 i8c,.int .i64 i9c,.int .i64 i10c,.slice p11c k11c c11c]] W fun e w'=>e=.returned (.bool true)∧Below W.heap.size W w'):=fun W hW=>nodeIs_any 0 { n with rs:=rest } { n with rs:=rest } _ _ W (.inr ⟨rfl,HX1.out.below (HBK.out W hW).1⟩) (HK4.out W (HSH5.out.trans (Sh.of hW))).1 (fun _=>⟨rfl,HSM.out l rest HTI.out⟩)
  have HSP:Hid (∀ W,Below W5.heap.size W5 W→Calls Tryz.prog 23 #[.agg #[.string n.name,.bool false,.slice ta tk tc,.slice none 0 0,.slice none 0 0,.slice none 0 0],.agg #[.string t0t,.bool b1t,.slice p2t k2t c2t,.slice p3t k3t c3t,.slice p4t k4t c4t,.slice p5t k5t c5t]] W fun e w'=>e=.returned (.bool true)∧Below W.heap.size W w'):=fun W hW=>samePacket_any ⟨n.name,false,l,[],[],[]⟩ _ _ W (HP1.out.below (HBK.out W hW).1) (HK4.out W (HSH5.out.trans (Sh.of hW))).2 (HSL.out l rest HTI.out)
  have HSQ:Hid (∀ W,Below W5.heap.size W5 W→Calls Tryz.prog 23 #[.agg #[.string t0q,.bool b1q,.slice p2q k2q c2q,.slice p3q k3q c3q,.slice p4q k4q c4q,.slice p5q k5q c5q],.agg #[.string t0h,.bool b1h,.slice p2h k2h c2h,.slice p3h k3h c3h,.slice p4h k4h c4h,.slice p5h k5h c5h]] W fun e w'=>e=.returned (.bool true)∧Below W.heap.size W w'):=fun W hW=>samePacket_any n.pk _ _ W (HQ2.out.below (HBK.out W hW).2) (HQ5.out.below (HGE.out W hW).2.2.2.2.2.2) HSK.out
  clear hs3
  clear hs0 hz1 hlt1 hz2 hy2 hy3 hy4 hsz4 hz5
  go_wp2_with fail
  refine (nodeBegun_any W5).mono ?_
  rintro e v1 ⟨rfl,hv1⟩
  obtain ⟨g1,g2,g3,g4,g5,g6,_⟩:=HGE.out v1 hv1
  have HV1:Hid (Below W5.heap.size W5 v1):=hv1
  have a0:v1.cell? ⟨w1.heap.size,0,none⟩=some (.string t0x):=cellsAt g1 0
  have a1:v1.cell? ⟨w1.heap.size,1,none⟩=some (.string t1x):=cellsAt g1 1
  have a2:v1.cell? ⟨w1.heap.size,2,none⟩=some (.slice p2x k2x c2x):=cellsAt g1 2
  have a3:v1.cell? ⟨w1.heap.size,3,none⟩=some (.slice p3x k3x c3x):=cellsAt g1 3
  have a4:v1.cell? ⟨w1.heap.size,4,none⟩=some (.slice p4x k4x c4x):=cellsAt g1 4
  have a5:v1.cell? ⟨w1.heap.size,5,none⟩=some (.slice p5x k5x c5x):=cellsAt g1 5
  have a6:v1.cell? ⟨w1.heap.size,6,none⟩=some (.int .i64 i6x):=cellsAt g1 6
  have a7:v1.cell? ⟨w1.heap.size,7,none⟩=some (.int .i64 i7x):=cellsAt g1 7
  have a8:v1.cell? ⟨w1.heap.size,8,none⟩=some (.int .i64 i8x):=cellsAt g1 8
  have a9:v1.cell? ⟨w1.heap.size,9,none⟩=some (.int .i64 i9x):=cellsAt g1 9
  have a10:v1.cell? ⟨w1.heap.size,10,none⟩=some (.int .i64 i10x):=cellsAt g1 10
  have a11:v1.cell? ⟨w1.heap.size,11,none⟩=some (.slice p11x k11x c11x):=cellsAt g1 11
  have b0:v1.cell? ⟨w3.heap.size,0,none⟩=some (.string t0c):=cellsAt g4 0
  have b1:v1.cell? ⟨w3.heap.size,1,none⟩=some (.string t1c):=cellsAt g4 1
  have b2:v1.cell? ⟨w3.heap.size,2,none⟩=some (.slice p2c k2c c2c):=cellsAt g4 2
  have b3:v1.cell? ⟨w3.heap.size,3,none⟩=some (.slice p3c k3c c3c):=cellsAt g4 3
  have b4:v1.cell? ⟨w3.heap.size,4,none⟩=some (.slice p4c k4c c4c):=cellsAt g4 4
  have b5:v1.cell? ⟨w3.heap.size,5,none⟩=some (.slice p5c k5c c5c):=cellsAt g4 5
  have b6:v1.cell? ⟨w3.heap.size,6,none⟩=some (.int .i64 i6c):=cellsAt g4 6
  have b7:v1.cell? ⟨w3.heap.size,7,none⟩=some (.int .i64 i7c):=cellsAt g4 7
  have b8:v1.cell? ⟨w3.heap.size,8,none⟩=some (.int .i64 i8c):=cellsAt g4 8
  have b9:v1.cell? ⟨w3.heap.size,9,none⟩=some (.int .i64 i9c):=cellsAt g4 9
  have b10:v1.cell? ⟨w3.heap.size,10,none⟩=some (.int .i64 i10c):=cellsAt g4 10
  have b11:v1.cell? ⟨w3.heap.size,11,none⟩=some (.slice p11c k11c c11c):=cellsAt g4 11
  clear g1 g2 g3 g4 g5 g6 hv1
  go_wp2_with fail
  refine (HNI.out v1 HV1.out).mono ?_
  rintro e v2 ⟨rfl,hv2⟩
  have HV2:Hid (Below W5.heap.size W5 v2):=HV1.out.trans (hv2.mono HV1.out.size)
  obtain ⟨g1,g2,g3,g4,g5,g6,_⟩:=HGE.out v2 HV2.out
  clear a0 a1 a2 a3 a4 a5 a6 a7 a8 a9 a10 a11 b0 b1 b2 b3 b4 b5 b6 b7 b8 b9 b10 b11
  have a0:v2.cell? ⟨w1.heap.size+1,0,none⟩=some (.string n.name):=cellsAt g2 0
  have a1:v2.cell? ⟨w1.heap.size+1,1,none⟩=some (.bool false):=cellsAt g2 1
  have a2:v2.cell? ⟨w1.heap.size+1,2,none⟩=some (.slice ta tk tc):=cellsAt g2 2
  have a3:v2.cell? ⟨w1.heap.size+1,3,none⟩=some (.slice none 0 0):=cellsAt g2 3
  have a4:v2.cell? ⟨w1.heap.size+1,4,none⟩=some (.slice none 0 0):=cellsAt g2 4
  have a5:v2.cell? ⟨w1.heap.size+1,5,none⟩=some (.slice none 0 0):=cellsAt g2 5
  have b0:v2.cell? ⟨w3.heap.size+1,0,none⟩=some (.string t0t):=cellsAt g5 0
  have b1:v2.cell? ⟨w3.heap.size+1,1,none⟩=some (.bool b1t):=cellsAt g5 1
  have b2:v2.cell? ⟨w3.heap.size+1,2,none⟩=some (.slice p2t k2t c2t):=cellsAt g5 2
  have b3:v2.cell? ⟨w3.heap.size+1,3,none⟩=some (.slice p3t k3t c3t):=cellsAt g5 3
  have b4:v2.cell? ⟨w3.heap.size+1,4,none⟩=some (.slice p4t k4t c4t):=cellsAt g5 4
  have b5:v2.cell? ⟨w3.heap.size+1,5,none⟩=some (.slice p5t k5t c5t):=cellsAt g5 5
  clear g1 g2 g3 g4 g5 g6 hv2
  go_wp2_with fail
  refine (HSP.out v2 HV2.out).mono ?_
  rintro e v3 ⟨rfl,hv3⟩
  have HV3:Hid (Below W5.heap.size W5 v3):=HV2.out.trans (hv3.mono HV2.out.size)
  obtain ⟨g1,g2,g3,g4,g5,g6,_⟩:=HGE.out v3 HV3.out
  clear a0 a1 a2 a3 a4 a5 b0 b1 b2 b3 b4 b5
  have a0:v3.cell? ⟨w2.heap.size,0,none⟩=some (.string t0q):=cellsAt g3 0
  have a1:v3.cell? ⟨w2.heap.size,1,none⟩=some (.bool b1q):=cellsAt g3 1
  have a2:v3.cell? ⟨w2.heap.size,2,none⟩=some (.slice p2q k2q c2q):=cellsAt g3 2
  have a3:v3.cell? ⟨w2.heap.size,3,none⟩=some (.slice p3q k3q c3q):=cellsAt g3 3
  have a4:v3.cell? ⟨w2.heap.size,4,none⟩=some (.slice p4q k4q c4q):=cellsAt g3 4
  have a5:v3.cell? ⟨w2.heap.size,5,none⟩=some (.slice p5q k5q c5q):=cellsAt g3 5
  have b0:v3.cell? ⟨w3.heap.size+1+1,0,none⟩=some (.string t0h):=cellsAt g6 0
  have b1:v3.cell? ⟨w3.heap.size+1+1,1,none⟩=some (.bool b1h):=cellsAt g6 1
  have b2:v3.cell? ⟨w3.heap.size+1+1,2,none⟩=some (.slice p2h k2h c2h):=cellsAt g6 2
  have b3:v3.cell? ⟨w3.heap.size+1+1,3,none⟩=some (.slice p3h k3h c3h):=cellsAt g6 3
  have b4:v3.cell? ⟨w3.heap.size+1+1,4,none⟩=some (.slice p4h k4h c4h):=cellsAt g6 4
  have b5:v3.cell? ⟨w3.heap.size+1+1,5,none⟩=some (.slice p5h k5h c5h):=cellsAt g6 5
  clear g1 g2 g3 g4 g5 g6 hv3
  go_wp2_with fail
  refine (HSQ.out v3 HV3.out).mono ?_
  rintro e v4 ⟨rfl,hv4⟩
  have HV4:Hid (Below W5.heap.size W5 v4):=HV3.out.trans (hv4.mono HV3.out.size)
  clear a0 a1 a2 a3 a4 a5 b0 b1 b2 b3 b4 b5 hv4
  go_wp2_with fail
  go_ret
  exact ⟨rfl,(HGE.out v4 HV4.out).2.2.2.2.2.2⟩
 ·have HNE:Hid (n.e≠0):=hne
  obtain ⟨t0a,t1a,p2a,k2a,c2a,p3a,k3a,c3a,p4a,k4a,c4a,p5a,k5a,c5a,i6a,i7a,i8a,i9a,i10a,p11a,k11a,c11a,rfl⟩:=h.letters
  simp only [ndV] at HTL HWH HCK ⊢
  clear h hne
  generalize n.e=ne at *
  obtain ⟨W0,hW0⟩:∃ W0,W0=w.alloc (.cells #[.string t0a,.string t1a,.slice p2a k2a c2a,.slice p3a k3a c3a,.slice p4a k4a c4a,.slice p5a k5a c5a,.int .i64 i6a,.int .i64 i7a,.int .i64 i8a,.int .i64 i9a,.int .i64 i10a,.slice p11a k11a c11a] 30):=⟨_,rfl⟩
  have hb0:Below w.heap.size w W0:=by rw [hW0];exact (Below.refl _ _).alloc (Nat.le_refl _) _
  have hg0:W0.heap[w.heap.size]?=some (.cells #[.string t0a,.string t1a,.slice p2a k2a c2a,.slice p3a k3a c3a,.slice p4a k4a c4a,.slice p5a k5a c5a,.int .i64 i6a,.int .i64 i7a,.int .i64 i8a,.int .i64 i9a,.int .i64 i10a,.slice p11a k11a c11a] 30 (0,0)):=by rw [hW0];exact heap_alloc_new w _
  have hs0:w.heap.size < W0.heap.size:=by rw [hW0];simp
  have HB0:Hid (Below w.heap.size w W0):=hb0
  have HG0:Hid (W0.heap[w.heap.size]?=some (.cells #[.string t0a,.string t1a,.slice p2a k2a c2a,.slice p3a k3a c3a,.slice p4a k4a c4a,.slice p5a k5a c5a,.int .i64 i6a,.int .i64 i7a,.int .i64 i8a,.int .i64 i9a,.int .i64 i10a,.slice p11a k11a c11a] 30 (0,0))):=hg0
  have a0:W0.cell? ⟨w.heap.size,0,none⟩=some (.string t0a):=cellsAt hg0 0
  have a1:W0.cell? ⟨w.heap.size,1,none⟩=some (.string t1a):=cellsAt hg0 1
  have a2:W0.cell? ⟨w.heap.size,2,none⟩=some (.slice p2a k2a c2a):=cellsAt hg0 2
  have a3:W0.cell? ⟨w.heap.size,3,none⟩=some (.slice p3a k3a c3a):=cellsAt hg0 3
  have a4:W0.cell? ⟨w.heap.size,4,none⟩=some (.slice p4a k4a c4a):=cellsAt hg0 4
  have a5:W0.cell? ⟨w.heap.size,5,none⟩=some (.slice p5a k5a c5a):=cellsAt hg0 5
  have a6:W0.cell? ⟨w.heap.size,6,none⟩=some (.int .i64 i6a):=cellsAt hg0 6
  have a7:W0.cell? ⟨w.heap.size,7,none⟩=some (.int .i64 i7a):=cellsAt hg0 7
  have a8:W0.cell? ⟨w.heap.size,8,none⟩=some (.int .i64 i8a):=cellsAt hg0 8
  have a9:W0.cell? ⟨w.heap.size,9,none⟩=some (.int .i64 i9a):=cellsAt hg0 9
  have a10:W0.cell? ⟨w.heap.size,10,none⟩=some (.int .i64 i10a):=cellsAt hg0 10
  have a11:W0.cell? ⟨w.heap.size,11,none⟩=some (.slice p11a k11a c11a):=cellsAt hg0 11
  clear hb0 hg0
  go_enter Tryz.func5,Tryz.ntmps5
  go_upto_region 1 with fail
  rw [← hW0]
  clear hW0
  go_wp2_with fail
  refine (HTL.out W0 HB0.out).mono ?_
  intro e w1 hh
  obtain ⟨rfl,hb1⟩:=hh.bad HNE.out
  have hg1:w1.heap[w.heap.size]?=some (.cells #[.string t0a,.string t1a,.slice p2a k2a c2a,.slice p3a k3a c3a,.slice p4a k4a c4a,.slice p5a k5a c5a,.int .i64 i6a,.int .i64 i7a,.int .i64 i8a,.int .i64 i9a,.int .i64 i10a,.slice p11a k11a c11a] 30 (0,0)):=(hb1.block _ hs0).trans HG0.out
  have hbw1:Below w.heap.size w w1:=HB0.out.trans (hb1.mono (Nat.le_of_lt hs0))
  obtain ⟨W1,hW1⟩:∃ W1,W1=(w1.alloc (.cells #[.string ⟨#[]⟩,.string ⟨#[]⟩,.slice none 0 0,.slice none 0 0,.slice none 0 0,.slice none 0 0,.int .i64 0,.int .i64 0,.int .i64 0,.int .i64 0,.int .i64 0,.slice none 0 0] 30)).alloc (.cells #[.string ⟨#[]⟩,.bool false,.slice none 0 0,.slice none 0 0,.slice none 0 0,.slice none 0 0] 44):=⟨_,rfl⟩
  have hx1:Below w1.heap.size w1 W1:=by rw [hW1];exact ((Below.refl _ _).alloc (Nat.le_refl _) _).alloc (by simp) _
  have hgx:W1.heap[w1.heap.size]?=some (.cells #[.string ⟨#[]⟩,.string ⟨#[]⟩,.slice none 0 0,.slice none 0 0,.slice none 0 0,.slice none 0 0,.int .i64 0,.int .i64 0,.int .i64 0,.int .i64 0,.int .i64 0,.slice none 0 0] 30 (0,0)):=by rw [hW1,Below.heap_alloc _ _ _ (by simp)];exact heap_alloc_new w1 _
  have hgp:W1.heap[w1.heap.size+1]?=some (.cells #[.string ⟨#[]⟩,.bool false,.slice none 0 0,.slice none 0 0,.slice none 0 0,.slice none 0 0] 44 (0,0)):=by
   have h:=heap_alloc_new (w1.alloc (.cells #[.string ⟨#[]⟩,.string ⟨#[]⟩,.slice none 0 0,.slice none 0 0,.slice none 0 0,.slice none 0 0,.int .i64 0,.int .i64 0,.int .i64 0,.int .i64 0,.int .i64 0,.slice none 0 0] 30)) (.cells #[.string ⟨#[]⟩,.bool false,.slice none 0 0,.slice none 0 0,.slice none 0 0,.slice none 0 0] 44)
   rw [hW1];simpa using h
  have hz1:w1.heap.size+1 < W1.heap.size:=by rw [hW1];simp
  have hlt1:w.heap.size < w1.heap.size:=Nat.lt_of_lt_of_le hs0 hb1.size
  have hga:W1.heap[w.heap.size]?=some (.cells #[.string t0a,.string t1a,.slice p2a k2a c2a,.slice p3a k3a c3a,.slice p4a k4a c4a,.slice p5a k5a c5a,.int .i64 i6a,.int .i64 i7a,.int .i64 i8a,.int .i64 i9a,.int .i64 i10a,.slice p11a k11a c11a] 30 (0,0)):=(hx1.block _ hlt1).trans hg1
  have HB1:Hid (Below w.heap.size w W1):=hbw1.trans (hx1.mono hbw1.size)
  have HB11:Hid (Below w1.heap.size w1 W1):=hx1
  have HGX:Hid (W1.heap[w1.heap.size]?=some (.cells #[.string ⟨#[]⟩,.string ⟨#[]⟩,.slice none 0 0,.slice none 0 0,.slice none 0 0,.slice none 0 0,.int .i64 0,.int .i64 0,.int .i64 0,.int .i64 0,.int .i64 0,.slice none 0 0] 30 (0,0))):=hgx
  have HGP:Hid (W1.heap[w1.heap.size+1]?=some (.cells #[.string ⟨#[]⟩,.bool false,.slice none 0 0,.slice none 0 0,.slice none 0 0,.slice none 0 0] 44 (0,0))):=hgp
  have HGA:Hid (W1.heap[w.heap.size]?=some (.cells #[.string t0a,.string t1a,.slice p2a k2a c2a,.slice p3a k3a c3a,.slice p4a k4a c4a,.slice p5a k5a c5a,.int .i64 i6a,.int .i64 i7a,.int .i64 i8a,.int .i64 i9a,.int .i64 i10a,.slice p11a k11a c11a] 30 (0,0))):=hga
  clear a0 a1 a2 a3 a4 a5 a6 a7 a8 a9 a10 a11 hb1 hh hg1 hx1 hgx hgp hbw1
  have a0:W1.cell? ⟨w.heap.size,0,none⟩=some (.string t0a):=cellsAt hga 0
  have a1:W1.cell? ⟨w.heap.size,1,none⟩=some (.string t1a):=cellsAt hga 1
  have a2:W1.cell? ⟨w.heap.size,2,none⟩=some (.slice p2a k2a c2a):=cellsAt hga 2
  have a3:W1.cell? ⟨w.heap.size,3,none⟩=some (.slice p3a k3a c3a):=cellsAt hga 3
  have a4:W1.cell? ⟨w.heap.size,4,none⟩=some (.slice p4a k4a c4a):=cellsAt hga 4
  have a5:W1.cell? ⟨w.heap.size,5,none⟩=some (.slice p5a k5a c5a):=cellsAt hga 5
  have a6:W1.cell? ⟨w.heap.size,6,none⟩=some (.int .i64 i6a):=cellsAt hga 6
  have a7:W1.cell? ⟨w.heap.size,7,none⟩=some (.int .i64 i7a):=cellsAt hga 7
  have a8:W1.cell? ⟨w.heap.size,8,none⟩=some (.int .i64 i8a):=cellsAt hga 8
  have a9:W1.cell? ⟨w.heap.size,9,none⟩=some (.int .i64 i9a):=cellsAt hga 9
  have a10:W1.cell? ⟨w.heap.size,10,none⟩=some (.int .i64 i10a):=cellsAt hga 10
  have a11:W1.cell? ⟨w.heap.size,11,none⟩=some (.slice p11a k11a c11a):=cellsAt hga 11
  clear hga
  go_upto_region 2 with fail
  rw [← hW1]
  clear hW1
  go_wp2_with fail
  refine (HWH.out W1 HB1.out).mono ?_
  intro e w2 hh
  obtain ⟨rfl,hb2⟩:=hh.bad HNE.out
  obtain ⟨W2,hW2⟩:∃ W2,W2=w2.alloc (.cells #[.string ⟨#[]⟩,.bool false,.slice none 0 0,.slice none 0 0,.slice none 0 0,.slice none 0 0] 44):=⟨_,rfl⟩
  have hx2:Below w2.heap.size w2 W2:=by rw [hW2];exact (Below.refl _ _).alloc (Nat.le_refl _) _
  have hgq:W2.heap[w2.heap.size]?=some (.cells #[.string ⟨#[]⟩,.bool false,.slice none 0 0,.slice none 0 0,.slice none 0 0,.slice none 0 0] 44 (0,0)):=by rw [hW2];exact heap_alloc_new w2 _
  have hz2:w2.heap.size < W2.heap.size:=by rw [hW2];simp
  have hy2:W1.heap.size≤w2.heap.size:=hb2.size
  have hb12:Below W1.heap.size W1 W2:=hb2.trans (hx2.mono hb2.size)
  have hga:W2.heap[w.heap.size]?=some (.cells #[.string t0a,.string t1a,.slice p2a k2a c2a,.slice p3a k3a c3a,.slice p4a k4a c4a,.slice p5a k5a c5a,.int .i64 i6a,.int .i64 i7a,.int .i64 i8a,.int .i64 i9a,.int .i64 i10a,.slice p11a k11a c11a] 30 (0,0)):=(hb12.block _ (by omega)).trans HGA.out
  have HB2:Hid (Below w.heap.size w W2):=HB1.out.trans (hb12.mono HB1.out.size)
  have HB12:Hid (Below W1.heap.size W1 W2):=hb12
  have HB22:Hid (Below w2.heap.size w2 W2):=hx2
  have HGQ:Hid (W2.heap[w2.heap.size]?=some (.cells #[.string ⟨#[]⟩,.bool false,.slice none 0 0,.slice none 0 0,.slice none 0 0,.slice none 0 0] 44 (0,0))):=hgq
  have HGA2:Hid (W2.heap[w.heap.size]?=some (.cells #[.string t0a,.string t1a,.slice p2a k2a c2a,.slice p3a k3a c3a,.slice p4a k4a c4a,.slice p5a k5a c5a,.int .i64 i6a,.int .i64 i7a,.int .i64 i8a,.int .i64 i9a,.int .i64 i10a,.slice p11a k11a c11a] 30 (0,0))):=hga
  clear a0 a1 a2 a3 a4 a5 a6 a7 a8 a9 a10 a11 hb2 hh hx2 hgq hb12
  have a0:W2.cell? ⟨w.heap.size,0,none⟩=some (.string t0a):=cellsAt hga 0
  have a1:W2.cell? ⟨w.heap.size,1,none⟩=some (.string t1a):=cellsAt hga 1
  have a2:W2.cell? ⟨w.heap.size,2,none⟩=some (.slice p2a k2a c2a):=cellsAt hga 2
  have a3:W2.cell? ⟨w.heap.size,3,none⟩=some (.slice p3a k3a c3a):=cellsAt hga 3
  have a4:W2.cell? ⟨w.heap.size,4,none⟩=some (.slice p4a k4a c4a):=cellsAt hga 4
  have a5:W2.cell? ⟨w.heap.size,5,none⟩=some (.slice p5a k5a c5a):=cellsAt hga 5
  have a6:W2.cell? ⟨w.heap.size,6,none⟩=some (.int .i64 i6a):=cellsAt hga 6
  have a7:W2.cell? ⟨w.heap.size,7,none⟩=some (.int .i64 i7a):=cellsAt hga 7
  have a8:W2.cell? ⟨w.heap.size,8,none⟩=some (.int .i64 i8a):=cellsAt hga 8
  have a9:W2.cell? ⟨w.heap.size,9,none⟩=some (.int .i64 i9a):=cellsAt hga 9
  have a10:W2.cell? ⟨w.heap.size,10,none⟩=some (.int .i64 i10a):=cellsAt hga 10
  have a11:W2.cell? ⟨w.heap.size,11,none⟩=some (.slice p11a k11a c11a):=cellsAt hga 11
  clear hga
  go_upto_region 3 with fail
  rw [← hW2]
  clear hW2
  go_wp2_with fail
  refine (HCK.out W2 HB2.out).mono ?_
  rintro e w3 ⟨rfl,hb3⟩
  obtain ⟨W3,hW3⟩:∃ W3,W3=((w3.alloc (.cells #[.string ⟨#[]⟩,.string ⟨#[]⟩,.slice none 0 0,.slice none 0 0,.slice none 0 0,.slice none 0 0,.int .i64 0,.int .i64 0,.int .i64 0,.int .i64 0,.int .i64 0,.slice none 0 0] 30)).alloc (.cells #[.string ⟨#[]⟩,.bool false,.slice none 0 0,.slice none 0 0,.slice none 0 0,.slice none 0 0] 44)).alloc (.cells #[.string ⟨#[]⟩,.bool false,.slice none 0 0,.slice none 0 0,.slice none 0 0,.slice none 0 0] 44):=⟨_,rfl⟩
  have hx3:Below w3.heap.size w3 W3:=by rw [hW3];exact (((Below.refl _ _).alloc (Nat.le_refl _) _).alloc (by simp) _).alloc (by simp<;>omega) _
  have hgw:W3.heap[w3.heap.size]?=some (.cells #[.string ⟨#[]⟩,.string ⟨#[]⟩,.slice none 0 0,.slice none 0 0,.slice none 0 0,.slice none 0 0,.int .i64 0,.int .i64 0,.int .i64 0,.int .i64 0,.int .i64 0,.slice none 0 0] 30 (0,0)):=by rw [hW3,Below.heap_alloc _ _ _ (by simp<;>omega),Below.heap_alloc _ _ _ (by simp)];exact heap_alloc_new w3 _
  have hgt:W3.heap[w3.heap.size+1]?=some (.cells #[.string ⟨#[]⟩,.bool false,.slice none 0 0,.slice none 0 0,.slice none 0 0,.slice none 0 0] 44 (0,0)):=by
   have h:=heap_alloc_new (w3.alloc (.cells #[.string ⟨#[]⟩,.string ⟨#[]⟩,.slice none 0 0,.slice none 0 0,.slice none 0 0,.slice none 0 0,.int .i64 0,.int .i64 0,.int .i64 0,.int .i64 0,.int .i64 0,.slice none 0 0] 30)) (.cells #[.string ⟨#[]⟩,.bool false,.slice none 0 0,.slice none 0 0,.slice none 0 0,.slice none 0 0] 44)
   rw [hW3,Below.heap_alloc _ _ _ (by simp)];simpa using h
  have hgh:W3.heap[w3.heap.size+1+1]?=some (.cells #[.string ⟨#[]⟩,.bool false,.slice none 0 0,.slice none 0 0,.slice none 0 0,.slice none 0 0] 44 (0,0)):=by
   have h:=heap_alloc_new ((w3.alloc (.cells #[.string ⟨#[]⟩,.string ⟨#[]⟩,.slice none 0 0,.slice none 0 0,.slice none 0 0,.slice none 0 0,.int .i64 0,.int .i64 0,.int .i64 0,.int .i64 0,.int .i64 0,.slice none 0 0] 30)).alloc (.cells #[.string ⟨#[]⟩,.bool false,.slice none 0 0,.slice none 0 0,.slice none 0 0,.slice none 0 0] 44)) (.cells #[.string ⟨#[]⟩,.bool false,.slice none 0 0,.slice none 0 0,.slice none 0 0,.slice none 0 0] 44)
   rw [hW3];simpa using h
  have hs3:W3.heap.size=w3.heap.size+3:=by rw [hW3];simp
  have hy3:W2.heap.size≤w3.heap.size:=hb3.size
  have hb23:Below W2.heap.size W2 W3:=hb3.trans (hx3.mono hb3.size)
  have HB3:Hid (Below w.heap.size w W3):=HB2.out.trans (hb23.mono HB2.out.size)
  have HB23:Hid (Below W2.heap.size W2 W3):=hb23
  have HGW:Hid (W3.heap[w3.heap.size]?=some (.cells #[.string ⟨#[]⟩,.string ⟨#[]⟩,.slice none 0 0,.slice none 0 0,.slice none 0 0,.slice none 0 0,.int .i64 0,.int .i64 0,.int .i64 0,.int .i64 0,.int .i64 0,.slice none 0 0] 30 (0,0))):=hgw
  have HGT:Hid (W3.heap[w3.heap.size+1]?=some (.cells #[.string ⟨#[]⟩,.bool false,.slice none 0 0,.slice none 0 0,.slice none 0 0,.slice none 0 0] 44 (0,0))):=hgt
  have HGH:Hid (W3.heap[w3.heap.size+1+1]?=some (.cells #[.string ⟨#[]⟩,.bool false,.slice none 0 0,.slice none 0 0,.slice none 0 0,.slice none 0 0] 44 (0,0))):=hgh
  have hga:W3.heap[w.heap.size]?=some (.cells #[.string t0a,.string t1a,.slice p2a k2a c2a,.slice p3a k3a c3a,.slice p4a k4a c4a,.slice p5a k5a c5a,.int .i64 i6a,.int .i64 i7a,.int .i64 i8a,.int .i64 i9a,.int .i64 i10a,.slice p11a k11a c11a] 30 (0,0)):=(hb23.block _ (by omega)).trans HGA2.out
  have HGA3:Hid (W3.heap[w.heap.size]?=some (.cells #[.string t0a,.string t1a,.slice p2a k2a c2a,.slice p3a k3a c3a,.slice p4a k4a c4a,.slice p5a k5a c5a,.int .i64 i6a,.int .i64 i7a,.int .i64 i8a,.int .i64 i9a,.int .i64 i10a,.slice p11a k11a c11a] 30 (0,0))):=hga
  clear a0 a1 a2 a3 a4 a5 a6 a7 a8 a9 a10 a11 hb3 hx3 hgw hgt hgh hb23
  have hne2:(ne == 0)=false:=by simpa using HNE.out
  clear hga
  go_upto_region 8 with fail
  rw [← hW3]
  clear hW3
  have hW:Below W3.heap.size W3 W3:=Below.refl _ _
  have HSX:Hid (W3.heap.size=W3.heap.size):=rfl
  have HGE:Hid (∀ W,Below W3.heap.size W3 W→W.heap[w1.heap.size]?=some (.cells #[.string ⟨#[]⟩,.string ⟨#[]⟩,.slice none 0 0,.slice none 0 0,.slice none 0 0,.slice none 0 0,.int .i64 0,.int .i64 0,.int .i64 0,.int .i64 0,.int .i64 0,.slice none 0 0] 30 (0,0))∧W.heap[w1.heap.size+1]?=some (.cells #[.string ⟨#[]⟩,.bool false,.slice none 0 0,.slice none 0 0,.slice none 0 0,.slice none 0 0] 44 (0,0))∧W.heap[w2.heap.size]?=some (.cells #[.string ⟨#[]⟩,.bool false,.slice none 0 0,.slice none 0 0,.slice none 0 0,.slice none 0 0] 44 (0,0))∧W.heap[w3.heap.size]?=some (.cells #[.string ⟨#[]⟩,.string ⟨#[]⟩,.slice none 0 0,.slice none 0 0,.slice none 0 0,.slice none 0 0,.int .i64 0,.int .i64 0,.int .i64 0,.int .i64 0,.int .i64 0,.slice none 0 0] 30 (0,0))∧W.heap[w3.heap.size+1]?=some (.cells #[.string ⟨#[]⟩,.bool false,.slice none 0 0,.slice none 0 0,.slice none 0 0,.slice none 0 0] 44 (0,0))∧W.heap[w3.heap.size+1+1]?=some (.cells #[.string ⟨#[]⟩,.bool false,.slice none 0 0,.slice none 0 0,.slice none 0 0,.slice none 0 0] 44 (0,0))∧Below w.heap.size w W):=fun W hW=>
   ⟨(hW.block _ (by omega)).trans ((HB23.out.block _ (by omega)).trans ((HB12.out.block _ (by omega)).trans HGX.out)),(hW.block _ (by omega)).trans ((HB23.out.block _ (by omega)).trans ((HB12.out.block _ (by omega)).trans HGP.out)),(hW.block _ (by omega)).trans ((HB23.out.block _ (by omega)).trans HGQ.out),(hW.block _ (by omega)).trans HGW.out,(hW.block _ (by omega)).trans HGT.out,(hW.block _ (by omega)).trans HGH.out,HB3.out.trans (hW.mono HB3.out.size)⟩
  have HNI:Hid (∀ W,Below W3.heap.size W3 W→Calls Tryz.prog 16 #[.agg #[.string ⟨#[]⟩,.string ⟨#[]⟩,.slice none 0 0,.slice none 0 0,.slice none 0 0,.slice none 0 0,.int .i64 0,.int .i64 0,.int .i64 0,.int .i64 0,.int .i64 0,.slice none 0 0],.int .i64 ne,.int .i64 ne,.agg #[.string ⟨#[]⟩,.string ⟨#[]⟩,.slice none 0 0,.slice none 0 0,.slice none 0 0,.slice none 0 0,.int .i64 0,.int .i64 0,.int .i64 0,.int .i64 0,.int .i64 0,.slice none 0 0]] W fun e w'=>e=.returned (.bool true)∧Below W.heap.size W w'):=fun W _=>nodeIs_any ne nz nz azN azN W (.inl ⟨HNE.out,rfl⟩) (isNz W) (fun h=>absurd h HNE.out)
  have HSP:Hid (∀ W,Below W3.heap.size W3 W→Calls Tryz.prog 23 #[.agg #[.string ⟨#[]⟩,.bool false,.slice none 0 0,.slice none 0 0,.slice none 0 0,.slice none 0 0],.agg #[.string ⟨#[]⟩,.bool false,.slice none 0 0,.slice none 0 0,.slice none 0 0,.slice none 0 0]] W fun e w'=>e=.returned (.bool true)∧Below W.heap.size W w'):=fun W _=>samePacket_any pz _ _ W (isPz W) (isPz W) pz_small
  have HSQ:Hid (∀ W,Below W3.heap.size W3 W→Calls Tryz.prog 23 #[.agg #[.string ⟨#[]⟩,.bool false,.slice none 0 0,.slice none 0 0,.slice none 0 0,.slice none 0 0],.agg #[.string ⟨#[]⟩,.bool false,.slice none 0 0,.slice none 0 0,.slice none 0 0,.slice none 0 0]] W fun e w'=>e=.returned (.bool true)∧Below W.heap.size W w'):=fun W _=>samePacket_any pz _ _ W (isPz W) (isPz W) pz_small
  clear hs0 hz1 hlt1 hz2 hy2 hy3 hs3 hW HSX
  go_wp2_with fail
  refine (nodeBegun_any W3).mono ?_
  rintro e v1 ⟨rfl,hv1⟩
  obtain ⟨g1,g2,g3,g4,g5,g6,_⟩:=HGE.out v1 hv1
  have HV1:Hid (Below W3.heap.size W3 v1):=hv1
  have a0:v1.cell? ⟨w1.heap.size,0,none⟩=some (.string ⟨#[]⟩):=cellsAt g1 0
  have a1:v1.cell? ⟨w1.heap.size,1,none⟩=some (.string ⟨#[]⟩):=cellsAt g1 1
  have a2:v1.cell? ⟨w1.heap.size,2,none⟩=some (.slice none 0 0):=cellsAt g1 2
  have a3:v1.cell? ⟨w1.heap.size,3,none⟩=some (.slice none 0 0):=cellsAt g1 3
  have a4:v1.cell? ⟨w1.heap.size,4,none⟩=some (.slice none 0 0):=cellsAt g1 4
  have a5:v1.cell? ⟨w1.heap.size,5,none⟩=some (.slice none 0 0):=cellsAt g1 5
  have a6:v1.cell? ⟨w1.heap.size,6,none⟩=some (.int .i64 0):=cellsAt g1 6
  have a7:v1.cell? ⟨w1.heap.size,7,none⟩=some (.int .i64 0):=cellsAt g1 7
  have a8:v1.cell? ⟨w1.heap.size,8,none⟩=some (.int .i64 0):=cellsAt g1 8
  have a9:v1.cell? ⟨w1.heap.size,9,none⟩=some (.int .i64 0):=cellsAt g1 9
  have a10:v1.cell? ⟨w1.heap.size,10,none⟩=some (.int .i64 0):=cellsAt g1 10
  have a11:v1.cell? ⟨w1.heap.size,11,none⟩=some (.slice none 0 0):=cellsAt g1 11
  have b0:v1.cell? ⟨w3.heap.size,0,none⟩=some (.string ⟨#[]⟩):=cellsAt g4 0
  have b1:v1.cell? ⟨w3.heap.size,1,none⟩=some (.string ⟨#[]⟩):=cellsAt g4 1
  have b2:v1.cell? ⟨w3.heap.size,2,none⟩=some (.slice none 0 0):=cellsAt g4 2
  have b3:v1.cell? ⟨w3.heap.size,3,none⟩=some (.slice none 0 0):=cellsAt g4 3
  have b4:v1.cell? ⟨w3.heap.size,4,none⟩=some (.slice none 0 0):=cellsAt g4 4
  have b5:v1.cell? ⟨w3.heap.size,5,none⟩=some (.slice none 0 0):=cellsAt g4 5
  have b6:v1.cell? ⟨w3.heap.size,6,none⟩=some (.int .i64 0):=cellsAt g4 6
  have b7:v1.cell? ⟨w3.heap.size,7,none⟩=some (.int .i64 0):=cellsAt g4 7
  have b8:v1.cell? ⟨w3.heap.size,8,none⟩=some (.int .i64 0):=cellsAt g4 8
  have b9:v1.cell? ⟨w3.heap.size,9,none⟩=some (.int .i64 0):=cellsAt g4 9
  have b10:v1.cell? ⟨w3.heap.size,10,none⟩=some (.int .i64 0):=cellsAt g4 10
  have b11:v1.cell? ⟨w3.heap.size,11,none⟩=some (.slice none 0 0):=cellsAt g4 11
  clear g1 g2 g3 g4 g5 g6 hv1
  go_wp2_with fail
  refine (HNI.out v1 HV1.out).mono ?_
  rintro e v2 ⟨rfl,hv2⟩
  have HV2:Hid (Below W3.heap.size W3 v2):=HV1.out.trans (hv2.mono HV1.out.size)
  obtain ⟨g1,g2,g3,g4,g5,g6,_⟩:=HGE.out v2 HV2.out
  clear a0 a1 a2 a3 a4 a5 a6 a7 a8 a9 a10 a11 b0 b1 b2 b3 b4 b5 b6 b7 b8 b9 b10 b11
  have a0:v2.cell? ⟨w1.heap.size+1,0,none⟩=some (.string ⟨#[]⟩):=cellsAt g2 0
  have a1:v2.cell? ⟨w1.heap.size+1,1,none⟩=some (.bool false):=cellsAt g2 1
  have a2:v2.cell? ⟨w1.heap.size+1,2,none⟩=some (.slice none 0 0):=cellsAt g2 2
  have a3:v2.cell? ⟨w1.heap.size+1,3,none⟩=some (.slice none 0 0):=cellsAt g2 3
  have a4:v2.cell? ⟨w1.heap.size+1,4,none⟩=some (.slice none 0 0):=cellsAt g2 4
  have a5:v2.cell? ⟨w1.heap.size+1,5,none⟩=some (.slice none 0 0):=cellsAt g2 5
  have b0:v2.cell? ⟨w3.heap.size+1,0,none⟩=some (.string ⟨#[]⟩):=cellsAt g5 0
  have b1:v2.cell? ⟨w3.heap.size+1,1,none⟩=some (.bool false):=cellsAt g5 1
  have b2:v2.cell? ⟨w3.heap.size+1,2,none⟩=some (.slice none 0 0):=cellsAt g5 2
  have b3:v2.cell? ⟨w3.heap.size+1,3,none⟩=some (.slice none 0 0):=cellsAt g5 3
  have b4:v2.cell? ⟨w3.heap.size+1,4,none⟩=some (.slice none 0 0):=cellsAt g5 4
  have b5:v2.cell? ⟨w3.heap.size+1,5,none⟩=some (.slice none 0 0):=cellsAt g5 5
  clear g1 g2 g3 g4 g5 g6 hv2
  go_wp2_with fail
  refine (HSP.out v2 HV2.out).mono ?_
  rintro e v3 ⟨rfl,hv3⟩
  have HV3:Hid (Below W3.heap.size W3 v3):=HV2.out.trans (hv3.mono HV2.out.size)
  obtain ⟨g1,g2,g3,g4,g5,g6,_⟩:=HGE.out v3 HV3.out
  clear a0 a1 a2 a3 a4 a5 b0 b1 b2 b3 b4 b5
  have a0:v3.cell? ⟨w2.heap.size,0,none⟩=some (.string ⟨#[]⟩):=cellsAt g3 0
  have a1:v3.cell? ⟨w2.heap.size,1,none⟩=some (.bool false):=cellsAt g3 1
  have a2:v3.cell? ⟨w2.heap.size,2,none⟩=some (.slice none 0 0):=cellsAt g3 2
  have a3:v3.cell? ⟨w2.heap.size,3,none⟩=some (.slice none 0 0):=cellsAt g3 3
  have a4:v3.cell? ⟨w2.heap.size,4,none⟩=some (.slice none 0 0):=cellsAt g3 4
  have a5:v3.cell? ⟨w2.heap.size,5,none⟩=some (.slice none 0 0):=cellsAt g3 5
  have b0:v3.cell? ⟨w3.heap.size+1+1,0,none⟩=some (.string ⟨#[]⟩):=cellsAt g6 0
  have b1:v3.cell? ⟨w3.heap.size+1+1,1,none⟩=some (.bool false):=cellsAt g6 1
  have b2:v3.cell? ⟨w3.heap.size+1+1,2,none⟩=some (.slice none 0 0):=cellsAt g6 2
  have b3:v3.cell? ⟨w3.heap.size+1+1,3,none⟩=some (.slice none 0 0):=cellsAt g6 3
  have b4:v3.cell? ⟨w3.heap.size+1+1,4,none⟩=some (.slice none 0 0):=cellsAt g6 4
  have b5:v3.cell? ⟨w3.heap.size+1+1,5,none⟩=some (.slice none 0 0):=cellsAt g6 5
  clear g1 g2 g3 g4 g5 g6 hv3
  go_wp2_with fail
  refine (HSQ.out v3 HV3.out).mono ?_
  rintro e v4 ⟨rfl,hv4⟩
  have HV4:Hid (Below W3.heap.size W3 v4):=HV3.out.trans (hv4.mono HV3.out.size)
  clear a0 a1 a2 a3 a4 a5 b0 b1 b2 b3 b4 b5 hv4
  go_wp2_with fail
  go_ret
  exact ⟨rfl,(HGE.out v4 HV4.out).2.2.2.2.2.2⟩
end Go.Proofs.YtikgjgmgbfjcgaaGreat
