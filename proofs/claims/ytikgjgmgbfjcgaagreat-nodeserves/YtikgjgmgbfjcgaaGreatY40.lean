import Derived.Test.YtikgjgmgbfjcgaaGreatY36
import Derived.Shelf.SlSortCmp.SmallK
import Derived.Test.YtikgjgmgbfjcgaaGreatProg
import Derived.Test.YtikgjgmgbfjcgaaGreatY37
import Derived.Test.YtikgjgmgbfjcgaaGreatY39
namespace Go.Proofs.YtikgjgmgbfjcgaaGreat
open Go.RowKit
def WholeSays (n:Nd) (ne:Int) (w:World) (e:Ending) (w':World):Prop:=Below w.heap.size w w' ∧
 ((ne≠0∧e=.returned (.tuple #[.agg #[.string ⟨#[]⟩,.bool false,.slice none 0 0,.slice none 0 0,.slice none 0 0,.slice none 0 0],.int .i64 ne])) ∨
 (ne=0∧∃ um us ug uw,e=.returned (.tuple #[.agg #[.string n.name,.bool true,um,us,ug,uw],.int .i64 0])∧Own w.heap.size w' um n.ms∧Sv.Own w.heap.size w' us n.sv∧Gw.Own w.heap.size w' ug n.gw∧Wh.Own w.heap.size w' uw n.wh))
set_option maxHeartbeats 25600000 in
set_option maxRecDepth 100000 in
theorem Whole_any (n:Nd) (vm vr vs vg vw:Value) (w:World) (h:NdIs w n vm vr vs vg vw) :
 Calls Tryz.prog 20 #[.agg (ndA n vm vr vs vg vw)] w fun e w'=>WholeSays n n.e w e w':=by
 have HCK:Hid (∀ W,Below w.heap.size w W→Calls Tryz.prog 17 #[.agg (ndA n vm vr vs vg vw)] W fun e w'=>e=.returned (.int .i64 n.e)∧Below W.heap.size W w'):=fun W hW=>ncheck_any n vm vr vs vg vw W (h.below hW)
 have HFR:Hid (n.e=0→∀ W,Below w.heap.size w W→Calls Tryz.prog 57 #[.agg (ndA n vm vr vs vg vw)] W fun e w'=>∃ um ur us ug uw,e=.returned (.agg (ndA n um ur us ug uw))∧NdOwn W.heap.size w' n um ur us ug uw∧Below W.heap.size W w'):=fun he W hW=>by
  have hp:=Nd.parts (Nd.e_zero he).1
  have l1:=(chk_zero hp.ms).1
  have l2:=(chkR_e0 hp.rs).1
  have l3:=(Sv.chk_zero hp.sv).1
  have l4:=(Gw.chk_zero hp.gw).1
  have l5:=(Wh.chk_zero hp.wh).1
  exact fresh_any n vm vr vs vg vw W (h.below hW) (by omega) (by omega) (by omega) (by omega) (by omega)
 obtain ⟨nm,ct,ms,rs,sv,gw,⟨px,py,pz,ph,pq⟩,wh⟩:=n
 obtain ⟨⟨em,cm,rfl,_,_⟩,⟨er_,cr,rfl,_,_⟩,⟨es,cs_,rfl,_,_⟩,⟨eg_,cg,rfl,_,_⟩,⟨eh,ch,rfl,_,_⟩,_,_⟩:=h
 simp only [ndA] at HCK HFR ⊢
 generalize hkm:ms.length=km at *
 have Hkm:Hid (ms.length=km):=hkm
 generalize hkr:rs.length=kr at *
 have Hkr:Hid (rs.length=kr):=hkr
 generalize hks:sv.length=ks at *
 have Hks:Hid (sv.length=ks):=hks
 generalize hkg:gw.length=kg at *
 have Hkg:Hid (gw.length=kg):=hkg
 generalize hkh:wh.length=kh at *
 have Hkh:Hid (wh.length=kh):=hkh
 clear hkm hkr hks hkg hkh
 generalize Nd.e ⟨nm,ct,ms,rs,sv,gw,⟨px,py,pz,ph,pq⟩,wh⟩=ne at *
 obtain ⟨W0,hW0⟩:∃ W0,W0=(w.alloc (.cells #[.string nm,.string ct,.slice em km cm,.slice er_ kr cr,.slice es ks cs_,.slice eg_ kg cg,.int .i64 px,.int .i64 py,.int .i64 pz,.int .i64 ph,.int .i64 pq,.slice eh kh ch] 30)).alloc (.cells #[.string ⟨#[]⟩,.bool false,.slice none 0 0,.slice none 0 0,.slice none 0 0,.slice none 0 0] 44):=⟨_,rfl⟩
 have hb0:Below w.heap.size w W0:=by rw [hW0];exact ((Below.refl _ _).alloc (Nat.le_refl _) _).alloc (by simp) _
 have hg0:W0.heap[w.heap.size]?=some (.cells #[.string nm,.string ct,.slice em km cm,.slice er_ kr cr,.slice es ks cs_,.slice eg_ kg cg,.int .i64 px,.int .i64 py,.int .i64 pz,.int .i64 ph,.int .i64 pq,.slice eh kh ch] 30 (0,0)):=by
  rw [hW0,Below.heap_alloc _ _ _ (by simp)];exact heap_alloc_new w _
 have hz0:W0.heap[w.heap.size+1]?=some (.cells #[.string ⟨#[]⟩,.bool false,.slice none 0 0,.slice none 0 0,.slice none 0 0,.slice none 0 0] 44 (0,0)):=by
  have h:=heap_alloc_new (w.alloc (.cells #[.string nm,.string ct,.slice em km cm,.slice er_ kr cr,.slice es ks cs_,.slice eg_ kg cg,.int .i64 px,.int .i64 py,.int .i64 pz,.int .i64 ph,.int .i64 pq,.slice eh kh ch] 30)) (.cells #[.string ⟨#[]⟩,.bool false,.slice none 0 0,.slice none 0 0,.slice none 0 0,.slice none 0 0] 44)
  rw [hW0];simpa using h
 have hs0:W0.heap.size=w.heap.size+2:=by rw [hW0];simp
 have HB0:Hid (Below w.heap.size w W0):=hb0
 have HG0:Hid (W0.heap[w.heap.size]?=some (.cells #[.string nm,.string ct,.slice em km cm,.slice er_ kr cr,.slice es ks cs_,.slice eg_ kg cg,.int .i64 px,.int .i64 py,.int .i64 pz,.int .i64 ph,.int .i64 pq,.slice eh kh ch] 30 (0,0))):=hg0
 have HZ0:Hid (W0.heap[w.heap.size+1]?=some (.cells #[.string ⟨#[]⟩,.bool false,.slice none 0 0,.slice none 0 0,.slice none 0 0,.slice none 0 0] 44 (0,0))):=hz0
 clear hb0 hg0 hz0
 go_enter Tryz.func20,Tryz.ntmps20
 go_wp2_with fail
 rw [← hW0]
 clear hW0
 refine (HCK.out W0 HB0.out).mono ?_
 rintro e w1 ⟨rfl,hb1⟩
 have hg1:w1.heap[w.heap.size]?=some (.cells #[.string nm,.string ct,.slice em km cm,.slice er_ kr cr,.slice es ks cs_,.slice eg_ kg cg,.int .i64 px,.int .i64 py,.int .i64 pz,.int .i64 ph,.int .i64 pq,.slice eh kh ch] 30 (0,0)):=(hb1.block _ (by omega)).trans HG0.out
 have hz1:w1.heap[w.heap.size+1]?=some (.cells #[.string ⟨#[]⟩,.bool false,.slice none 0 0,.slice none 0 0,.slice none 0 0,.slice none 0 0] 44 (0,0)):=(hb1.block _ (by omega)).trans HZ0.out
 have HB1:Hid (Below w.heap.size w w1):=HB0.out.trans (hb1.mono (by omega))
 have hs1:w.heap.size+1 < w1.heap.size:=(Array.getElem?_eq_some_iff.1 hz1).1
 have q0:w1.cell? ⟨w.heap.size+1,0,none⟩=_:=cellsAt hz1 0
 have qz0:w1.frozen? ⟨w.heap.size+1,0,none⟩=false:=frozen_of hz1 0
 have q1:w1.cell? ⟨w.heap.size+1,1,none⟩=_:=cellsAt hz1 1
 have qz1:w1.frozen? ⟨w.heap.size+1,1,none⟩=false:=frozen_of hz1 1
 have q2:w1.cell? ⟨w.heap.size+1,2,none⟩=_:=cellsAt hz1 2
 have qz2:w1.frozen? ⟨w.heap.size+1,2,none⟩=false:=frozen_of hz1 2
 have q3:w1.cell? ⟨w.heap.size+1,3,none⟩=_:=cellsAt hz1 3
 have qz3:w1.frozen? ⟨w.heap.size+1,3,none⟩=false:=frozen_of hz1 3
 have q4:w1.cell? ⟨w.heap.size+1,4,none⟩=_:=cellsAt hz1 4
 have qz4:w1.frozen? ⟨w.heap.size+1,4,none⟩=false:=frozen_of hz1 4
 have q5:w1.cell? ⟨w.heap.size+1,5,none⟩=_:=cellsAt hz1 5
 have qz5:w1.frozen? ⟨w.heap.size+1,5,none⟩=false:=frozen_of hz1 5
 have p0:w1.cell? ⟨w.heap.size,0,none⟩=_:=cellsAt hg1 0
 have p1:w1.cell? ⟨w.heap.size,1,none⟩=_:=cellsAt hg1 1
 have p2:w1.cell? ⟨w.heap.size,2,none⟩=_:=cellsAt hg1 2
 have p3:w1.cell? ⟨w.heap.size,3,none⟩=_:=cellsAt hg1 3
 have p4:w1.cell? ⟨w.heap.size,4,none⟩=_:=cellsAt hg1 4
 have p5:w1.cell? ⟨w.heap.size,5,none⟩=_:=cellsAt hg1 5
 have p6:w1.cell? ⟨w.heap.size,6,none⟩=_:=cellsAt hg1 6
 have p7:w1.cell? ⟨w.heap.size,7,none⟩=_:=cellsAt hg1 7
 have p8:w1.cell? ⟨w.heap.size,8,none⟩=_:=cellsAt hg1 8
 have p9:w1.cell? ⟨w.heap.size,9,none⟩=_:=cellsAt hg1 9
 have p10:w1.cell? ⟨w.heap.size,10,none⟩=_:=cellsAt hg1 10
 have p11:w1.cell? ⟨w.heap.size,11,none⟩=_:=cellsAt hg1 11
 have HZ1:Hid (w1.heap[w.heap.size+1]?=some (.cells #[.string ⟨#[]⟩,.bool false,.slice none 0 0,.slice none 0 0,.slice none 0 0,.slice none 0 0] 44 (0,0))):=hz1
 have HG1:Hid (w1.heap[w.heap.size]?=some (.cells #[.string nm,.string ct,.slice em km cm,.slice er_ kr cr,.slice es ks cs_,.slice eg_ kg cg,.int .i64 px,.int .i64 py,.int .i64 pz,.int .i64 ph,.int .i64 pq,.slice eh kh ch] 30 (0,0))):=hg1
 clear hb1 hg1 hz1
 by_cases hne:ne=0
 rotate_left
 ·have hne':(ne != 0)=true:=by simpa using hne
  have HNZ:Hid (ne≠0):=hne
  clear hne
  go_wp2_with fail
  refine bodyPost_ret (v:=.tuple #[.agg #[.string ⟨#[]⟩,.bool false,.slice none 0 0,.slice none 0 0,.slice none 0 0,.slice none 0 0],.int .i64 ne]) ?_ rfl ?_
  ·simp [results,Tryz.results20,go_sem,q0,q1,q2,q3,q4,q5]
  ·unfold WholeSays
   exact ⟨((((((HB1.out).setCell (p:=⟨w.heap.size+1,0,none⟩) (by simp) _).setCell (p:=⟨w.heap.size+1,1,none⟩) (by simp) _).setCell (p:=⟨w.heap.size+1,2,none⟩) (by simp) _).setCell (p:=⟨w.heap.size+1,3,none⟩) (by simp) _).setCell (p:=⟨w.heap.size+1,4,none⟩) (by simp) _).setCell (p:=⟨w.heap.size+1,5,none⟩) (by simp) _,.inl ⟨HNZ.out,rfl⟩⟩
 subst hne
 have HFK:=HFR.out rfl w1 HB1.out
 clear HFR HCK
 go_wp2_with fail
 refine HFK.mono ?_
 rintro e w2 ⟨um,ur,us,ug,uw,rfl,ho2,hb2⟩
 obtain ⟨im,jm,hvm,_⟩:=own_slice ho2.ms
 obtain ⟨ir,jr,hvr,_⟩:=own_slice ho2.rs
 obtain ⟨is_,js,hvs,_⟩:=own_slice ho2.sv
 obtain ⟨ig,jg,hvg,_⟩:=own_slice ho2.gw
 obtain ⟨ih,jh,hvh,_⟩:=own_slice ho2.wh
 simp only at hvm hvr hvs hvg hvh
 rw [Hkm.out] at hvm
 rw [Hkr.out] at hvr
 rw [Hks.out] at hvs
 rw [Hkg.out] at hvg
 rw [Hkh.out] at hvh
 subst hvm hvr hvs hvg hvh
 have hs2:w1.heap.size≤w2.heap.size:=hb2.size
 have hg2:w2.heap[w.heap.size]?=some (.cells #[.string nm,.string ct,.slice em km cm,.slice er_ kr cr,.slice es ks cs_,.slice eg_ kg cg,.int .i64 px,.int .i64 py,.int .i64 pz,.int .i64 ph,.int .i64 pq,.slice eh kh ch] 30 (0,0)):=(hb2.block _ (by omega)).trans HG1.out
 have HZ2:Hid (w2.heap[w.heap.size+1]?=some (.cells #[.string ⟨#[]⟩,.bool false,.slice none 0 0,.slice none 0 0,.slice none 0 0,.slice none 0 0] 44 (0,0))):=(hb2.block _ (by omega)).trans HZ1.out
 have HB2:Hid (Below w.heap.size w w2):=HB1.out.trans (hb2.mono (by omega))
 clear p0 p1 p2 p3 p4 p5 p6 p7 p8 p9 p10 p11 q0 qz0 q1 qz1 q2 qz2 q3 qz3 q4 qz4 q5 qz5
 have p0:w2.cell? ⟨w.heap.size,0,none⟩=_:=cellsAt hg2 0
 have pz0:w2.frozen? ⟨w.heap.size,0,none⟩=false:=frozen_of hg2 0
 have p1:w2.cell? ⟨w.heap.size,1,none⟩=_:=cellsAt hg2 1
 have pz1:w2.frozen? ⟨w.heap.size,1,none⟩=false:=frozen_of hg2 1
 have p2:w2.cell? ⟨w.heap.size,2,none⟩=_:=cellsAt hg2 2
 have pz2:w2.frozen? ⟨w.heap.size,2,none⟩=false:=frozen_of hg2 2
 have p3:w2.cell? ⟨w.heap.size,3,none⟩=_:=cellsAt hg2 3
 have pz3:w2.frozen? ⟨w.heap.size,3,none⟩=false:=frozen_of hg2 3
 have p4:w2.cell? ⟨w.heap.size,4,none⟩=_:=cellsAt hg2 4
 have pz4:w2.frozen? ⟨w.heap.size,4,none⟩=false:=frozen_of hg2 4
 have p5:w2.cell? ⟨w.heap.size,5,none⟩=_:=cellsAt hg2 5
 have pz5:w2.frozen? ⟨w.heap.size,5,none⟩=false:=frozen_of hg2 5
 have p6:w2.cell? ⟨w.heap.size,6,none⟩=_:=cellsAt hg2 6
 have pz6:w2.frozen? ⟨w.heap.size,6,none⟩=false:=frozen_of hg2 6
 have p7:w2.cell? ⟨w.heap.size,7,none⟩=_:=cellsAt hg2 7
 have pz7:w2.frozen? ⟨w.heap.size,7,none⟩=false:=frozen_of hg2 7
 have p8:w2.cell? ⟨w.heap.size,8,none⟩=_:=cellsAt hg2 8
 have pz8:w2.frozen? ⟨w.heap.size,8,none⟩=false:=frozen_of hg2 8
 have p9:w2.cell? ⟨w.heap.size,9,none⟩=_:=cellsAt hg2 9
 have pz9:w2.frozen? ⟨w.heap.size,9,none⟩=false:=frozen_of hg2 9
 have p10:w2.cell? ⟨w.heap.size,10,none⟩=_:=cellsAt hg2 10
 have pz10:w2.frozen? ⟨w.heap.size,10,none⟩=false:=frozen_of hg2 10
 have p11:w2.cell? ⟨w.heap.size,11,none⟩=_:=cellsAt hg2 11
 have pz11:w2.frozen? ⟨w.heap.size,11,none⟩=false:=frozen_of hg2 11
 have hlt2:w.heap.size < w2.heap.size:=by omega
 have hz2:=HZ2.out
 have q0:w2.cell? ⟨w.heap.size+1,0,none⟩=_:=cellsAt hz2 0
 have qz0:w2.frozen? ⟨w.heap.size+1,0,none⟩=false:=frozen_of hz2 0
 have q1:w2.cell? ⟨w.heap.size+1,1,none⟩=_:=cellsAt hz2 1
 have qz1:w2.frozen? ⟨w.heap.size+1,1,none⟩=false:=frozen_of hz2 1
 have q2:w2.cell? ⟨w.heap.size+1,2,none⟩=_:=cellsAt hz2 2
 have qz2:w2.frozen? ⟨w.heap.size+1,2,none⟩=false:=frozen_of hz2 2
 have q3:w2.cell? ⟨w.heap.size+1,3,none⟩=_:=cellsAt hz2 3
 have qz3:w2.frozen? ⟨w.heap.size+1,3,none⟩=false:=frozen_of hz2 3
 have q4:w2.cell? ⟨w.heap.size+1,4,none⟩=_:=cellsAt hz2 4
 have qz4:w2.frozen? ⟨w.heap.size+1,4,none⟩=false:=frozen_of hz2 4
 have q5:w2.cell? ⟨w.heap.size+1,5,none⟩=_:=cellsAt hz2 5
 have qz5:w2.frozen? ⟨w.heap.size+1,5,none⟩=false:=frozen_of hz2 5
 have hlt3:w.heap.size+1 < w2.heap.size:=by omega
 have HOm:Hid (Own (w.heap.size+2) w2 (.slice im km jm) ms):=ho2.ms.mono (by omega)
 have HOs:Hid (Sv.Own (w.heap.size+2) w2 (.slice is_ ks js) sv):=ho2.sv.mono (by omega)
 have HOg:Hid (Gw.Own (w.heap.size+2) w2 (.slice ig kg jg) gw):=ho2.gw.mono (by omega)
 have HOh:Hid (Wh.Own (w.heap.size+2) w2 (.slice ih kh jh) wh):=ho2.wh.mono (by omega)
 clear ho2 hb2 hg2 hz2 HFK
 go_wp2_with fail
 refine bodyPost_ret (v:=.tuple #[.agg #[.string nm,.bool true,.slice im km jm,.slice is_ ks js,.slice ig kg jg,.slice ih kh jh],.int .i64 0]) ?_ rfl ?_
 ·simp [results,Tryz.results20,go_sem,q0,q1,q2,q3,q4,q5]
 ·unfold WholeSays
  refine ⟨((((((((((((((((((HB2.out).setCell (p:=⟨w.heap.size,0,none⟩) (by simp) _).setCell (p:=⟨w.heap.size,1,none⟩) (by simp) _).setCell (p:=⟨w.heap.size,2,none⟩) (by simp) _).setCell (p:=⟨w.heap.size,3,none⟩) (by simp) _).setCell (p:=⟨w.heap.size,4,none⟩) (by simp) _).setCell (p:=⟨w.heap.size,5,none⟩) (by simp) _).setCell (p:=⟨w.heap.size,6,none⟩) (by simp) _).setCell (p:=⟨w.heap.size,7,none⟩) (by simp) _).setCell (p:=⟨w.heap.size,8,none⟩) (by simp) _).setCell (p:=⟨w.heap.size,9,none⟩) (by simp) _).setCell (p:=⟨w.heap.size,10,none⟩) (by simp) _).setCell (p:=⟨w.heap.size,11,none⟩) (by simp) _).setCell (p:=⟨w.heap.size+1,0,none⟩) (by simp) _).setCell (p:=⟨w.heap.size+1,1,none⟩) (by simp) _).setCell (p:=⟨w.heap.size+1,2,none⟩) (by simp) _).setCell (p:=⟨w.heap.size+1,3,none⟩) (by simp) _).setCell (p:=⟨w.heap.size+1,4,none⟩) (by simp) _).setCell (p:=⟨w.heap.size+1,5,none⟩) (by simp) _,.inr ⟨rfl,_,_,_,_,rfl,?_,?_,?_,?_⟩⟩
  ·exact Own.mono (ownsRow_setCell_below (ownsRow_setCell_below (ownsRow_setCell_below (ownsRow_setCell_below (ownsRow_setCell_below (ownsRow_setCell_below (ownsRow_setCell_below (ownsRow_setCell_below (ownsRow_setCell_below (ownsRow_setCell_below (ownsRow_setCell_below (ownsRow_setCell_below (ownsRow_setCell_below (ownsRow_setCell_below (ownsRow_setCell_below (ownsRow_setCell_below (ownsRow_setCell_below (ownsRow_setCell_below (HOm.out) (a:=⟨w.heap.size,0,none⟩) (by simp only;omega) _) (a:=⟨w.heap.size,1,none⟩) (by simp only;omega) _) (a:=⟨w.heap.size,2,none⟩) (by simp only;omega) _) (a:=⟨w.heap.size,3,none⟩) (by simp only;omega) _) (a:=⟨w.heap.size,4,none⟩) (by simp only;omega) _) (a:=⟨w.heap.size,5,none⟩) (by simp only;omega) _) (a:=⟨w.heap.size,6,none⟩) (by simp only;omega) _) (a:=⟨w.heap.size,7,none⟩) (by simp only;omega) _) (a:=⟨w.heap.size,8,none⟩) (by simp only;omega) _) (a:=⟨w.heap.size,9,none⟩) (by simp only;omega) _) (a:=⟨w.heap.size,10,none⟩) (by simp only;omega) _) (a:=⟨w.heap.size,11,none⟩) (by simp only;omega) _) (a:=⟨w.heap.size+1,0,none⟩) (by simp only;omega) _) (a:=⟨w.heap.size+1,1,none⟩) (by simp only;omega) _) (a:=⟨w.heap.size+1,2,none⟩) (by simp only;omega) _) (a:=⟨w.heap.size+1,3,none⟩) (by simp only;omega) _) (a:=⟨w.heap.size+1,4,none⟩) (by simp only;omega) _) (a:=⟨w.heap.size+1,5,none⟩) (by simp only;omega) _) (by omega)
  ·exact Sv.Own.mono (ownsRow_setCell_below (ownsRow_setCell_below (ownsRow_setCell_below (ownsRow_setCell_below (ownsRow_setCell_below (ownsRow_setCell_below (ownsRow_setCell_below (ownsRow_setCell_below (ownsRow_setCell_below (ownsRow_setCell_below (ownsRow_setCell_below (ownsRow_setCell_below (ownsRow_setCell_below (ownsRow_setCell_below (ownsRow_setCell_below (ownsRow_setCell_below (ownsRow_setCell_below (ownsRow_setCell_below (HOs.out) (a:=⟨w.heap.size,0,none⟩) (by simp only;omega) _) (a:=⟨w.heap.size,1,none⟩) (by simp only;omega) _) (a:=⟨w.heap.size,2,none⟩) (by simp only;omega) _) (a:=⟨w.heap.size,3,none⟩) (by simp only;omega) _) (a:=⟨w.heap.size,4,none⟩) (by simp only;omega) _) (a:=⟨w.heap.size,5,none⟩) (by simp only;omega) _) (a:=⟨w.heap.size,6,none⟩) (by simp only;omega) _) (a:=⟨w.heap.size,7,none⟩) (by simp only;omega) _) (a:=⟨w.heap.size,8,none⟩) (by simp only;omega) _) (a:=⟨w.heap.size,9,none⟩) (by simp only;omega) _) (a:=⟨w.heap.size,10,none⟩) (by simp only;omega) _) (a:=⟨w.heap.size,11,none⟩) (by simp only;omega) _) (a:=⟨w.heap.size+1,0,none⟩) (by simp only;omega) _) (a:=⟨w.heap.size+1,1,none⟩) (by simp only;omega) _) (a:=⟨w.heap.size+1,2,none⟩) (by simp only;omega) _) (a:=⟨w.heap.size+1,3,none⟩) (by simp only;omega) _) (a:=⟨w.heap.size+1,4,none⟩) (by simp only;omega) _) (a:=⟨w.heap.size+1,5,none⟩) (by simp only;omega) _) (by omega)
  ·exact Gw.Own.mono (ownsRow_setCell_below (ownsRow_setCell_below (ownsRow_setCell_below (ownsRow_setCell_below (ownsRow_setCell_below (ownsRow_setCell_below (ownsRow_setCell_below (ownsRow_setCell_below (ownsRow_setCell_below (ownsRow_setCell_below (ownsRow_setCell_below (ownsRow_setCell_below (ownsRow_setCell_below (ownsRow_setCell_below (ownsRow_setCell_below (ownsRow_setCell_below (ownsRow_setCell_below (ownsRow_setCell_below (HOg.out) (a:=⟨w.heap.size,0,none⟩) (by simp only;omega) _) (a:=⟨w.heap.size,1,none⟩) (by simp only;omega) _) (a:=⟨w.heap.size,2,none⟩) (by simp only;omega) _) (a:=⟨w.heap.size,3,none⟩) (by simp only;omega) _) (a:=⟨w.heap.size,4,none⟩) (by simp only;omega) _) (a:=⟨w.heap.size,5,none⟩) (by simp only;omega) _) (a:=⟨w.heap.size,6,none⟩) (by simp only;omega) _) (a:=⟨w.heap.size,7,none⟩) (by simp only;omega) _) (a:=⟨w.heap.size,8,none⟩) (by simp only;omega) _) (a:=⟨w.heap.size,9,none⟩) (by simp only;omega) _) (a:=⟨w.heap.size,10,none⟩) (by simp only;omega) _) (a:=⟨w.heap.size,11,none⟩) (by simp only;omega) _) (a:=⟨w.heap.size+1,0,none⟩) (by simp only;omega) _) (a:=⟨w.heap.size+1,1,none⟩) (by simp only;omega) _) (a:=⟨w.heap.size+1,2,none⟩) (by simp only;omega) _) (a:=⟨w.heap.size+1,3,none⟩) (by simp only;omega) _) (a:=⟨w.heap.size+1,4,none⟩) (by simp only;omega) _) (a:=⟨w.heap.size+1,5,none⟩) (by simp only;omega) _) (by omega)
  ·exact Wh.Own.mono (ownsRow_setCell_below (ownsRow_setCell_below (ownsRow_setCell_below (ownsRow_setCell_below (ownsRow_setCell_below (ownsRow_setCell_below (ownsRow_setCell_below (ownsRow_setCell_below (ownsRow_setCell_below (ownsRow_setCell_below (ownsRow_setCell_below (ownsRow_setCell_below (ownsRow_setCell_below (ownsRow_setCell_below (ownsRow_setCell_below (ownsRow_setCell_below (ownsRow_setCell_below (ownsRow_setCell_below (HOh.out) (a:=⟨w.heap.size,0,none⟩) (by simp only;omega) _) (a:=⟨w.heap.size,1,none⟩) (by simp only;omega) _) (a:=⟨w.heap.size,2,none⟩) (by simp only;omega) _) (a:=⟨w.heap.size,3,none⟩) (by simp only;omega) _) (a:=⟨w.heap.size,4,none⟩) (by simp only;omega) _) (a:=⟨w.heap.size,5,none⟩) (by simp only;omega) _) (a:=⟨w.heap.size,6,none⟩) (by simp only;omega) _) (a:=⟨w.heap.size,7,none⟩) (by simp only;omega) _) (a:=⟨w.heap.size,8,none⟩) (by simp only;omega) _) (a:=⟨w.heap.size,9,none⟩) (by simp only;omega) _) (a:=⟨w.heap.size,10,none⟩) (by simp only;omega) _) (a:=⟨w.heap.size,11,none⟩) (by simp only;omega) _) (a:=⟨w.heap.size+1,0,none⟩) (by simp only;omega) _) (a:=⟨w.heap.size+1,1,none⟩) (by simp only;omega) _) (a:=⟨w.heap.size+1,2,none⟩) (by simp only;omega) _) (a:=⟨w.heap.size+1,3,none⟩) (by simp only;omega) _) (a:=⟨w.heap.size+1,4,none⟩) (by simp only;omega) _) (a:=⟨w.heap.size+1,5,none⟩) (by simp only;omega) _) (by omega)
end Go.Proofs.YtikgjgmgbfjcgaaGreat
namespace Go.Proofs
open Go.Shelf
def Tryz.sortM_ren:Go.Shelf.Ren:=⟨fun | 6=>113 | 15=>158 | 14=>162 | 28=>190 | 29=>191 | 20=>195 | 21=>196 | 22=>197 | 23=>198 | 24=>199 | 25=>200 | 26=>201 | 27=>202 | 46=>223 | 47=>224 | 48=>225 | 49=>226 | 50=>227 | 57=>246 | n=>n,fun | 22=>22 | 24=>37 | 25=>137 | 3=>3 | 39=>176 | 0=>0 | 53=>200 | 55=>202 | 4=>4 | 46=>207 | 45=>206 | 50=>184 | 5=>5 | 9=>9 | 66=>229 | 70=>233 | 76=>245 | 77=>246 | n=>n,fun | n=>n⟩
theorem Tryz.sortM:Go.Proofs.SlLaysF0.n6 Tryz.prog Tryz.sortM_ren:={
 mixed:=by kernel_rfl
 f6:=⟨Tryz.f113.name,by decide,Tryz.func113.trans (congrArg some (by kernel_rfl))⟩
 f14:=⟨Tryz.f162.name,by decide,Tryz.func162.trans (congrArg some (by kernel_rfl))⟩
 f15:=Tryz.func158.trans (congrArg some (by kernel_rfl))
 f20:=⟨Tryz.f195.name,by decide,Tryz.func195.trans (congrArg some (by kernel_rfl))⟩
 f21:=⟨Tryz.f196.name,by decide,Tryz.func196.trans (congrArg some (by kernel_rfl))⟩
 f22:=⟨Tryz.f197.name,by decide,Tryz.func197.trans (congrArg some (by kernel_rfl))⟩
 f23:=⟨Tryz.f198.name,by decide,Tryz.func198.trans (congrArg some (by kernel_rfl))⟩
 f24:=⟨Tryz.f199.name,by decide,Tryz.func199.trans (congrArg some (by kernel_rfl))⟩
 f25:=⟨Tryz.f200.name,by decide,Tryz.func200.trans (congrArg some (by kernel_rfl))⟩
 f26:=⟨Tryz.f201.name,by decide,Tryz.func201.trans (congrArg some (by kernel_rfl))⟩
 f27:=⟨Tryz.f202.name,by decide,Tryz.func202.trans (congrArg some (by kernel_rfl))⟩
 f28:=Tryz.func190.trans (congrArg some (by kernel_rfl))
 f29:=Tryz.func191.trans (congrArg some (by kernel_rfl))
 f46:=⟨Tryz.f223.name,by decide,Tryz.func223.trans (congrArg some (by kernel_rfl))⟩
 f47:=Tryz.func224.trans (congrArg some (by kernel_rfl))
 f48:=Tryz.func225.trans (congrArg some (by kernel_rfl))
 f49:=⟨Tryz.f226.name,by decide,Tryz.func226.trans (congrArg some (by kernel_rfl))⟩
 f50:=⟨Tryz.f227.name,by decide,Tryz.func227.trans (congrArg some (by kernel_rfl))⟩
 f57:=⟨Tryz.f246.name,by decide,Tryz.func246.trans (congrArg some (by kernel_rfl))⟩
 t0:=Tryz.underlying0
 a0:=Tryz.isAgg0
 z0:=Tryz.sizeOf0
 v0:=Tryz.zeroValue0
 t3:=Tryz.underlying3
 a3:=Tryz.isAgg3
 z3:=Tryz.sizeOf3
 v3:=Tryz.zeroValue3
 t4:=Tryz.underlying4
 a4:=Tryz.isAgg4
 z4:=Tryz.sizeOf4
 v4:=Tryz.zeroValue4
 t5:=Tryz.underlying5
 a5:=Tryz.isAgg5
 z5:=Tryz.sizeOf5
 v5:=Tryz.zeroValue5
 t9:=Tryz.underlying9
 a9:=Tryz.isAgg9
 z9:=Tryz.sizeOf9
 v9:=Tryz.zeroValue9
 t22:=Tryz.underlying22
 a22:=Tryz.isAgg22
 z22:=Tryz.sizeOf22
 v22:=Tryz.zeroValue22
 t25:=Tryz.underlying137
 a25:=Tryz.isAgg137
 z25:=Tryz.sizeOf137
 v25:=Tryz.zeroValue137
 t39:=Tryz.underlying176
 a39:=Tryz.isAgg176
 z39:=Tryz.sizeOf176
 v39:=Tryz.zeroValue176
 t45:=Tryz.underlying206
 a45:=Tryz.isAgg206
 z45:=Tryz.sizeOf206
 v45:=Tryz.zeroValue206
 t46:=Tryz.underlying207
 a46:=Tryz.isAgg207
 z46:=Tryz.sizeOf207
 v46:=Tryz.zeroValue207
 t50:=Tryz.underlying184
 a50:=Tryz.isAgg184
 z50:=Tryz.sizeOf184
 v50:=Tryz.zeroValue184
 t53:=Tryz.underlying200
 a53:=Tryz.isAgg200
 z53:=Tryz.sizeOf200
 v53:=Tryz.zeroValue200
 t55:=Tryz.underlying202
 a55:=Tryz.isAgg202
 z55:=Tryz.sizeOf202
 v55:=Tryz.zeroValue202
 t66:=Tryz.underlying229
 a66:=Tryz.isAgg229
 z66:=Tryz.sizeOf229
 v66:=Tryz.zeroValue229
 t70:=Tryz.underlying233
 a70:=Tryz.isAgg233
 z70:=Tryz.sizeOf233
 v70:=Tryz.zeroValue233
 t76:=Tryz.underlying245
 a76:=Tryz.isAgg245
 z76:=Tryz.sizeOf245
 v76:=Tryz.zeroValue245
 t77:=Tryz.underlying246
 a77:=Tryz.isAgg246
 z77:=Tryz.sizeOf246
 v77:=Tryz.zeroValue246 }
end Go.Proofs
namespace Go.Proofs.YtikgjgmgbfjcgaaGreat
open Go.RowKit Go.Sort Go.Lib
def cfM (a b:Mem):Int:=cmpI a.name b.name
set_option maxHeartbeats 1000000 in
theorem tellF_any (x y:Mem) (W:World):Calls Tryz.prog 114 #[.agg #[.string x.name,.int .i64 x.state,.int .i64 x.life,.int .i64 x.addr,.bool x.server],.agg #[.string y.name,.int .i64 y.state,.int .i64 y.life,.int .i64 y.addr,.bool y.server]] W fun e w'=>e=.returned (.int .i64 (cfM x y))∧∃ q os',w'=grow (W.drewN q) os':=by
 unfold cfM
 go_enter Tryz.func114,Tryz.ntmps114
 go_wp2_with (go_at_call 115;refine (compare_any _ _ _).mono ?_;rintro e w' ⟨rfl,rfl⟩)
 go_ret
 exact ⟨rfl,0,_,by rw [alloc_eq_grow,alloc_eq_grow,grow_grow];rfl⟩
theorem cmpLaysM [Inhabited Mem] (blk off size:Nat) (w:World):CmpLays Tryz.prog 114 #[] Mem.cs 5 cfM blk off size w:=fun _ _ _ _ x y=>tellF_any x y _
theorem swoM:SWO (ltOf cfM) where
 irrefl x:=by simp [ltOf,cfM,(cmpI_eq x.name x.name).2 rfl]
 trans x y z:=by
  simp only [ltOf,cfM,decide_eq_true_eq,cmpI_lt]
  exact fun h1 h2=>less_trans h1 h2
 ntrans x y z:=by
  intro h1 h2
  have h1:¬ cmpI x.name y.name < 0:=of_decide_eq_false h1
  have h2:¬ cmpI y.name z.name < 0:=of_decide_eq_false h2
  refine decide_eq_false fun h3=>?_
  have h3:cmpI x.name z.name < 0:=h3
  rcases Int.lt_trichotomy (cmpI x.name y.name) 0 with h | h | h
  ·exact h1 h
  ·have e:x.name=y.name:=(cmpI_eq _ _).1 h
   rw [e] at h3;exact h2 h3
  ·have h4:less y.name x.name=true:=(cmpI_gt _ _).1 h
   exact h2 ((cmpI_lt _ _).2 (less_trans h4 ((cmpI_lt _ _).1 h3)))
theorem holds_own [Inhabited Mem] {base:Nat} {w:World} {g c:Nat} {l:List Mem} (h:Own base w (.slice (some ⟨g,0,none⟩) l.length c) l):HoldsK Mem.cs 5 w g 0 l.toArray:=by
 rcases h.2 with ⟨h1,_⟩ | ⟨g',c',cur,h1,hbg,hg,hnc,hcm,hcs,htake⟩
 ·cases h1
 ·simp only [Value.slice.injEq,Option.some.injEq,Addr.mk.injEq] at h1
  obtain ⟨⟨rfl,_,_⟩,_,_⟩:=h1
  intro j hj
  rw [size_flatK] at hj
  have hj':j < l.length * 5:=by simpa using hj
  refine ⟨?_,frozen_of hg _⟩
  rw [cellsAt hg,Nat.zero_add,get_flatK Mem.cs 5 l.toArray j (by simpa using hj')]
  have e1:=fl_get l (j / 5) (by omega) (j%5) (by omega)
  rw [show j / 5 * 5+j%5=j by omega] at e1
  have e2:cur[j]?=(fl l)[j]?:=by rw [← htake,List.getElem?_take_of_lt (by omega)];simp
  rw [e2,e1]
  have e3:l.toArray[j / 5]! = l.getD (j / 5) dm:=by
   have hlt:j / 5 < l.length:=by omega
   simp [List.getD,hlt]
  rw [e3]
  have hl:j%5 < (l.getD (j / 5) dm).cs.length:=by rw [cs_len];omega
  rw [List.getElem?_eq_getElem hl,getElem!_pos (l.getD (j / 5) dm).cs (j%5) hl]
  rfl
theorem block_sortK [Inhabited Mem] {w:World} {g m:Nat} {d:Array Mem} {os:Array Obj} {cur:Array Value} {T:TypeId} {fr:Nat × Nat} (hg:w.heap[g]?=some (.cells cur T fr)) :
 (sortWorldK Mem.cs 5 w g 0 m d os).heap[g]?=some (.cells (putCells id 0 (flatK Mem.cs 5 d) cur) T fr):=by
 have hlt:g < w.heap.size:=(Array.getElem?_eq_some_iff.1 hg).1
 have hlt2:g < (putRowK Mem.cs 5 (Sort.ahead w m) g 0 d).heap.size:=by
  show g < (putRow id (Sort.ahead w m) g 0 _).heap.size
  rw [size_putRow];exact hlt
 show ((putRowK Mem.cs 5 (Sort.ahead w m) g 0 d).heap++os)[g]?=_
 rw [Array.getElem?_append_left hlt2]
 show (w.heap.modify g (onCells (putCells id 0 (flatK Mem.cs 5 d))))[g]?=_
 rw [Array.getElem?_modify,if_pos rfl,hg]
 rfl
theorem own_sorted [Inhabited Mem] {base:Nat} {w:World} {g c m:Nat} {l:List Mem} {os:Array Obj} (h:Own base w (.slice (some ⟨g,0,none⟩) l.length c) l) (d:Array Mem) (hs:d.size=l.length) :
 Own base (sortWorldK Mem.cs 5 w g 0 m d os) (.slice (some ⟨g,0,none⟩) l.length c) d.toList:=by
 rcases h.2 with ⟨h1,_⟩ | ⟨g',c',cur,h1,hbg,hg,hnc,hcm,hcs,htake⟩
 ·cases h1
 ·simp only [Value.slice.injEq,Option.some.injEq,Addr.mk.injEq] at h1
  obtain ⟨⟨rfl,_,_⟩,_,rfl⟩:=h1
  have hl:d.toList.length=l.length:=by simpa using hs
  have ho:Own base (sortWorldK Mem.cs 5 w g 0 m d os) (.slice (some ⟨g,0,none⟩) d.toList.length c) d.toList:=by
   refine own_of hbg (block_sortK hg) (by simp [putCells,hcs]) (by omega) hcm ?_
   apply List.ext_getElem?
   intro t
   by_cases ht:t < d.toList.length * 5
   ·have htc:t < cur.size:=by rw [hcs];have:l.length * 5≤c * 5:=Nat.mul_le_mul_right 5 hnc;omega
    rw [List.getElem?_take_of_lt ht]
    have e1:=fl_get d.toList (t / 5) (by omega) (t%5) (by omega)
    rw [show t / 5 * 5+t%5=t by omega] at e1
    rw [e1]
    have hsz:t < d.size * 5:=by simpa using ht
    have e2:(putCells id 0 (flatK Mem.cs 5 d) cur).toList[t]?=some (flatK Mem.cs 5 d)[t]! := by
     simp only [putCells,Array.getElem?_toList,Array.getElem?_mapIdx,Array.getElem?_eq_getElem htc,Option.map_some]
     rw [if_pos ⟨Nat.zero_le _,by rw [size_flatK];omega⟩]
     rfl
    rw [e2,get_flatK Mem.cs 5 d t hsz]
    have e3:d[t / 5]! = d.toList.getD (t / 5) dm:=by
     have hlt:t / 5 < d.size:=by omega
     simp [List.getD,hlt]
    rw [e3]
    have hl2:t%5 < (d.toList.getD (t / 5) dm).cs.length:=by rw [cs_len];omega
    rw [List.getElem?_eq_getElem hl2,getElem!_pos (d.toList.getD (t / 5) dm).cs (t%5) hl2]
   ·rw [List.getElem?_eq_none (by rw [List.length_take];omega),List.getElem?_eq_none (by rw [fl_len];omega)]
  rw [← hl];exact ho
theorem hlenM (n:Nat) (W:World) (h:n≤12):Calls Tryz.prog 158 #[.int .u64 n] W fun e w'=>(∃ l:Int,e=.returned (.int .i64 l))∧w'=W:=
 (Tryz.bits_Len n W (by omega) (by omega)).mono fun _ _ ⟨he,hw⟩=>⟨⟨_,he⟩,hw⟩
theorem below_sortK [Inhabited Mem] {B:Nat} {w:World} {g n:Nat} {d:Array Mem} {os:Array Obj} (hg:B≤g) (hB:B≤w.heap.size):Go.RowKit.Below B w (sortWorldK Mem.cs 5 w g 0 n d os):=by
 refine ⟨rfl,rfl,rfl,by simp [sortWorldK,putRowK,putRow,mapBlock,Go.Sort.ahead,grow],fun k hk=>?_⟩
 unfold sortWorldK
 rw [heap_grow_old _ _ (by simp [putRowK,putRow,mapBlock,Go.Sort.ahead];omega)]
 have:g≠k:=by omega
 simp [putRowK,putRow,mapBlock,Go.Sort.ahead,Array.getElem?_modify,this]
theorem sh_sortK [Inhabited Mem] {w:World} {g n:Nat} {d:Array Mem} {os:Array Obj}:Sh (fun k=>k=g) w (sortWorldK Mem.cs 5 w g 0 n d os):=by
 refine ⟨rfl,rfl,rfl,by simp [sortWorldK,putRowK,putRow,mapBlock,Go.Sort.ahead,grow],fun k hk hne=>?_⟩
 unfold sortWorldK
 rw [heap_grow_old _ _ (by simp [putRowK,putRow,mapBlock,Go.Sort.ahead];omega)]
 have:g≠k:=fun e=>hne e.symm
 simp [putRowK,putRow,mapBlock,Go.Sort.ahead,Array.getElem?_modify,this]
def SortM (l:List Mem):Prop:=∀ i j,i < j→j < l.length→0≤cmpI (l.getD j dm).name (l.getD i dm).name
set_option maxHeartbeats 1600000 in
theorem sortM_some (base:Nat) (l:List Mem) (g c:Nat) (w:World) (h:Own base w (.slice (some ⟨g,0,none⟩) l.length c) l) (hb:base≤w.heap.size) (hl:l.length≤12) :
 Calls Tryz.prog 113 #[.slice (some ⟨g,0,none⟩) l.length c,.func (.func 114) #[] #[]] w fun e w'=>e=.returned (.tuple #[])∧∃ l':List Mem,l'.Perm l∧SortM l'∧Own base w' (.slice (some ⟨g,0,none⟩) l.length c) l'∧Go.RowKit.Below base w w'∧Sh (fun k=>k=g) w w':=by
 have eg:∀ args w,(callFunc 114 args).run Tryz.prog w=.ok (.enter 114 args) w:=enters_of Tryz.func114 (by kernel_rfl) rfl
 have hgl:=h.lt g rfl
 have hinh:Inhabited Mem:=⟨dm⟩
 have hcon:=AnyQ.slices_SortFunc_small_sorted Tryz.sortM 5 Tryz.isAgg37 Tryz.sizeOf37 Mem.cs cs_len cs_one cfM 114 #[] swoM g 0 c l.toArray w eg (cmpLaysM g 0 _ w) (holds_own h) hgl.2 (by simpa using hl) hlenM
 rw [List.size_toArray] at hcon
 refine Calls.mono hcon ?_
 rintro e w' ⟨rfl,d,n,os,hp,hs,rfl⟩
 obtain ⟨p1,_,p3⟩:=hp
 have hsz:d.size=l.length:=by simpa using p1
 refine ⟨rfl,d.toList,?_,fun i j hij hj=>?_,own_sorted h d hsz,below_sortK hgl.1 hb,sh_sortK⟩
 ·have e1:d.extract 0 l.length=d:=by rw [← hsz];simp
  have e2:l.toArray.extract 0 l.length=l.toArray:=by simp
  rw [e1,e2] at p3
  simpa using p3
 ·have hj':j < d.size:=by simpa using hj
  have h2:=hs i j (Nat.zero_le _) hij (by rw [← hsz];exact hj')
  have h3:¬ cmpI (d[j]!).name (d[i]!).name < 0:=of_decide_eq_false h2
  have e1:d[j]! = d.toList.getD j dm:=by simp [List.getD,hj']
  have e2:d[i]! = d.toList.getD i dm:=by simp [List.getD,show i < d.size by omega]
  rw [e1,e2] at h3
  omega
set_option maxHeartbeats 800000 in
theorem insM_none (f:Value) (w:World) :
 Calls Tryz.prog 195 #[.slice none 0 0,.int .i64 0,.int .i64 0,f] w fun e w'=>e=.returned (.tuple #[])∧w'=w:=by
 go_enter Tryz.func195,Tryz.ntmps195
 go_wp2_with fail
 refine wp_loop_rounds 1 ?_
 rw [rounds_succ]
 go_wp2_with fail
 go_end0
 exact ⟨rfl,rfl⟩
set_option maxHeartbeats 1600000 in
theorem pdqM_none (k:Int) (f:Value) (w:World) :
 Calls Tryz.prog 162 #[.slice none 0 0,.int .i64 0,.int .i64 0,.int .i64 k,f] w fun e w'=>e=.returned (.tuple #[])∧w'=w:=by
 go_enter Tryz.func162,Tryz.ntmps162
 go_wp2_with fail
 refine wp_loop_rounds 1 ?_
 rw [rounds_succ]
 go_wp2_with (go_at_call 195;refine (insM_none _ _).mono ?_;rintro e w' ⟨rfl,rfl⟩)
 (try simp only [Exit.inBlock,Exit.then]);refine bodyPost_ret (results_none rfl _ _ _) rfl ?_
 exact ⟨rfl,rfl⟩
set_option maxHeartbeats 800000 in
theorem sortM_none (f:Value) (w:World) :
 Calls Tryz.prog 113 #[.slice none 0 0,f] w fun e w'=>e=.returned (.tuple #[])∧w'=w:=by
 go_enter Tryz.func113,Tryz.ntmps113
 go_wp2_with (go_at_call 158;refine (Tryz.bits_Len _ _ (by omega) (by omega)).mono ?_;rintro e w' ⟨rfl,rfl⟩)
 refine (pdqM_none _ _ _).mono ?_
 rintro e w' ⟨rfl,rfl⟩
 go_wp2_with fail
 go_end0
 exact ⟨rfl,rfl⟩
theorem sortM_any (base:Nat) (l:List Mem) (v:Value) (w:World) (h:Own base w v l) (hb:base≤w.heap.size) (hl:l.length≤12) :
 Calls Tryz.prog 113 #[v,.func (.func 114) #[] #[]] w fun e w'=>e=.returned (.tuple #[])∧∃ l':List Mem,l'.Perm l∧SortM l'∧Own base w' v l'∧Go.RowKit.Below base w w'∧Sh (fun k=>v.ownBlock=some k) w w':=by
 rcases h.2 with ⟨h1,h2⟩ | ⟨g,c,cur,h1,_⟩
 ·subst h1
  have he:l=[]:=List.eq_nil_of_length_eq_zero h2
  subst he
  refine (sortM_none _ w).mono ?_
  rintro e w' ⟨rfl,rfl⟩
  exact ⟨rfl,[],.refl _,fun i j _ hj=>by simp at hj,own_nil _ _,Go.RowKit.Below.refl _ _,Sh.refl _ _⟩
 ·subst h1
  refine (sortM_some base l g c w h hb hl).mono ?_
  rintro e w' ⟨rfl,l',h1,h2,h3,h4,h5⟩
  exact ⟨rfl,l',h1,h2,h3,h4,h5.mono (fun k hk=>by rw [hk];rfl)⟩
end Go.Proofs.YtikgjgmgbfjcgaaGreat
namespace Go.Proofs.YtikgjgmgbfjcgaaGreat
open Go.RowKit
def TakeIs (rs:List Rum) (times:Int) (told:List Mem) (rest:List Rum):Prop:=
 (rs=[]∧told=[]∧rest=[])∨(0 < rs.length∧∃ ord,IsOrd rs ord∧told=toldL rs ord (min 5 rs.length)∧rest=(bump rs ord (min 5 rs.length)).filter (keepR times))
theorem takeIs_len {rs:List Rum} {times:Int} {told:List Mem} {rest:List Rum} (h:TakeIs rs times told rest):told.length≤5:=by
 rcases h with ⟨_,rfl,_⟩ | ⟨_,ord,_,rfl,_⟩
 ·simp
 ·unfold toldL;rw [List.length_map,List.length_take];omega
theorem toldL_mem {rs:List Rum} {ord:List Nat} {k:Nat} (h:IsOrd rs ord) {m:Mem} (hm:m∈toldL rs ord k):∃ r∈rs,r.m=m:=by
 unfold toldL at hm
 obtain ⟨i,hi,rfl⟩:=List.mem_map.1 hm
 have hb:=h.bd i (List.mem_of_mem_take hi)
 refine ⟨rs[i],List.getElem_mem _,?_⟩
 simp [List.getD,List.getElem?_eq_getElem hb]
theorem bump_mem (rs:List Rum):∀ (is:List Nat) (r:Rum),r∈is.foldl bumpOne rs→(∃ x∈rs,x.m=r.m)∨r.m=dm
 | [],r,h=>.inl ⟨r,h,rfl⟩
 | i :: is,r,h=>by
   rw [List.foldl_cons] at h
   rcases bump_mem (bumpOne rs i) is r h with ⟨x,hx,e⟩ | e
   ·unfold bumpOne at hx
    rcases List.mem_or_eq_of_mem_set hx with hx | rfl
    ·exact .inl ⟨x,hx,e⟩
    ·by_cases hi:i < rs.length
     ·exact .inl ⟨rs[i],List.getElem_mem _,by rw [← e];simp [List.getD,List.getElem?_eq_getElem hi]⟩
     ·exact .inr (by rw [← e];simp [List.getD,List.getElem?_eq_none (Nat.le_of_not_lt hi),dr])
   ·exact .inr e
theorem takeIs_ok {rs:List Rum} {times:Int} {told:List Mem} {rest:List Rum} (h:TakeIs rs times told rest) (hr:∀ r∈rs,r.m.name.size≤maxLen):(∀ m∈told,m.name.size≤maxLen)∧∀ r∈rest,r.m.name.size≤maxLen:=by
 rcases h with ⟨_,rfl,rfl⟩ | ⟨_,ord,ho,rfl,rfl⟩
 ·exact ⟨fun m hm=>by simp at hm,fun m hm=>by simp at hm⟩
 ·refine ⟨fun m hm=>?_,fun r hrr=>?_⟩
  ·obtain ⟨r,h1,rfl⟩:=toldL_mem ho hm;exact hr r h1
  ·have h1:=(List.mem_filter.1 hrr).1
   rcases bump_mem rs _ r h1 with ⟨x,hx,e⟩ | e
   ·rw [← e];exact hr x hx
   ·rw [e];simp [dm]
theorem take5_any (rs:List Rum) (v:Value) (times:Int) (w:World) (hv:RSl w v rs) (h0:chkR rs=0) (ht:within times 1 100=true) :
 Calls Tryz.prog 112 #[v,.int .i64 5,.int .i64 times] w fun e w'=>∃ a k c a2 k2 c2 told rest,e=.returned (.tuple #[.slice a k c,.slice a2 k2 c2,.int .i64 0])∧Hid (TakeIs rs times told rest)∧Own w.heap.size w' (.slice a k c) told∧ROwn w.heap.size w' (.slice a2 k2 c2) rest∧Below w.heap.size w w':=by
 by_cases hp:0 < rs.length
 ·have hT:TurnsSays rs v:=turns_some rs v (rs.length - 1) (by omega) (by have:=(chkR_e0 h0).1;omega)
  refine (take_some rs v 5 times w hv h0 rfl ht hp hT).mono ?_
  rintro e w' ⟨v1,v2,ord,rfl,ho,h1,h2,hb⟩
  obtain ⟨a,c,rfl,_⟩:=own_slice h1
  obtain ⟨a2,c2,rfl,_⟩:=own_slice h2
  exact ⟨a,_,c,a2,_,c2,_,_,rfl,.inr ⟨hp,ord,ho,rfl,rfl⟩,h1,h2,hb⟩
 ·have he:rs=[]:=List.eq_nil_of_length_eq_zero (by omega)
  subst he
  refine (take_none v 5 times w hv h0 rfl ht).mono ?_
  rintro e w' ⟨v1,v2,rfl,h1,h2,hb⟩
  obtain ⟨a,c,rfl,_⟩:=own_slice h1
  obtain ⟨a2,c2,rfl,_⟩:=own_slice h2
  exact ⟨a,_,c,a2,_,c2,_,_,rfl,.inl ⟨rfl,rfl,rfl⟩,h1,h2,hb⟩
def tmN (n:Nd):Int:=max (3 * (Lib.bitLen (liveL n.ms).length:Nat)) 1
def TellIs (n:Nd) (l:List Mem) (rest:List Rum):Prop:=∃ told,TakeIs n.rs (tmN n) told rest∧l.Perm told∧SortM l
theorem live_len {ms:List Mem} (h:ms.length≤20):(liveL ms).length≤20:=by
 unfold liveL
 rw [List.length_map]
 exact Nat.le_trans (List.length_filter_le _ _) h
set_option maxHeartbeats 12800000 in
set_option maxRecDepth 100000 in
theorem Wk.pk {L b c:Nat} {W:World} {n:Nd} (h:Wk L W b n) (hc:∃ cs,W.heap[c]?=some (.cells cs 44 (0,0))) (i:Nat) (x:Value):Wk L (W.setCell ⟨c,i,none⟩ x) b n∧∃ cs,(W.setCell ⟨c,i,none⟩ x).heap[c]?=some (.cells cs 44 (0,0)):=by
 obtain ⟨cs,hc⟩:=hc
 obtain ⟨vm,vr,vs,vg,vw,h1,h2,h3,h4⟩:=h
 have hne:b≠c:=by
  intro e
  rw [e,hc] at h1
  injection h1 with h1
  injection h1 with _ h1
  exact absurd h1 (by decide)
 exact ⟨⟨vm,vr,vs,vg,vw,(Below.heap_setCell W _ x b hne).trans h1,⟨ownsRow_setCell_other h2.ms (own_block_ne h2.ms hc (by decide)) _,ownsRow_setCell_other h2.rs (own_block_ne h2.rs hc (by decide)) _,ownsRow_setCell_other h2.sv (own_block_ne h2.sv hc (by decide)) _,ownsRow_setCell_other h2.gw (own_block_ne h2.gw hc (by decide)) _,ownsRow_setCell_other h2.wh (own_block_ne h2.wh hc (by decide)) _⟩,h3,h4⟩,_,Joins.block_setCell (i:=i) hc x⟩
theorem wtell_any (L b:Nat) (n:Nd) (w:World) (h:Wk L w b n) (hL:L≤b) (hsp:Sp n) :
 Calls Tryz.prog 56 #[.pointer (some ⟨b,0,none⟩)] w fun e w'=>∃ a k c l rest,e=.returned (.agg #[.string n.name,.bool false,.slice a k c,.slice none 0 0,.slice none 0 0,.slice none 0 0])∧Hid (TellIs n l rest)∧Own (w.heap.size+1) w' (.slice a k c) l∧Sh (fun k=>k=b) w w'∧Wk L w' b { n with rs:=rest }:=by
 have HWK:Hid (Wk L w b n):=h
 have hbl:=h.lt
 have HSP:Hid (Sp n):=hsp
 obtain ⟨vm,vr,vs,vg,vw,h1,h2,h3,h4⟩:=h
 have HIS:Hid (NdIs w n vm vr vs vg vw):=h2.is h4
 obtain ⟨am,cm,hvm,_⟩:=own_slice h2.ms
 obtain ⟨ar,cr,hvr,_⟩:=own_slice h2.rs
 subst hvm hvr
 have hml:=(chk_zero hsp.ms).1
 have HLL:Hid ((liveL n.ms).length≤20):=live_len hml
 have HX:Hid (∀ W,Below w.heap.size w W→W.heap[b]?=some (.cells (ndA n (.slice am n.ms.length cm) (.slice ar n.rs.length cr) vs vg vw) 72 (0,0))):=fun W hW=>(hW.block _ hbl).trans h1
 have HOKR:Hid (∀ r∈n.rs,r.m.name.size≤maxLen):=h4.rs
 obtain ⟨W0,hW0⟩:∃ W0,W0=w.alloc (.cells #[.string ⟨#[]⟩,.bool false,.slice none 0 0,.slice none 0 0,.slice none 0 0,.slice none 0 0] 44):=⟨_,rfl⟩
 have hb0:Below w.heap.size w W0:=by rw [hW0];exact (Below.refl _ _).alloc (Nat.le_refl _) _
 have hz0:W0.heap[w.heap.size]?=some (.cells #[.string ⟨#[]⟩,.bool false,.slice none 0 0,.slice none 0 0,.slice none 0 0,.slice none 0 0] 44 (0,0)):=by rw [hW0];exact heap_alloc_new w _
 have hs0:W0.heap.size=w.heap.size+1:=by rw [hW0];simp
 have y2:W0.cell? ⟨b,2,none⟩=some (.slice am n.ms.length cm):=cellsAt (HX.out W0 hb0) 2
 have HB0:Hid (Below w.heap.size w W0):=hb0
 have HZ0:Hid (W0.heap[w.heap.size]?=some (.cells #[.string ⟨#[]⟩,.bool false,.slice none 0 0,.slice none 0 0,.slice none 0 0,.slice none 0 0] 44 (0,0))):=hz0
 clear h1 h2 h3 h4 hsp
 go_enter Tryz.func56,Tryz.ntmps56
 go_upto_region 1 with fail
 rw [← hW0]
 clear hW0
 go_wp2_with fail
 refine (live_good n.ms _ W0 (HIS.out.ms.below HB0.out) HSP.out.ms).mono ?_
 rintro e w1 ⟨v1,rfl,ho1,hb1⟩
 obtain ⟨a1,c1,hv1,_⟩:=own_slice ho1.out
 subst hv1
 have HB1:Hid (Below W0.heap.size W0 w1):=hb1
 have HBW1:Hid (Below w.heap.size w w1):=HB0.out.trans (hb1.mono (by omega))
 clear ho1 hb1 y2 hb0 hz0
 have hw20:within ((liveL n.ms).length:Int) 0 20=true:=within_iff.2 ⟨by omega,by have:=HLL.out;omega⟩
 go_wp2_with fail
 refine (times_any _ w1 hw20).mono ?_
 rintro e w2 ⟨rfl,hw2⟩
 have hw3:=hw2.symm
 subst hw3
 have y3:w1.cell? ⟨b,3,none⟩=some (.slice ar n.rs.length cr):=cellsAt (HX.out w1 HBW1.out) 3
 go_wp2_with fail
 have htm:within (tmN n) 1 100=true:=by
  have hbl:∀ m,m < 21→Lib.bitLen m≤5:=by decide
  have h1:=hbl (liveL n.ms).length (by have:=HLL.out;omega)
  refine within_iff.2 ⟨?_,?_⟩<;>(unfold tmN;omega)
 refine (take5_any n.rs _ (tmN n) w1 (HIS.out.rs.below HBW1.out) HSP.out.rs htm).mono ?_
 rintro e w3 ⟨a3,k3,c3,a4,k4,c4,told,rest,rfl,HT,ho3,ho4,hb3⟩
 have HO3:Hid (Own w1.heap.size w3 (.slice a3 k3 c3) told):=ho3
 have HO4:Hid (ROwn w1.heap.size w3 (.slice a4 k4 c4) rest):=ho4
 have HB3:Hid (Below w1.heap.size w1 w3):=hb3
 have hs13:w1.heap.size≤w3.heap.size:=hb3.size
 clear ho3 ho4 hb3 y3
 go_wp2_with fail
 refine (sortM_any w1.heap.size told _ w3 HO3.out hs13 (by have:=takeIs_len HT.out;omega)).mono ?_
 rintro e w4 ⟨rfl,l,hp,hs,ho5,hb5,hsh5⟩
 have HO5:Hid (Own w1.heap.size w4 (.slice a3 k3 c3) l):=ho5
 have HTL:Hid (TellIs n l rest):=⟨told,HT.out,hp,hs⟩
 have HB5:Hid (Below w1.heap.size w1 w4):=HB3.out.trans hb5
 have HBW5:Hid (Below w.heap.size w w4):=HBW1.out.trans (HB5.out.mono HBW1.out.size)
 have HO6:Hid (ROwn w1.heap.size w4 (.slice a4 k4 c4) rest):=by
  rcases HO4.out.2 with hq | ⟨g,c,cur,e1,e2,e3,e4⟩
  ·exact ⟨HO4.out.1,.inl hq⟩
  ·refine ⟨HO4.out.1,.inr ⟨g,c,cur,e1,e2,(hsh5.block g (Array.getElem?_eq_some_iff.1 e3).1 (fun e=>?_)).trans e3,e4⟩⟩
   exact own_block_ne HO3.out e3 (by decide) e
 have hL2:L≤w.heap.size:=by omega
 have hs1:w.heap.size+1≤w1.heap.size:=by have:=HB1.out.size;omega
 have hz4:w4.heap[w.heap.size]?=_:=(HB5.out.block _ (by omega)).trans ((HB1.out.block _ (by omega)).trans HZ0.out)
 have HZ4:Hid (w4.heap[w.heap.size]?=some (.cells #[.string ⟨#[]⟩,.bool false,.slice none 0 0,.slice none 0 0,.slice none 0 0,.slice none 0 0] 44 (0,0))):=hz4
 have hx4:=HX.out w4 HBW5.out
 have x0:w4.cell? ⟨b,0,none⟩=some (.string n.name):=cellsAt hx4 0
 have x3:w4.cell? ⟨b,3,none⟩=_:=cellsAt hx4 3
 have xz3:w4.frozen? ⟨b,3,none⟩=false:=frozen_of hx4 3
 have hbs:b < w4.heap.size:=by have:=HBW5.out.size;omega
 have hne:b≠w.heap.size:=by omega
 have hne':w.heap.size≠b:=by omega
 have hlt4:w.heap.size < w4.heap.size:=by have:=HB5.out.size;omega
 have q0:w4.cell? ⟨w.heap.size,0,none⟩=_:=cellsAt hz4 0
 have qz0:w4.frozen? ⟨w.heap.size,0,none⟩=false:=frozen_of hz4 0
 have q1:w4.cell? ⟨w.heap.size,1,none⟩=_:=cellsAt hz4 1
 have qz1:w4.frozen? ⟨w.heap.size,1,none⟩=false:=frozen_of hz4 1
 have q2:w4.cell? ⟨w.heap.size,2,none⟩=_:=cellsAt hz4 2
 have qz2:w4.frozen? ⟨w.heap.size,2,none⟩=false:=frozen_of hz4 2
 have q3:w4.cell? ⟨w.heap.size,3,none⟩=_:=cellsAt hz4 3
 have qz3:w4.frozen? ⟨w.heap.size,3,none⟩=false:=frozen_of hz4 3
 have q4:w4.cell? ⟨w.heap.size,4,none⟩=_:=cellsAt hz4 4
 have qz4:w4.frozen? ⟨w.heap.size,4,none⟩=false:=frozen_of hz4 4
 have q5:w4.cell? ⟨w.heap.size,5,none⟩=_:=cellsAt hz4 5
 have qz5:w4.frozen? ⟨w.heap.size,5,none⟩=false:=frozen_of hz4 5
 clear hz4 hx4 ho5 hb5 hsh5 hp hs
 go_wp2_with fail
 refine bodyPost_ret (v:=.agg #[.string n.name,.bool false,.slice a3 k3 c3,.slice none 0 0,.slice none 0 0,.slice none 0 0]) ?_ rfl ?_
 ·simp [results,Tryz.results56,go_sem,q0,q1,q2,q3,q4,q5]
 ·have k0:=HWK.out.set_rs hL2 HBW5.out (v:=.slice a4 k4 c4) (l:=rest) (HO6.out.base (by omega)) (takeIs_ok HT.out HOKR.out).2
  have z0:∃ cs,(w4.setCell ⟨b,3,none⟩ (.slice a4 k4 c4)).heap[w.heap.size]?=some (.cells cs 44 (0,0)):=⟨_,(Below.heap_setCell w4 _ _ w.heap.size hne').trans HZ4.out⟩
  obtain ⟨k1,z1⟩:=k0.pk z0 0 (.string n.name)
  obtain ⟨k2,z2⟩:=k1.pk z1 1 (.bool false)
  obtain ⟨k3',z3⟩:=k2.pk z2 2 (.slice a3 k3 c3)
  obtain ⟨k4',z4⟩:=k3'.pk z3 3 (.slice none 0 0)
  obtain ⟨k5,z5⟩:=k4'.pk z4 4 (.slice none 0 0)
  obtain ⟨k6,z6⟩:=k5.pk z5 5 (.slice none 0 0)
  have hb6:Below w.heap.size (w4.setCell ⟨b,3,none⟩ (.slice a4 k4 c4)) _:=(((((((Below.refl w.heap.size (w4.setCell ⟨b,3,none⟩ (.slice a4 k4 c4))).setCell (p:=⟨w.heap.size,0,none⟩) (by simp) (.string n.name)).setCell (p:=⟨w.heap.size,1,none⟩) (by simp) (.bool false)).setCell (p:=⟨w.heap.size,2,none⟩) (by simp) (.slice a3 k3 c3)).setCell (p:=⟨w.heap.size,3,none⟩) (by simp) (.slice none 0 0)).setCell (p:=⟨w.heap.size,4,none⟩) (by simp) (.slice none 0 0)).setCell (p:=⟨w.heap.size,5,none⟩) (by simp) (.slice none 0 0))
  have s0:Sh (fun k=>k=b) w (w4.setCell ⟨b,3,none⟩ (.slice a4 k4 c4)):=Sh.setCell (S:=fun k=>k=b) (Sh.of HBW5.out) (b:=b) (i:=3) rfl _
  refine ⟨a3,k3,c3,l,rest,rfl,HTL,?_,⟨hb6.os.trans s0.os,hb6.tape.trans s0.tape,hb6.output.trans s0.output,Nat.le_trans s0.size hb6.size,fun i hi hn=>(hb6.block i hi).trans (s0.block i hi hn)⟩,k6⟩
  exact (ownsRow_setCell_below (ownsRow_setCell_below (ownsRow_setCell_below (ownsRow_setCell_below (ownsRow_setCell_below (ownsRow_setCell_below (ownsRow_setCell_below (HO5.out.mono hs1) (a:=⟨b,3,none⟩) (by simp only;omega) _) (a:=⟨w.heap.size,0,none⟩) (by simp only;omega) _) (a:=⟨w.heap.size,1,none⟩) (by simp only;omega) _) (a:=⟨w.heap.size,2,none⟩) (by simp only;omega) _) (a:=⟨w.heap.size,3,none⟩) (by simp only;omega) _) (a:=⟨w.heap.size,4,none⟩) (by simp only;omega) _) (a:=⟨w.heap.size,5,none⟩) (by simp only;omega) _)
end Go.Proofs.YtikgjgmgbfjcgaaGreat
