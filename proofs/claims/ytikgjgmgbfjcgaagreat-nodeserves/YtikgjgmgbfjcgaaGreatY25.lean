import Derived.Test.YtikgjgmgbfjcgaaGreatY24
import Derived.Test.YtikgjgmgbfjcgaaGreatY8
import Derived.Test.YtikgjgmgbfjcgaaGreatY6
import Derived.Test.YtikgjgmgbfjcgaaGreatY4
import Derived.Lib.SmallJoins
import Derived.Below
import Derived.OneCell
namespace Go.Proofs.YtikgjgmgbfjcgaaGreat
open Go.RowKit
structure NdOwn (B:Nat) (w:World) (n:Nd) (vm vr vs vg vw:Value):Prop where
 ms:Own B w vm n.ms
 rs:ROwn B w vr n.rs
 sv:Sv.Own B w vs n.sv
 gw:Gw.Own B w vg n.gw
 wh:Wh.Own B w vw n.wh
theorem own_slice {base n k:Nat} {T:TypeId} {w:World} {v:Value} {xs:List Value} (h:w.ownsRow base T k v n xs):∃ a c,v=.slice a n c∧n≤c:=by
 rcases h.2 with ⟨h1,h2⟩ | ⟨g,c,cur,h1,_,_,hn,_⟩
 ·subst h2;exact ⟨none,0,h1,Nat.le_refl _⟩
 ·exact ⟨_,c,h1,hn⟩
theorem NdOwn.below {B:Nat} {w w':World} {n:Nd} {vm vr vs vg vw:Value} (h:NdOwn B w n vm vr vs vg vw) (hb:Below w.heap.size w w'):NdOwn B w' n vm vr vs vg vw:=⟨h.ms.below hb,h.rs.below hb,h.sv.below hb,h.gw.below hb,h.wh.below hb⟩
structure NdOk (n:Nd):Prop where
 ms:∀ m∈n.ms,m.name.size≤maxLen
 rs:∀ r∈n.rs,r.m.name.size≤maxLen
 sv:∀ m∈n.sv,m.ok
 gw:∀ m∈n.gw,m.ok
 wh:∀ m∈n.wh,m.ok
 name:n.name.size≤maxLen
 centre:n.centre.size≤maxLen
theorem NdIs.ok {w:World} {n:Nd} {vm vr vs vg vw:Value} (h:NdIs w n vm vr vs vg vw):NdOk n:=by
 obtain ⟨⟨_,_,_,h1,_⟩,⟨_,_,_,h2,_⟩,⟨_,_,_,h3,_⟩,⟨_,_,_,h4,_⟩,⟨_,_,_,h5,_⟩,h6,h7⟩:=h
 exact ⟨ns_mem h1,rns_mem h2,Sv.ns_mem h3,Gw.ns_mem h4,Wh.ns_mem h5,h6,h7⟩
theorem NdOwn.is {B:Nat} {w:World} {n:Nd} {vm vr vs vg vw:Value} (h:NdOwn B w n vm vr vs vg vw) (hk:NdOk n):NdIs w n vm vr vs vg vw:=
 ⟨h.ms.sl (ns_get hk.ms),h.rs.sl (rns_get hk.rs),h.sv.sl (Sv.ns_get hk.sv),h.gw.sl (Gw.ns_get hk.gw),h.wh.sl (Wh.ns_get hk.wh),hk.name,hk.centre⟩
set_option maxHeartbeats 12800000 in
set_option maxRecDepth 100000 in
theorem fresh_any (n:Nd) (vm vr vs vg vw:Value) (w:World) (h:NdIs w n vm vr vs vg vw) (l1:n.ms.length≤1000) (l2:n.rs.length≤1000) (l3:n.sv.length≤1000) (l4:n.gw.length≤1000) (l5:n.wh.length≤1000) :
 Calls Tryz.prog 57 #[.agg (ndA n vm vr vs vg vw)] w fun e w'=>∃ um ur us ug uw,e=.returned (.agg (ndA n um ur us ug uw))∧NdOwn w.heap.size w' n um ur us ug uw∧Below w.heap.size w w':=by
 obtain ⟨nm,ct,ms,rs,sv,gw,⟨px,py,pz,ph,pq⟩,wh⟩:=n
 obtain ⟨hm,hr,hs,hgw,hh,_,_⟩:=h
 simp only at hm hr hs hgw hh l1 l2 l3 l4 l5
 have Hm:Hid (∀ W,Below w.heap.size w W→Calls Tryz.prog 116 #[vm] W fun e w'=>∃ v',e=.returned v'∧Own W.heap.size w' v' ms∧Below W.heap.size W w'):=fun W hW=>clone_any ms vm W (hm.below hW) l1
 have Hr:Hid (∀ W,Below w.heap.size w W→Calls Tryz.prog 117 #[vr] W fun e w'=>∃ v',e=.returned v'∧ROwn W.heap.size w' v' rs∧Below W.heap.size W w'):=fun W hW=>rclone_any rs vr W (hr.below hW) l2
 have Hs:Hid (∀ W,Below w.heap.size w W→Calls Tryz.prog 118 #[vs] W fun e w'=>∃ v',e=.returned v'∧Sv.Own W.heap.size w' v' sv∧Below W.heap.size W w'):=fun W hW=>Sv.clone_any sv vs W (hs.below hW) l3
 have Hg:Hid (∀ W,Below w.heap.size w W→Calls Tryz.prog 119 #[vg] W fun e w'=>∃ v',e=.returned v'∧Gw.Own W.heap.size w' v' gw∧Below W.heap.size W w'):=fun W hW=>Gw.clone_any gw vg W (hgw.below hW) l4
 have Hh:Hid (∀ W,Below w.heap.size w W→Calls Tryz.prog 120 #[vw] W fun e w'=>∃ v',e=.returned v'∧Wh.Own W.heap.size w' v' wh∧Below W.heap.size W w'):=fun W hW=>Wh.clone_any wh vw W (hh.below hW) l5
 obtain ⟨em,cm,rfl,_,_⟩:=hm
 obtain ⟨er,cr,rfl,_,_⟩:=hr
 obtain ⟨es,cs,rfl,_,_⟩:=hs
 obtain ⟨eg,cg,rfl,_,_⟩:=hgw
 obtain ⟨eh,ch,rfl,_,_⟩:=hh
 generalize hNm:ms.length=km at *
 have HNm:Hid (ms.length=km):=hNm
 clear hNm
 generalize hNr:rs.length=kr at *
 have HNr:Hid (rs.length=kr):=hNr
 clear hNr
 generalize hNs:sv.length=ks at *
 have HNs:Hid (sv.length=ks):=hNs
 clear hNs
 generalize hNg:gw.length=kg at *
 have HNg:Hid (gw.length=kg):=hNg
 clear hNg
 generalize hNh:wh.length=kh at *
 have HNh:Hid (wh.length=kh):=hNh
 clear hNh
 simp only [ndA]
 obtain ⟨W0,hW0⟩:∃ W0,W0=(w.alloc (.cells #[.string nm,.string ct,.slice em km cm,.slice er kr cr,.slice es ks cs,.slice eg kg cg,.int .i64 px,.int .i64 py,.int .i64 pz,.int .i64 ph,.int .i64 pq,.slice eh kh ch] 30)).alloc (.cells #[.string ⟨#[]⟩,.string ⟨#[]⟩,.slice none 0 0,.slice none 0 0,.slice none 0 0,.slice none 0 0,.int .i64 0,.int .i64 0,.int .i64 0,.int .i64 0,.int .i64 0,.slice none 0 0] 30):=⟨_,rfl⟩
 have hb0:Below w.heap.size w W0:=by rw [hW0];exact ((Below.refl _ _).alloc (Nat.le_refl _) _).alloc (by simp) _
 have hg0:W0.heap[w.heap.size]?=some (.cells #[.string nm,.string ct,.slice em km cm,.slice er kr cr,.slice es ks cs,.slice eg kg cg,.int .i64 px,.int .i64 py,.int .i64 pz,.int .i64 ph,.int .i64 pq,.slice eh kh ch] 30 (0,0)):=by
  rw [hW0,Below.heap_alloc _ _ _ (by simp)];exact heap_alloc_new w _
 have hz0:W0.heap[w.heap.size+1]?=some (.cells #[.string ⟨#[]⟩,.string ⟨#[]⟩,.slice none 0 0,.slice none 0 0,.slice none 0 0,.slice none 0 0,.int .i64 0,.int .i64 0,.int .i64 0,.int .i64 0,.int .i64 0,.slice none 0 0] 30 (0,0)):=by
  have h:=heap_alloc_new (w.alloc (.cells #[.string nm,.string ct,.slice em km cm,.slice er kr cr,.slice es ks cs,.slice eg kg cg,.int .i64 px,.int .i64 py,.int .i64 pz,.int .i64 ph,.int .i64 pq,.slice eh kh ch] 30)) (.cells #[.string ⟨#[]⟩,.string ⟨#[]⟩,.slice none 0 0,.slice none 0 0,.slice none 0 0,.slice none 0 0,.int .i64 0,.int .i64 0,.int .i64 0,.int .i64 0,.int .i64 0,.slice none 0 0] 30)
  rw [hW0];simpa using h
 have hs0:w.heap.size+1 < W0.heap.size:=by rw [hW0];simp
 have HB0:Hid (Below w.heap.size w W0):=hb0
 have HG0:Hid (W0.heap[w.heap.size]?=some (.cells #[.string nm,.string ct,.slice em km cm,.slice er kr cr,.slice es ks cs,.slice eg kg cg,.int .i64 px,.int .i64 py,.int .i64 pz,.int .i64 ph,.int .i64 pq,.slice eh kh ch] 30 (0,0))):=hg0
 have HZ0:Hid (W0.heap[w.heap.size+1]?=some (.cells #[.string ⟨#[]⟩,.string ⟨#[]⟩,.slice none 0 0,.slice none 0 0,.slice none 0 0,.slice none 0 0,.int .i64 0,.int .i64 0,.int .i64 0,.int .i64 0,.int .i64 0,.slice none 0 0] 30 (0,0))):=hz0
 clear hb0 hg0 hz0
 go_enter Tryz.func57,Tryz.ntmps57
 go_wp2_with fail
 rw [← hW0]
 clear hW0
 refine (Hm.out W0 HB0.out).mono ?_
 rintro e X1 ⟨v',rfl,ho,hx⟩
 obtain ⟨bm,dm',hv',_⟩:=own_slice ho
 rw [HNm.out] at hv'
 subst hv'
 have hgx:X1.heap[w.heap.size]?=some (.cells #[.string nm,.string ct,.slice em km cm,.slice er kr cr,.slice es ks cs,.slice eg kg cg,.int .i64 px,.int .i64 py,.int .i64 pz,.int .i64 ph,.int .i64 pq,.slice eh kh ch] 30 (0,0)):=(hx.block _ (by omega)).trans HG0.out
 have y0:X1.cell? ⟨w.heap.size,0,none⟩=_:=cellsAt hgx 0
 have y1:X1.cell? ⟨w.heap.size,1,none⟩=_:=cellsAt hgx 1
 have y2:X1.cell? ⟨w.heap.size,2,none⟩=_:=cellsAt hgx 2
 have y3:X1.cell? ⟨w.heap.size,3,none⟩=_:=cellsAt hgx 3
 have y4:X1.cell? ⟨w.heap.size,4,none⟩=_:=cellsAt hgx 4
 have y5:X1.cell? ⟨w.heap.size,5,none⟩=_:=cellsAt hgx 5
 have y6:X1.cell? ⟨w.heap.size,6,none⟩=_:=cellsAt hgx 6
 have y7:X1.cell? ⟨w.heap.size,7,none⟩=_:=cellsAt hgx 7
 have y8:X1.cell? ⟨w.heap.size,8,none⟩=_:=cellsAt hgx 8
 have y9:X1.cell? ⟨w.heap.size,9,none⟩=_:=cellsAt hgx 9
 have y10:X1.cell? ⟨w.heap.size,10,none⟩=_:=cellsAt hgx 10
 have y11:X1.cell? ⟨w.heap.size,11,none⟩=_:=cellsAt hgx 11
 have z2:X1.frozen? ⟨w.heap.size,2,none⟩=false:=by simp [World.frozen?,hgx]
 have hsx:w.heap.size < X1.heap.size:=by have:=hx.size;omega
 obtain ⟨W1,hW1⟩:∃ W1,W1=X1.setCell ⟨w.heap.size,2,none⟩ (.slice bm km dm'):=⟨_,rfl⟩
 have HG1:Hid (W1.heap[w.heap.size]?=some (.cells #[.string nm,.string ct,.slice bm km dm',.slice er kr cr,.slice es ks cs,.slice eg kg cg,.int .i64 px,.int .i64 py,.int .i64 pz,.int .i64 ph,.int .i64 pq,.slice eh kh ch] 30 (0,0))):=by rw [hW1];exact Joins.block_setCell (i:=2) hgx _
 have HZ1:Hid (W1.heap[w.heap.size+1]?=some (.cells #[.string ⟨#[]⟩,.string ⟨#[]⟩,.slice none 0 0,.slice none 0 0,.slice none 0 0,.slice none 0 0,.int .i64 0,.int .i64 0,.int .i64 0,.int .i64 0,.int .i64 0,.slice none 0 0] 30 (0,0))):=by rw [hW1];exact (Below.heap_setCell _ _ _ _ (by simp)).trans ((hx.block _ (by omega)).trans HZ0.out)
 have HOm1:Hid (Own (w.heap.size+2) W1 (.slice bm km dm') ms):=by rw [hW1];exact ownsRow_setCell_below (ho.mono (by omega)) (by simp) _
 have HB1:Hid (Below w.heap.size w W1):=by rw [hW1];exact (HB0.out.trans (hx.mono HB0.out.size)).setCell (p:=⟨w.heap.size,2,none⟩) (by simp) _
 have hs1:w.heap.size+1 < W1.heap.size:=(Array.getElem?_eq_some_iff.1 HZ1.out).1
 clear ho hx hgx hs0
 go_wp2_with fail
 rw [← hW1]
 clear hW1 y0 y1 y2 y3 y4 y5 y6 y7 y8 y9 y10 y11 z2 hsx
 refine (Hr.out W1 HB1.out).mono ?_
 rintro e X2 ⟨v',rfl,ho,hx⟩
 obtain ⟨br,dr',hv',_⟩:=own_slice ho
 rw [HNr.out] at hv'
 subst hv'
 have hgx:X2.heap[w.heap.size]?=some (.cells #[.string nm,.string ct,.slice bm km dm',.slice er kr cr,.slice es ks cs,.slice eg kg cg,.int .i64 px,.int .i64 py,.int .i64 pz,.int .i64 ph,.int .i64 pq,.slice eh kh ch] 30 (0,0)):=(hx.block _ (by omega)).trans HG1.out
 have y0:X2.cell? ⟨w.heap.size,0,none⟩=_:=cellsAt hgx 0
 have y1:X2.cell? ⟨w.heap.size,1,none⟩=_:=cellsAt hgx 1
 have y2:X2.cell? ⟨w.heap.size,2,none⟩=_:=cellsAt hgx 2
 have y3:X2.cell? ⟨w.heap.size,3,none⟩=_:=cellsAt hgx 3
 have y4:X2.cell? ⟨w.heap.size,4,none⟩=_:=cellsAt hgx 4
 have y5:X2.cell? ⟨w.heap.size,5,none⟩=_:=cellsAt hgx 5
 have y6:X2.cell? ⟨w.heap.size,6,none⟩=_:=cellsAt hgx 6
 have y7:X2.cell? ⟨w.heap.size,7,none⟩=_:=cellsAt hgx 7
 have y8:X2.cell? ⟨w.heap.size,8,none⟩=_:=cellsAt hgx 8
 have y9:X2.cell? ⟨w.heap.size,9,none⟩=_:=cellsAt hgx 9
 have y10:X2.cell? ⟨w.heap.size,10,none⟩=_:=cellsAt hgx 10
 have y11:X2.cell? ⟨w.heap.size,11,none⟩=_:=cellsAt hgx 11
 have z3:X2.frozen? ⟨w.heap.size,3,none⟩=false:=by simp [World.frozen?,hgx]
 have hsx:w.heap.size < X2.heap.size:=by have:=hx.size;omega
 obtain ⟨W2,hW2⟩:∃ W2,W2=X2.setCell ⟨w.heap.size,3,none⟩ (.slice br kr dr'):=⟨_,rfl⟩
 have HG2:Hid (W2.heap[w.heap.size]?=some (.cells #[.string nm,.string ct,.slice bm km dm',.slice br kr dr',.slice es ks cs,.slice eg kg cg,.int .i64 px,.int .i64 py,.int .i64 pz,.int .i64 ph,.int .i64 pq,.slice eh kh ch] 30 (0,0))):=by rw [hW2];exact Joins.block_setCell (i:=3) hgx _
 have HZ2:Hid (W2.heap[w.heap.size+1]?=some (.cells #[.string ⟨#[]⟩,.string ⟨#[]⟩,.slice none 0 0,.slice none 0 0,.slice none 0 0,.slice none 0 0,.int .i64 0,.int .i64 0,.int .i64 0,.int .i64 0,.int .i64 0,.slice none 0 0] 30 (0,0))):=by rw [hW2];exact (Below.heap_setCell _ _ _ _ (by simp)).trans ((hx.block _ (by omega)).trans HZ1.out)
 have HOr2:Hid (ROwn (w.heap.size+2) W2 (.slice br kr dr') rs):=by rw [hW2];exact ownsRow_setCell_below (ho.base (by omega)) (by simp) _
 have HOm2:Hid (Own (w.heap.size+2) W2 (.slice bm km dm') ms):=by rw [hW2];exact ownsRow_setCell_below (HOm1.out.below hx) (by simp) _
 have HB2:Hid (Below w.heap.size w W2):=by rw [hW2];exact (HB1.out.trans (hx.mono HB1.out.size)).setCell (p:=⟨w.heap.size,3,none⟩) (by simp) _
 have hs2:w.heap.size+1 < W2.heap.size:=(Array.getElem?_eq_some_iff.1 HZ2.out).1
 clear ho hx hgx hs1
 go_wp2_with fail
 rw [← hW2]
 clear hW2 y0 y1 y2 y3 y4 y5 y6 y7 y8 y9 y10 y11 z3 hsx
 refine (Hs.out W2 HB2.out).mono ?_
 rintro e X3 ⟨v',rfl,ho,hx⟩
 obtain ⟨bs,ds',hv',_⟩:=own_slice ho
 rw [HNs.out] at hv'
 subst hv'
 have hgx:X3.heap[w.heap.size]?=some (.cells #[.string nm,.string ct,.slice bm km dm',.slice br kr dr',.slice es ks cs,.slice eg kg cg,.int .i64 px,.int .i64 py,.int .i64 pz,.int .i64 ph,.int .i64 pq,.slice eh kh ch] 30 (0,0)):=(hx.block _ (by omega)).trans HG2.out
 have y0:X3.cell? ⟨w.heap.size,0,none⟩=_:=cellsAt hgx 0
 have y1:X3.cell? ⟨w.heap.size,1,none⟩=_:=cellsAt hgx 1
 have y2:X3.cell? ⟨w.heap.size,2,none⟩=_:=cellsAt hgx 2
 have y3:X3.cell? ⟨w.heap.size,3,none⟩=_:=cellsAt hgx 3
 have y4:X3.cell? ⟨w.heap.size,4,none⟩=_:=cellsAt hgx 4
 have y5:X3.cell? ⟨w.heap.size,5,none⟩=_:=cellsAt hgx 5
 have y6:X3.cell? ⟨w.heap.size,6,none⟩=_:=cellsAt hgx 6
 have y7:X3.cell? ⟨w.heap.size,7,none⟩=_:=cellsAt hgx 7
 have y8:X3.cell? ⟨w.heap.size,8,none⟩=_:=cellsAt hgx 8
 have y9:X3.cell? ⟨w.heap.size,9,none⟩=_:=cellsAt hgx 9
 have y10:X3.cell? ⟨w.heap.size,10,none⟩=_:=cellsAt hgx 10
 have y11:X3.cell? ⟨w.heap.size,11,none⟩=_:=cellsAt hgx 11
 have z4:X3.frozen? ⟨w.heap.size,4,none⟩=false:=by simp [World.frozen?,hgx]
 have hsx:w.heap.size < X3.heap.size:=by have:=hx.size;omega
 obtain ⟨W3,hW3⟩:∃ W3,W3=X3.setCell ⟨w.heap.size,4,none⟩ (.slice bs ks ds'):=⟨_,rfl⟩
 have HG3:Hid (W3.heap[w.heap.size]?=some (.cells #[.string nm,.string ct,.slice bm km dm',.slice br kr dr',.slice bs ks ds',.slice eg kg cg,.int .i64 px,.int .i64 py,.int .i64 pz,.int .i64 ph,.int .i64 pq,.slice eh kh ch] 30 (0,0))):=by rw [hW3];exact Joins.block_setCell (i:=4) hgx _
 have HZ3:Hid (W3.heap[w.heap.size+1]?=some (.cells #[.string ⟨#[]⟩,.string ⟨#[]⟩,.slice none 0 0,.slice none 0 0,.slice none 0 0,.slice none 0 0,.int .i64 0,.int .i64 0,.int .i64 0,.int .i64 0,.int .i64 0,.slice none 0 0] 30 (0,0))):=by rw [hW3];exact (Below.heap_setCell _ _ _ _ (by simp)).trans ((hx.block _ (by omega)).trans HZ2.out)
 have HOs3:Hid (Sv.Own (w.heap.size+2) W3 (.slice bs ks ds') sv):=by rw [hW3];exact ownsRow_setCell_below (ho.mono (by omega)) (by simp) _
 have HOm3:Hid (Own (w.heap.size+2) W3 (.slice bm km dm') ms):=by rw [hW3];exact ownsRow_setCell_below (HOm2.out.below hx) (by simp) _
 have HOr3:Hid (ROwn (w.heap.size+2) W3 (.slice br kr dr') rs):=by rw [hW3];exact ownsRow_setCell_below (HOr2.out.below hx) (by simp) _
 have HB3:Hid (Below w.heap.size w W3):=by rw [hW3];exact (HB2.out.trans (hx.mono HB2.out.size)).setCell (p:=⟨w.heap.size,4,none⟩) (by simp) _
 have hs3:w.heap.size+1 < W3.heap.size:=(Array.getElem?_eq_some_iff.1 HZ3.out).1
 clear ho hx hgx hs2
 go_wp2_with fail
 rw [← hW3]
 clear hW3 y0 y1 y2 y3 y4 y5 y6 y7 y8 y9 y10 y11 z4 hsx
 refine (Hg.out W3 HB3.out).mono ?_
 rintro e X4 ⟨v',rfl,ho,hx⟩
 obtain ⟨bg,dg',hv',_⟩:=own_slice ho
 rw [HNg.out] at hv'
 subst hv'
 have hgx:X4.heap[w.heap.size]?=some (.cells #[.string nm,.string ct,.slice bm km dm',.slice br kr dr',.slice bs ks ds',.slice eg kg cg,.int .i64 px,.int .i64 py,.int .i64 pz,.int .i64 ph,.int .i64 pq,.slice eh kh ch] 30 (0,0)):=(hx.block _ (by omega)).trans HG3.out
 have y0:X4.cell? ⟨w.heap.size,0,none⟩=_:=cellsAt hgx 0
 have y1:X4.cell? ⟨w.heap.size,1,none⟩=_:=cellsAt hgx 1
 have y2:X4.cell? ⟨w.heap.size,2,none⟩=_:=cellsAt hgx 2
 have y3:X4.cell? ⟨w.heap.size,3,none⟩=_:=cellsAt hgx 3
 have y4:X4.cell? ⟨w.heap.size,4,none⟩=_:=cellsAt hgx 4
 have y5:X4.cell? ⟨w.heap.size,5,none⟩=_:=cellsAt hgx 5
 have y6:X4.cell? ⟨w.heap.size,6,none⟩=_:=cellsAt hgx 6
 have y7:X4.cell? ⟨w.heap.size,7,none⟩=_:=cellsAt hgx 7
 have y8:X4.cell? ⟨w.heap.size,8,none⟩=_:=cellsAt hgx 8
 have y9:X4.cell? ⟨w.heap.size,9,none⟩=_:=cellsAt hgx 9
 have y10:X4.cell? ⟨w.heap.size,10,none⟩=_:=cellsAt hgx 10
 have y11:X4.cell? ⟨w.heap.size,11,none⟩=_:=cellsAt hgx 11
 have z5:X4.frozen? ⟨w.heap.size,5,none⟩=false:=by simp [World.frozen?,hgx]
 have hsx:w.heap.size < X4.heap.size:=by have:=hx.size;omega
 obtain ⟨W4,hW4⟩:∃ W4,W4=X4.setCell ⟨w.heap.size,5,none⟩ (.slice bg kg dg'):=⟨_,rfl⟩
 have HG4:Hid (W4.heap[w.heap.size]?=some (.cells #[.string nm,.string ct,.slice bm km dm',.slice br kr dr',.slice bs ks ds',.slice bg kg dg',.int .i64 px,.int .i64 py,.int .i64 pz,.int .i64 ph,.int .i64 pq,.slice eh kh ch] 30 (0,0))):=by rw [hW4];exact Joins.block_setCell (i:=5) hgx _
 have HZ4:Hid (W4.heap[w.heap.size+1]?=some (.cells #[.string ⟨#[]⟩,.string ⟨#[]⟩,.slice none 0 0,.slice none 0 0,.slice none 0 0,.slice none 0 0,.int .i64 0,.int .i64 0,.int .i64 0,.int .i64 0,.int .i64 0,.slice none 0 0] 30 (0,0))):=by rw [hW4];exact (Below.heap_setCell _ _ _ _ (by simp)).trans ((hx.block _ (by omega)).trans HZ3.out)
 have HOg4:Hid (Gw.Own (w.heap.size+2) W4 (.slice bg kg dg') gw):=by rw [hW4];exact ownsRow_setCell_below (ho.mono (by omega)) (by simp) _
 have HOm4:Hid (Own (w.heap.size+2) W4 (.slice bm km dm') ms):=by rw [hW4];exact ownsRow_setCell_below (HOm3.out.below hx) (by simp) _
 have HOr4:Hid (ROwn (w.heap.size+2) W4 (.slice br kr dr') rs):=by rw [hW4];exact ownsRow_setCell_below (HOr3.out.below hx) (by simp) _
 have HOs4:Hid (Sv.Own (w.heap.size+2) W4 (.slice bs ks ds') sv):=by rw [hW4];exact ownsRow_setCell_below (HOs3.out.below hx) (by simp) _
 have HB4:Hid (Below w.heap.size w W4):=by rw [hW4];exact (HB3.out.trans (hx.mono HB3.out.size)).setCell (p:=⟨w.heap.size,5,none⟩) (by simp) _
 have hs4:w.heap.size+1 < W4.heap.size:=(Array.getElem?_eq_some_iff.1 HZ4.out).1
 clear ho hx hgx hs3
 go_wp2_with fail
 rw [← hW4]
 clear hW4 y0 y1 y2 y3 y4 y5 y6 y7 y8 y9 y10 y11 z5 hsx
 refine (Hh.out W4 HB4.out).mono ?_
 rintro e X5 ⟨v',rfl,ho,hx⟩
 obtain ⟨bh,dh',hv',_⟩:=own_slice ho
 rw [HNh.out] at hv'
 subst hv'
 have hgx:X5.heap[w.heap.size]?=some (.cells #[.string nm,.string ct,.slice bm km dm',.slice br kr dr',.slice bs ks ds',.slice bg kg dg',.int .i64 px,.int .i64 py,.int .i64 pz,.int .i64 ph,.int .i64 pq,.slice eh kh ch] 30 (0,0)):=(hx.block _ (by omega)).trans HG4.out
 have y0:X5.cell? ⟨w.heap.size,0,none⟩=_:=cellsAt hgx 0
 have y1:X5.cell? ⟨w.heap.size,1,none⟩=_:=cellsAt hgx 1
 have y2:X5.cell? ⟨w.heap.size,2,none⟩=_:=cellsAt hgx 2
 have y3:X5.cell? ⟨w.heap.size,3,none⟩=_:=cellsAt hgx 3
 have y4:X5.cell? ⟨w.heap.size,4,none⟩=_:=cellsAt hgx 4
 have y5:X5.cell? ⟨w.heap.size,5,none⟩=_:=cellsAt hgx 5
 have y6:X5.cell? ⟨w.heap.size,6,none⟩=_:=cellsAt hgx 6
 have y7:X5.cell? ⟨w.heap.size,7,none⟩=_:=cellsAt hgx 7
 have y8:X5.cell? ⟨w.heap.size,8,none⟩=_:=cellsAt hgx 8
 have y9:X5.cell? ⟨w.heap.size,9,none⟩=_:=cellsAt hgx 9
 have y10:X5.cell? ⟨w.heap.size,10,none⟩=_:=cellsAt hgx 10
 have y11:X5.cell? ⟨w.heap.size,11,none⟩=_:=cellsAt hgx 11
 have z11:X5.frozen? ⟨w.heap.size,11,none⟩=false:=by simp [World.frozen?,hgx]
 have hsx:w.heap.size < X5.heap.size:=by have:=hx.size;omega
 obtain ⟨W5,hW5⟩:∃ W5,W5=X5.setCell ⟨w.heap.size,11,none⟩ (.slice bh kh dh'):=⟨_,rfl⟩
 have HG5:Hid (W5.heap[w.heap.size]?=some (.cells #[.string nm,.string ct,.slice bm km dm',.slice br kr dr',.slice bs ks ds',.slice bg kg dg',.int .i64 px,.int .i64 py,.int .i64 pz,.int .i64 ph,.int .i64 pq,.slice bh kh dh'] 30 (0,0))):=by rw [hW5];exact Joins.block_setCell (i:=11) hgx _
 have HZ5:Hid (W5.heap[w.heap.size+1]?=some (.cells #[.string ⟨#[]⟩,.string ⟨#[]⟩,.slice none 0 0,.slice none 0 0,.slice none 0 0,.slice none 0 0,.int .i64 0,.int .i64 0,.int .i64 0,.int .i64 0,.int .i64 0,.slice none 0 0] 30 (0,0))):=by rw [hW5];exact (Below.heap_setCell _ _ _ _ (by simp)).trans ((hx.block _ (by omega)).trans HZ4.out)
 have HOh5:Hid (Wh.Own (w.heap.size+2) W5 (.slice bh kh dh') wh):=by rw [hW5];exact ownsRow_setCell_below (ho.mono (by omega)) (by simp) _
 have HOm5:Hid (Own (w.heap.size+2) W5 (.slice bm km dm') ms):=by rw [hW5];exact ownsRow_setCell_below (HOm4.out.below hx) (by simp) _
 have HOr5:Hid (ROwn (w.heap.size+2) W5 (.slice br kr dr') rs):=by rw [hW5];exact ownsRow_setCell_below (HOr4.out.below hx) (by simp) _
 have HOs5:Hid (Sv.Own (w.heap.size+2) W5 (.slice bs ks ds') sv):=by rw [hW5];exact ownsRow_setCell_below (HOs4.out.below hx) (by simp) _
 have HOg5:Hid (Gw.Own (w.heap.size+2) W5 (.slice bg kg dg') gw):=by rw [hW5];exact ownsRow_setCell_below (HOg4.out.below hx) (by simp) _
 have HB5:Hid (Below w.heap.size w W5):=by rw [hW5];exact (HB4.out.trans (hx.mono HB4.out.size)).setCell (p:=⟨w.heap.size,11,none⟩) (by simp) _
 have hs5:w.heap.size+1 < W5.heap.size:=(Array.getElem?_eq_some_iff.1 HZ5.out).1
 have hz5:=HZ5.out
 have q0:W5.cell? ⟨w.heap.size+1,0,none⟩=_:=cellsAt hz5 0
 have p0:W5.cell? ⟨w.heap.size,0,none⟩=_:=cellsAt HG5.out 0
 have zz0:W5.frozen? ⟨w.heap.size+1,0,none⟩=false:=by simp [World.frozen?,hz5]
 have q1:W5.cell? ⟨w.heap.size+1,1,none⟩=_:=cellsAt hz5 1
 have p1:W5.cell? ⟨w.heap.size,1,none⟩=_:=cellsAt HG5.out 1
 have zz1:W5.frozen? ⟨w.heap.size+1,1,none⟩=false:=by simp [World.frozen?,hz5]
 have q2:W5.cell? ⟨w.heap.size+1,2,none⟩=_:=cellsAt hz5 2
 have p2:W5.cell? ⟨w.heap.size,2,none⟩=_:=cellsAt HG5.out 2
 have zz2:W5.frozen? ⟨w.heap.size+1,2,none⟩=false:=by simp [World.frozen?,hz5]
 have q3:W5.cell? ⟨w.heap.size+1,3,none⟩=_:=cellsAt hz5 3
 have p3:W5.cell? ⟨w.heap.size,3,none⟩=_:=cellsAt HG5.out 3
 have zz3:W5.frozen? ⟨w.heap.size+1,3,none⟩=false:=by simp [World.frozen?,hz5]
 have q4:W5.cell? ⟨w.heap.size+1,4,none⟩=_:=cellsAt hz5 4
 have p4:W5.cell? ⟨w.heap.size,4,none⟩=_:=cellsAt HG5.out 4
 have zz4:W5.frozen? ⟨w.heap.size+1,4,none⟩=false:=by simp [World.frozen?,hz5]
 have q5:W5.cell? ⟨w.heap.size+1,5,none⟩=_:=cellsAt hz5 5
 have p5:W5.cell? ⟨w.heap.size,5,none⟩=_:=cellsAt HG5.out 5
 have zz5:W5.frozen? ⟨w.heap.size+1,5,none⟩=false:=by simp [World.frozen?,hz5]
 have q6:W5.cell? ⟨w.heap.size+1,6,none⟩=_:=cellsAt hz5 6
 have p6:W5.cell? ⟨w.heap.size,6,none⟩=_:=cellsAt HG5.out 6
 have zz6:W5.frozen? ⟨w.heap.size+1,6,none⟩=false:=by simp [World.frozen?,hz5]
 have q7:W5.cell? ⟨w.heap.size+1,7,none⟩=_:=cellsAt hz5 7
 have p7:W5.cell? ⟨w.heap.size,7,none⟩=_:=cellsAt HG5.out 7
 have zz7:W5.frozen? ⟨w.heap.size+1,7,none⟩=false:=by simp [World.frozen?,hz5]
 have q8:W5.cell? ⟨w.heap.size+1,8,none⟩=_:=cellsAt hz5 8
 have p8:W5.cell? ⟨w.heap.size,8,none⟩=_:=cellsAt HG5.out 8
 have zz8:W5.frozen? ⟨w.heap.size+1,8,none⟩=false:=by simp [World.frozen?,hz5]
 have q9:W5.cell? ⟨w.heap.size+1,9,none⟩=_:=cellsAt hz5 9
 have p9:W5.cell? ⟨w.heap.size,9,none⟩=_:=cellsAt HG5.out 9
 have zz9:W5.frozen? ⟨w.heap.size+1,9,none⟩=false:=by simp [World.frozen?,hz5]
 have q10:W5.cell? ⟨w.heap.size+1,10,none⟩=_:=cellsAt hz5 10
 have p10:W5.cell? ⟨w.heap.size,10,none⟩=_:=cellsAt HG5.out 10
 have zz10:W5.frozen? ⟨w.heap.size+1,10,none⟩=false:=by simp [World.frozen?,hz5]
 have q11:W5.cell? ⟨w.heap.size+1,11,none⟩=_:=cellsAt hz5 11
 have p11:W5.cell? ⟨w.heap.size,11,none⟩=_:=cellsAt HG5.out 11
 have zz11:W5.frozen? ⟨w.heap.size+1,11,none⟩=false:=by simp [World.frozen?,hz5]
 clear ho hx hgx hs4 hz5
 go_upto_region 6 with fail
 rw [← hW5]
 clear hW5 y0 y1 y2 y3 y4 y5 y6 y7 y8 y9 y10 y11 z11 hsx
 go_wp2_with fail
 refine bodyPost_ret (v:=.agg #[.string nm,.string ct,.slice bm km dm',.slice br kr dr',.slice bs ks ds',.slice bg kg dg',.int .i64 px,.int .i64 py,.int .i64 pz,.int .i64 ph,.int .i64 pq,.slice bh kh dh']) ?_ rfl ⟨.slice bm km dm',.slice br kr dr',.slice bs ks ds',.slice bg kg dg',.slice bh kh dh',rfl,⟨?_,?_,?_,?_,?_⟩,?_⟩
 ·simp [results,Tryz.results57,go_sem,q0,q1,q2,q3,q4,q5,q6,q7,q8,q9,q10,q11]
 ·exact Own.mono (ownsRow_setCell_below (ownsRow_setCell_below (ownsRow_setCell_below (ownsRow_setCell_below (ownsRow_setCell_below (ownsRow_setCell_below (ownsRow_setCell_below (ownsRow_setCell_below (ownsRow_setCell_below (ownsRow_setCell_below (ownsRow_setCell_below (ownsRow_setCell_below (HOm5.out) (a:=⟨w.heap.size+1,0,none⟩) (by simp) _) (a:=⟨w.heap.size+1,1,none⟩) (by simp) _) (a:=⟨w.heap.size+1,2,none⟩) (by simp) _) (a:=⟨w.heap.size+1,3,none⟩) (by simp) _) (a:=⟨w.heap.size+1,4,none⟩) (by simp) _) (a:=⟨w.heap.size+1,5,none⟩) (by simp) _) (a:=⟨w.heap.size+1,6,none⟩) (by simp) _) (a:=⟨w.heap.size+1,7,none⟩) (by simp) _) (a:=⟨w.heap.size+1,8,none⟩) (by simp) _) (a:=⟨w.heap.size+1,9,none⟩) (by simp) _) (a:=⟨w.heap.size+1,10,none⟩) (by simp) _) (a:=⟨w.heap.size+1,11,none⟩) (by simp) _) (by omega)
 ·exact ROwn.base (ownsRow_setCell_below (ownsRow_setCell_below (ownsRow_setCell_below (ownsRow_setCell_below (ownsRow_setCell_below (ownsRow_setCell_below (ownsRow_setCell_below (ownsRow_setCell_below (ownsRow_setCell_below (ownsRow_setCell_below (ownsRow_setCell_below (ownsRow_setCell_below (HOr5.out) (a:=⟨w.heap.size+1,0,none⟩) (by simp) _) (a:=⟨w.heap.size+1,1,none⟩) (by simp) _) (a:=⟨w.heap.size+1,2,none⟩) (by simp) _) (a:=⟨w.heap.size+1,3,none⟩) (by simp) _) (a:=⟨w.heap.size+1,4,none⟩) (by simp) _) (a:=⟨w.heap.size+1,5,none⟩) (by simp) _) (a:=⟨w.heap.size+1,6,none⟩) (by simp) _) (a:=⟨w.heap.size+1,7,none⟩) (by simp) _) (a:=⟨w.heap.size+1,8,none⟩) (by simp) _) (a:=⟨w.heap.size+1,9,none⟩) (by simp) _) (a:=⟨w.heap.size+1,10,none⟩) (by simp) _) (a:=⟨w.heap.size+1,11,none⟩) (by simp) _) (by omega)
 ·exact Sv.Own.mono (ownsRow_setCell_below (ownsRow_setCell_below (ownsRow_setCell_below (ownsRow_setCell_below (ownsRow_setCell_below (ownsRow_setCell_below (ownsRow_setCell_below (ownsRow_setCell_below (ownsRow_setCell_below (ownsRow_setCell_below (ownsRow_setCell_below (ownsRow_setCell_below (HOs5.out) (a:=⟨w.heap.size+1,0,none⟩) (by simp) _) (a:=⟨w.heap.size+1,1,none⟩) (by simp) _) (a:=⟨w.heap.size+1,2,none⟩) (by simp) _) (a:=⟨w.heap.size+1,3,none⟩) (by simp) _) (a:=⟨w.heap.size+1,4,none⟩) (by simp) _) (a:=⟨w.heap.size+1,5,none⟩) (by simp) _) (a:=⟨w.heap.size+1,6,none⟩) (by simp) _) (a:=⟨w.heap.size+1,7,none⟩) (by simp) _) (a:=⟨w.heap.size+1,8,none⟩) (by simp) _) (a:=⟨w.heap.size+1,9,none⟩) (by simp) _) (a:=⟨w.heap.size+1,10,none⟩) (by simp) _) (a:=⟨w.heap.size+1,11,none⟩) (by simp) _) (by omega)
 ·exact Gw.Own.mono (ownsRow_setCell_below (ownsRow_setCell_below (ownsRow_setCell_below (ownsRow_setCell_below (ownsRow_setCell_below (ownsRow_setCell_below (ownsRow_setCell_below (ownsRow_setCell_below (ownsRow_setCell_below (ownsRow_setCell_below (ownsRow_setCell_below (ownsRow_setCell_below (HOg5.out) (a:=⟨w.heap.size+1,0,none⟩) (by simp) _) (a:=⟨w.heap.size+1,1,none⟩) (by simp) _) (a:=⟨w.heap.size+1,2,none⟩) (by simp) _) (a:=⟨w.heap.size+1,3,none⟩) (by simp) _) (a:=⟨w.heap.size+1,4,none⟩) (by simp) _) (a:=⟨w.heap.size+1,5,none⟩) (by simp) _) (a:=⟨w.heap.size+1,6,none⟩) (by simp) _) (a:=⟨w.heap.size+1,7,none⟩) (by simp) _) (a:=⟨w.heap.size+1,8,none⟩) (by simp) _) (a:=⟨w.heap.size+1,9,none⟩) (by simp) _) (a:=⟨w.heap.size+1,10,none⟩) (by simp) _) (a:=⟨w.heap.size+1,11,none⟩) (by simp) _) (by omega)
 ·exact Wh.Own.mono (ownsRow_setCell_below (ownsRow_setCell_below (ownsRow_setCell_below (ownsRow_setCell_below (ownsRow_setCell_below (ownsRow_setCell_below (ownsRow_setCell_below (ownsRow_setCell_below (ownsRow_setCell_below (ownsRow_setCell_below (ownsRow_setCell_below (ownsRow_setCell_below (HOh5.out) (a:=⟨w.heap.size+1,0,none⟩) (by simp) _) (a:=⟨w.heap.size+1,1,none⟩) (by simp) _) (a:=⟨w.heap.size+1,2,none⟩) (by simp) _) (a:=⟨w.heap.size+1,3,none⟩) (by simp) _) (a:=⟨w.heap.size+1,4,none⟩) (by simp) _) (a:=⟨w.heap.size+1,5,none⟩) (by simp) _) (a:=⟨w.heap.size+1,6,none⟩) (by simp) _) (a:=⟨w.heap.size+1,7,none⟩) (by simp) _) (a:=⟨w.heap.size+1,8,none⟩) (by simp) _) (a:=⟨w.heap.size+1,9,none⟩) (by simp) _) (a:=⟨w.heap.size+1,10,none⟩) (by simp) _) (a:=⟨w.heap.size+1,11,none⟩) (by simp) _) (by omega)
 ·exact ((((((((((((HB5.out).setCell (p:=⟨w.heap.size+1,0,none⟩) (by simp) _).setCell (p:=⟨w.heap.size+1,1,none⟩) (by simp) _).setCell (p:=⟨w.heap.size+1,2,none⟩) (by simp) _).setCell (p:=⟨w.heap.size+1,3,none⟩) (by simp) _).setCell (p:=⟨w.heap.size+1,4,none⟩) (by simp) _).setCell (p:=⟨w.heap.size+1,5,none⟩) (by simp) _).setCell (p:=⟨w.heap.size+1,6,none⟩) (by simp) _).setCell (p:=⟨w.heap.size+1,7,none⟩) (by simp) _).setCell (p:=⟨w.heap.size+1,8,none⟩) (by simp) _).setCell (p:=⟨w.heap.size+1,9,none⟩) (by simp) _).setCell (p:=⟨w.heap.size+1,10,none⟩) (by simp) _).setCell (p:=⟨w.heap.size+1,11,none⟩) (by simp) _
structure Sh (S:Nat→Prop) (w w':World):Prop where
 os:w'.os=w.os
 tape:w'.tape=w.tape
 output:w'.output=w.output
 size:w.heap.size≤w'.heap.size
 block:∀ k,k < w.heap.size→¬ S k→w'.heap[k]?=w.heap[k]?
theorem Sh.refl (S:Nat→Prop) (w:World):Sh S w w:=⟨rfl,rfl,rfl,Nat.le_refl _,fun _ _ _=>rfl⟩
theorem Sh.trans {S:Nat→Prop} {a b c:World} (h:Sh S a b) (k:Sh S b c):Sh S a c:=⟨k.os.trans h.os,k.tape.trans h.tape,k.output.trans h.output,Nat.le_trans h.size k.size,fun i hi hn=>(k.block i (Nat.lt_of_lt_of_le hi h.size) hn).trans (h.block i hi hn)⟩
theorem Sh.of {S:Nat→Prop} {w w':World} (h:Below w.heap.size w w'):Sh S w w':=⟨h.os,h.tape,h.output,h.size,fun k hk _=>h.block k hk⟩
theorem Sh.next {S:Nat→Prop} {a w w':World} (h:Sh S a w) (k:Below w.heap.size w w'):Sh S a w':=h.trans (.of k)
theorem Sh.alloc {S:Nat→Prop} {a w:World} (h:Sh S a w) (o:Obj):Sh S a (w.alloc o):=h.next ((Below.refl _ _).alloc (Nat.le_refl _) _)
theorem Sh.drew {S:Nat→Prop} {a w:World} (h:Sh S a w):Sh S a w.drew:=⟨h.os,h.tape,h.output,h.size,h.block⟩
theorem Sh.setCell {S:Nat→Prop} {a w:World} (h:Sh S a w) {b i:Nat} (hb:S b) (x:Value):Sh S a (w.setCell ⟨b,i,none⟩ x):=
 h.trans ⟨rfl,rfl,rfl,by simp [World.setCell],fun k _ hn=>Below.heap_setCell w _ x k (fun e=>hn (by simp only at e;rw [e];exact hb))⟩
theorem Sh.below {S:Nat→Prop} {w w':World} {B:Nat} (h:Sh S w w') (hB:B≤w.heap.size) (hS:∀ k,S k→B≤k):Below B w w':=⟨h.os,h.tape,h.output,h.size,fun k hk=>h.block k (by omega) (fun e=>by have:=hS k e;omega)⟩
theorem Sh.mono {S T:Nat→Prop} {w w':World} (h:Sh S w w') (hS:∀ k,S k→T k):Sh T w w':=⟨h.os,h.tape,h.output,h.size,fun k hk hn=>h.block k hk (fun e=>hn (hS k e))⟩
theorem frozen_of {w:World} {b:Nat} {cs:Array Value} {T:TypeId} (h:w.heap[b]?=some (.cells cs T (0,0))) (o:Nat):w.frozen? ⟨b,o,none⟩=false:=by simp [World.frozen?,h]
def Wk (L:Nat) (w:World) (b:Nat) (n:Nd):Prop:=∃ vm vr vs vg vw,w.heap[b]?=some (.cells (ndA n vm vr vs vg vw) 72 (0,0))∧NdOwn L w n vm vr vs vg vw ∧
 (vm.ownBlock≠some b∧vr.ownBlock≠some b∧vs.ownBlock≠some b∧vg.ownBlock≠some b∧vw.ownBlock≠some b)∧NdOk n
theorem Wk.below {L b:Nat} {w w':World} {n:Nd} (h:Wk L w b n) (hb:Below w.heap.size w w'):Wk L w' b n:=by
 obtain ⟨vm,vr,vs,vg,vw,h1,h2,h3,h4⟩:=h
 exact ⟨vm,vr,vs,vg,vw,(hb.block _ (Array.getElem?_eq_some_iff.1 h1).1).trans h1,h2.below hb,h3,h4⟩
theorem Wk.lt {L b:Nat} {w:World} {n:Nd} (h:Wk L w b n):b < w.heap.size:=by
 obtain ⟨vm,vr,vs,vg,vw,h1,_⟩:=h
 exact (Array.getElem?_eq_some_iff.1 h1).1
theorem Wk.set_ms {L b:Nat} {W w1:World} {n:Nd} (h:Wk L W b n) (hL:L≤W.heap.size) (hb:Below W.heap.size W w1) {v:Value} {l:List Mem} (ho:Own W.heap.size w1 v l) (hl:(∀ m∈l,m.name.size≤maxLen)):Wk L (w1.setCell ⟨b,2,none⟩ v) b { n with ms:=l }:=by
 obtain ⟨vm,vr,vs,vg,vw,h1,h2,h3,h4⟩:=h
 have hbl:b < W.heap.size:=(Array.getElem?_eq_some_iff.1 h1).1
 refine ⟨v,vr,vs,vg,vw,?_,⟨ownsRow_setCell_other (ho.mono hL) (fun e=>by have:=ho.lt b e;omega) _,ownsRow_setCell_other (h2.rs.below hb) h3.2.1 _,ownsRow_setCell_other (h2.sv.below hb) h3.2.2.1 _,ownsRow_setCell_other (h2.gw.below hb) h3.2.2.2.1 _,ownsRow_setCell_other (h2.wh.below hb) h3.2.2.2.2 _⟩,⟨fun e=>by have:=ho.lt b e;omega,h3.2.1,h3.2.2.1,h3.2.2.2.1,h3.2.2.2.2⟩,⟨hl,h4.rs,h4.sv,h4.gw,h4.wh,h4.name,h4.centre⟩⟩
 exact Joins.block_setCell (i:=2) ((hb.block _ hbl).trans h1) v
theorem Wk.set_rs {L b:Nat} {W w1:World} {n:Nd} (h:Wk L W b n) (hL:L≤W.heap.size) (hb:Below W.heap.size W w1) {v:Value} {l:List Rum} (ho:ROwn W.heap.size w1 v l) (hl:(∀ r∈l,r.m.name.size≤maxLen)):Wk L (w1.setCell ⟨b,3,none⟩ v) b { n with rs:=l }:=by
 obtain ⟨vm,vr,vs,vg,vw,h1,h2,h3,h4⟩:=h
 have hbl:b < W.heap.size:=(Array.getElem?_eq_some_iff.1 h1).1
 refine ⟨vm,v,vs,vg,vw,?_,⟨ownsRow_setCell_other (h2.ms.below hb) h3.1 _,ownsRow_setCell_other (ho.base hL) (fun e=>by have:=ho.lt b e;omega) _,ownsRow_setCell_other (h2.sv.below hb) h3.2.2.1 _,ownsRow_setCell_other (h2.gw.below hb) h3.2.2.2.1 _,ownsRow_setCell_other (h2.wh.below hb) h3.2.2.2.2 _⟩,⟨h3.1,fun e=>by have:=ho.lt b e;omega,h3.2.2.1,h3.2.2.2.1,h3.2.2.2.2⟩,⟨h4.ms,hl,h4.sv,h4.gw,h4.wh,h4.name,h4.centre⟩⟩
 exact Joins.block_setCell (i:=3) ((hb.block _ hbl).trans h1) v
theorem Wk.set_sv {L b:Nat} {W w1:World} {n:Nd} (h:Wk L W b n) (hL:L≤W.heap.size) (hb:Below W.heap.size W w1) {v:Value} {l:List Sv.Svc} (ho:Sv.Own W.heap.size w1 v l) (hl:(∀ m∈l,m.ok)):Wk L (w1.setCell ⟨b,4,none⟩ v) b { n with sv:=l }:=by
 obtain ⟨vm,vr,vs,vg,vw,h1,h2,h3,h4⟩:=h
 have hbl:b < W.heap.size:=(Array.getElem?_eq_some_iff.1 h1).1
 refine ⟨vm,vr,v,vg,vw,?_,⟨ownsRow_setCell_other (h2.ms.below hb) h3.1 _,ownsRow_setCell_other (h2.rs.below hb) h3.2.1 _,ownsRow_setCell_other (ho.mono hL) (fun e=>by have:=ho.lt b e;omega) _,ownsRow_setCell_other (h2.gw.below hb) h3.2.2.2.1 _,ownsRow_setCell_other (h2.wh.below hb) h3.2.2.2.2 _⟩,⟨h3.1,h3.2.1,fun e=>by have:=ho.lt b e;omega,h3.2.2.2.1,h3.2.2.2.2⟩,⟨h4.ms,h4.rs,hl,h4.gw,h4.wh,h4.name,h4.centre⟩⟩
 exact Joins.block_setCell (i:=4) ((hb.block _ hbl).trans h1) v
theorem Wk.set_gw {L b:Nat} {W w1:World} {n:Nd} (h:Wk L W b n) (hL:L≤W.heap.size) (hb:Below W.heap.size W w1) {v:Value} {l:List Gw.Gwy} (ho:Gw.Own W.heap.size w1 v l) (hl:(∀ m∈l,m.ok)):Wk L (w1.setCell ⟨b,5,none⟩ v) b { n with gw:=l }:=by
 obtain ⟨vm,vr,vs,vg,vw,h1,h2,h3,h4⟩:=h
 have hbl:b < W.heap.size:=(Array.getElem?_eq_some_iff.1 h1).1
 refine ⟨vm,vr,vs,v,vw,?_,⟨ownsRow_setCell_other (h2.ms.below hb) h3.1 _,ownsRow_setCell_other (h2.rs.below hb) h3.2.1 _,ownsRow_setCell_other (h2.sv.below hb) h3.2.2.1 _,ownsRow_setCell_other (ho.mono hL) (fun e=>by have:=ho.lt b e;omega) _,ownsRow_setCell_other (h2.wh.below hb) h3.2.2.2.2 _⟩,⟨h3.1,h3.2.1,h3.2.2.1,fun e=>by have:=ho.lt b e;omega,h3.2.2.2.2⟩,⟨h4.ms,h4.rs,h4.sv,hl,h4.wh,h4.name,h4.centre⟩⟩
 exact Joins.block_setCell (i:=5) ((hb.block _ hbl).trans h1) v
def setAll (b:Nat):List Value→Nat→World→World
 | [],_,w=>w
 | x :: r,j,w=>setAll b r (j+1) (w.setCell ⟨b,j,none⟩ x)
theorem setAll_below {B b:Nat} (hb:B≤b):∀ (L:List Value) (j:Nat) {a w:World},Below B a w→Below B a (setAll b L j w)
 | [],_,_,_,h=>h
 | _ :: r,j,_,_,h=>setAll_below hb r (j+1) (h.setCell (p:=⟨b,j,none⟩) hb _)
theorem setAll_owns {base b n k:Nat} {T:TypeId} {v:Value} {xs:List Value} (hb:b < base):∀ (L:List Value) (j:Nat) {w:World},w.ownsRow base T k v n xs→(setAll b L j w).ownsRow base T k v n xs
 | [],_,_,h=>h
 | _ :: r,j,_,h=>setAll_owns hb r (j+1) (ownsRow_setCell_below h hb _)
theorem setAll_other {b c:Nat} (hc:c≠b):∀ (L:List Value) (j:Nat) (w:World),(setAll b L j w).heap[c]?=w.heap[c]?
 | [],_,_=>rfl
 | _ :: r,j,_=>(setAll_other hc r (j+1) _).trans (Below.heap_setCell _ _ _ _ hc)
theorem setAll_size (b:Nat):∀ (L:List Value) (j:Nat) (w:World),(setAll b L j w).heap.size=w.heap.size
 | [],_,_=>rfl
 | _ :: r,j,_=>(setAll_size b r (j+1) _).trans (by simp [World.setCell])
theorem setAll_sh {S:Nat→Prop} {b:Nat} (hb:S b):∀ (L:List Value) (j:Nat) {a w:World},Sh S a w→Sh S a (setAll b L j w)
 | [],_,_,_,h=>h
 | _ :: r,j,_,_,h=>setAll_sh hb r (j+1) (h.setCell hb _)
theorem owns_below {base n k:Nat} {T:TypeId} {w w':World} {v:Value} {xs:List Value} (h:w.ownsRow base T k v n xs) (hb:Below w.heap.size w w'):w'.ownsRow base T k v n xs:=by
 rcases h.2 with ⟨rfl,h0⟩ | ⟨g,c,cur,rfl,hbg,hg,hnc,hcm,hcs,htake⟩
 ·exact ⟨h.1,.inl ⟨rfl,h0⟩⟩
 ·have hlt:g < w.heap.size:=(Array.getElem?_eq_some_iff.1 hg).1
  exact ⟨h.1,.inr ⟨g,c,cur,rfl,hbg,(hb.block g hlt).trans hg,hnc,hcm,hcs,htake⟩⟩
theorem drew_heap (w:World):w.drew.heap=w.heap:=rfl
theorem drew_owns {base n k:Nat} {T:TypeId} {w:World} {v:Value} {xs:List Value} (h:w.ownsRow base T k v n xs):w.drew.ownsRow base T k v n xs:=h
theorem drew_below {B:Nat} {a w:World} (h:Below B a w):Below B a w.drew:=⟨h.os,h.tape,h.output,h.size,h.block⟩
theorem setAll_block {b:Nat} {T:TypeId} {f:Nat × Nat}:∀ (L pre suf:List Value) {w:World},w.heap[b]?=some (.cells (pre++suf).toArray T f)→suf.length=L.length→(setAll b L pre.length w).heap[b]?=some (.cells (pre++L).toArray T f)
 | [],pre,suf,w,h,hl=>by
   have:suf=[]:=List.eq_nil_of_length_eq_zero (by simpa using hl)
   subst this;exact h
 | x :: r,pre,[],w,h,hl=>absurd hl (by simp)
 | x :: r,pre,y :: s,w,h,hl=>by
   have h1:=Joins.block_setCell (i:=pre.length) h x
   rw [List.setIfInBounds_toArray,show (pre++y :: s).set pre.length x=(pre++[x])++s by simp] at h1
   have h2:=setAll_block r (pre++[x]) s h1 (by simpa using hl)
   rw [show (pre++[x]).length=pre.length+1 by simp,show (pre++[x])++r=pre++x :: r by simp] at h2
   exact h2
theorem setAll12 {b:Nat} {w:World} {T:TypeId} {f:Nat × Nat} {c0 c1 c2 c3 c4 c5 c6 c7 c8 c9 c10 c11:Value} (h:w.heap[b]?=some (.cells #[c0,c1,c2,c3,c4,c5,c6,c7,c8,c9,c10,c11] T f)) (x0 x1 x2 x3 x4 x5 x6 x7 x8 x9 x10 x11:Value):(setAll b [x0,x1,x2,x3,x4,x5,x6,x7,x8,x9,x10,x11] 0 w).heap[b]?=some (.cells #[x0,x1,x2,x3,x4,x5,x6,x7,x8,x9,x10,x11] T f):=setAll_block [x0,x1,x2,x3,x4,x5,x6,x7,x8,x9,x10,x11] [] [c0,c1,c2,c3,c4,c5,c6,c7,c8,c9,c10,c11] h rfl
theorem setAll6 {b:Nat} {w:World} {T:TypeId} {f:Nat × Nat} {c0 c1 c2 c3 c4 c5:Value} (h:w.heap[b]?=some (.cells #[c0,c1,c2,c3,c4,c5] T f)) (x0 x1 x2 x3 x4 x5:Value):(setAll b [x0,x1,x2,x3,x4,x5] 0 w).heap[b]?=some (.cells #[x0,x1,x2,x3,x4,x5] T f):=setAll_block [x0,x1,x2,x3,x4,x5] [] [c0,c1,c2,c3,c4,c5] h rfl
end Go.Proofs.YtikgjgmgbfjcgaaGreat
