import Derived.Test.YtffdoiokmiklgaaGreatDoorW30
import Derived.OneCell
import Derived.Test.YtffdoiokmiklgaaGreatDoorW8
namespace Go.Proofs.YtffdoiokmiklgaaGreatDoor
open Go.RowKit
structure Sh (S:Nat→Prop) (w w':World):Prop where
 os:w'.os=w.os
 tape:w'.tape=w.tape
 output:w'.output=w.output
 size:w.heap.size≤w'.heap.size
 block:∀ k,k < w.heap.size→¬ S k→w'.heap[k]?=w.heap[k]?
theorem Sh.refl (S:Nat→Prop) (w:World):Sh S w w:=⟨rfl,rfl,rfl,Nat.le_refl _,fun _ _ _=>rfl⟩
theorem Sh.trans {S:Nat→Prop} {a b c:World} (h:Sh S a b) (k:Sh S b c):Sh S a c:=⟨k.os.trans h.os,k.tape.trans h.tape,k.output.trans h.output,Nat.le_trans h.size k.size,fun i hi hn=>(k.block i (Nat.lt_of_lt_of_le hi h.size) hn).trans (h.block i hi hn)⟩
theorem Sh.of {S:Nat→Prop} {w w':World} (h:Below w.heap.size w w'):Sh S w w':=⟨h.os,h.tape,h.output,h.size,fun k hk _=>h.block k hk⟩
theorem Sh.next {S:Nat→Prop} {a w w':World} (h:Sh S a w) (k:Below w.heap.size w w'):Sh S a w':=h.trans (.of k)
theorem Sh.alloc {S:Nat→Prop} {a w:World} (h:Sh S a w) (o:Obj):Sh S a (w.alloc o):=h.next ((Below.refl _ _).alloc (Nat.le_refl _) _)
theorem Sh.drew {S:Nat→Prop} {a w:World} (h:Sh S a w):Sh S a w.drew:=⟨h.os,h.tape,h.output,h.size,h.block⟩
theorem Sh.setCell {S:Nat→Prop} {a w:World} (h:Sh S a w) {b i:Nat} (hb:S b) (x:Value):Sh S a (w.setCell ⟨b,i,none⟩ x):=
 h.trans ⟨rfl,rfl,rfl,by simp [World.setCell],fun k _ hn=>Below.heap_setCell w _ x k (fun e=>hn (by simp only at e;rw [e];exact hb))⟩
theorem Sh.below {S:Nat→Prop} {w w':World} {B:Nat} (h:Sh S w w') (hB:B≤w.heap.size) (hS:∀ k,S k→B≤k):Below B w w':=⟨h.os,h.tape,h.output,h.size,fun k hk=>h.block k (by omega) (fun e=>by have:=hS k e;omega)⟩
theorem Sh.mono {S T:Nat→Prop} {w w':World} (h:Sh S w w') (hS:∀ k,S k→T k):Sh T w w':=⟨h.os,h.tape,h.output,h.size,fun k hk hn=>h.block k hk (fun e=>hn (hS k e))⟩
theorem frozen_of {w:World} {b:Nat} {cs:Array Value} {T:TypeId} (h:w.heap[b]?=some (.cells cs T (0,0))) (o:Nat):w.frozen? ⟨b,o,none⟩=false:=by simp [World.frozen?,h]
def Wk (L:Nat) (w:World) (b:Nat) (n:Nd):Prop:=∃ vm vr vs vg vw,w.heap[b]?=some (.cells (ndA n vm vr vs vg vw) 133 (0,0))∧NdOwn L w n vm vr vs vg vw ∧
 (vm.ownBlock≠some b∧vr.ownBlock≠some b∧vs.ownBlock≠some b∧vg.ownBlock≠some b∧vw.ownBlock≠some b)∧NdOk n
theorem Wk.below {L b:Nat} {w w':World} {n:Nd} (h:Wk L w b n) (hb:Below w.heap.size w w'):Wk L w' b n:=by
 obtain ⟨vm,vr,vs,vg,vw,h1,h2,h3,h4⟩:=h
 exact ⟨vm,vr,vs,vg,vw,(hb.block _ (Array.getElem?_eq_some_iff.1 h1).1).trans h1,h2.below hb,h3,h4⟩
theorem Wk.lt {L b:Nat} {w:World} {n:Nd} (h:Wk L w b n):b < w.heap.size:=by
 obtain ⟨vm,vr,vs,vg,vw,h1,_⟩:=h
 exact (Array.getElem?_eq_some_iff.1 h1).1
theorem Wk.set_ms {L b:Nat} {W w1:World} {n:Nd} (h:Wk L W b n) (hL:L≤W.heap.size) (hb:Below W.heap.size W w1) {v:Value} {l:List Mem} (ho:Own W.heap.size w1 v l) (hl:(∀ m∈l,m.name.size≤maxLen)):Wk L (w1.setCell ⟨b,2,none⟩ v) b { n with ms:=l }:=by
 obtain ⟨vm,vr,vs,vg,vw,h1,h2,h3,h4⟩:=h
 have hbl:b < W.heap.size:=(Array.getElem?_eq_some_iff.1 h1).1
 refine ⟨v,vr,vs,vg,vw,?_,⟨ownsRow_setCell_other (ho.mono hL) (fun e=>by have:=ho.lt b e;omega) _,ownsRow_setCell_other (h2.rs.below hb) h3.2.1 _,ownsRow_setCell_other (h2.sv.below hb) h3.2.2.1 _,ownsRow_setCell_other (h2.gw.below hb) h3.2.2.2.1 _,ownsRow_setCell_other (h2.wh.below hb) h3.2.2.2.2 _⟩,⟨fun e=>by have:=ho.lt b e;omega,h3.2.1,h3.2.2.1,h3.2.2.2.1,h3.2.2.2.2⟩,⟨hl,h4.rs,h4.sv,h4.gw,h4.wh,h4.name,h4.centre⟩⟩
 exact Joins.block_setCell (i:=2) ((hb.block _ hbl).trans h1) v
theorem Wk.set_rs {L b:Nat} {W w1:World} {n:Nd} (h:Wk L W b n) (hL:L≤W.heap.size) (hb:Below W.heap.size W w1) {v:Value} {l:List Rum} (ho:ROwn W.heap.size w1 v l) (hl:(∀ r∈l,r.m.name.size≤maxLen)):Wk L (w1.setCell ⟨b,3,none⟩ v) b { n with rs:=l }:=by
 obtain ⟨vm,vr,vs,vg,vw,h1,h2,h3,h4⟩:=h
 have hbl:b < W.heap.size:=(Array.getElem?_eq_some_iff.1 h1).1
 refine ⟨vm,v,vs,vg,vw,?_,⟨ownsRow_setCell_other (h2.ms.below hb) h3.1 _,ownsRow_setCell_other (ho.base hL) (fun e=>by have:=ho.lt b e;omega) _,ownsRow_setCell_other (h2.sv.below hb) h3.2.2.1 _,ownsRow_setCell_other (h2.gw.below hb) h3.2.2.2.1 _,ownsRow_setCell_other (h2.wh.below hb) h3.2.2.2.2 _⟩,⟨h3.1,fun e=>by have:=ho.lt b e;omega,h3.2.2.1,h3.2.2.2.1,h3.2.2.2.2⟩,⟨h4.ms,hl,h4.sv,h4.gw,h4.wh,h4.name,h4.centre⟩⟩
 exact Joins.block_setCell (i:=3) ((hb.block _ hbl).trans h1) v
theorem Wk.set_sv {L b:Nat} {W w1:World} {n:Nd} (h:Wk L W b n) (hL:L≤W.heap.size) (hb:Below W.heap.size W w1) {v:Value} {l:List Sv.Svc} (ho:Sv.Own W.heap.size w1 v l) (hl:(∀ m∈l,m.ok)):Wk L (w1.setCell ⟨b,4,none⟩ v) b { n with sv:=l }:=by
 obtain ⟨vm,vr,vs,vg,vw,h1,h2,h3,h4⟩:=h
 have hbl:b < W.heap.size:=(Array.getElem?_eq_some_iff.1 h1).1
 refine ⟨vm,vr,v,vg,vw,?_,⟨ownsRow_setCell_other (h2.ms.below hb) h3.1 _,ownsRow_setCell_other (h2.rs.below hb) h3.2.1 _,ownsRow_setCell_other (ho.mono hL) (fun e=>by have:=ho.lt b e;omega) _,ownsRow_setCell_other (h2.gw.below hb) h3.2.2.2.1 _,ownsRow_setCell_other (h2.wh.below hb) h3.2.2.2.2 _⟩,⟨h3.1,h3.2.1,fun e=>by have:=ho.lt b e;omega,h3.2.2.2.1,h3.2.2.2.2⟩,⟨h4.ms,h4.rs,hl,h4.gw,h4.wh,h4.name,h4.centre⟩⟩
 exact Joins.block_setCell (i:=4) ((hb.block _ hbl).trans h1) v
theorem Wk.set_gw {L b:Nat} {W w1:World} {n:Nd} (h:Wk L W b n) (hL:L≤W.heap.size) (hb:Below W.heap.size W w1) {v:Value} {l:List Gw.Gwy} (ho:Gw.Own W.heap.size w1 v l) (hl:(∀ m∈l,m.ok)):Wk L (w1.setCell ⟨b,5,none⟩ v) b { n with gw:=l }:=by
 obtain ⟨vm,vr,vs,vg,vw,h1,h2,h3,h4⟩:=h
 have hbl:b < W.heap.size:=(Array.getElem?_eq_some_iff.1 h1).1
 refine ⟨vm,vr,vs,v,vw,?_,⟨ownsRow_setCell_other (h2.ms.below hb) h3.1 _,ownsRow_setCell_other (h2.rs.below hb) h3.2.1 _,ownsRow_setCell_other (h2.sv.below hb) h3.2.2.1 _,ownsRow_setCell_other (ho.mono hL) (fun e=>by have:=ho.lt b e;omega) _,ownsRow_setCell_other (h2.wh.below hb) h3.2.2.2.2 _⟩,⟨h3.1,h3.2.1,h3.2.2.1,fun e=>by have:=ho.lt b e;omega,h3.2.2.2.2⟩,⟨h4.ms,h4.rs,h4.sv,hl,h4.wh,h4.name,h4.centre⟩⟩
 exact Joins.block_setCell (i:=5) ((hb.block _ hbl).trans h1) v
theorem shLow {S:Nat→Prop} {w w':World} (h:Sh (fun k=>S k∨w.heap.size≤k) w w'):Sh S w w':=by
 refine ⟨h.os,h.tape,h.output,h.size,fun k hk hn=>h.block k hk ?_⟩
 rintro (e | e)
 ·exact hn e
 ·omega
theorem Sh.setNew {S:Nat→Prop} {L:Nat} {a w:World} (h:Sh (fun k=>S k∨L≤k) a w) {b i:Nat} (hb:L≤b) (x:Value):Sh (fun k=>S k∨L≤k) a (w.setCell ⟨b,i,none⟩ x):=h.setCell (S:=fun k=>S k∨L≤k) (.inr hb) x
theorem Sh.setNew12 {S:Nat→Prop} {L:Nat} {a w:World} (h:Sh (fun k=>S k∨L≤k) a w) {b:Nat} (hb:L≤b) (x0 x1 x2 x3 x4 x5 x6 x7 x8 x9 x10 x11:Value):Sh (fun k=>S k∨L≤k) a ((((((((((((w.setCell ⟨b,0,none⟩ x0).setCell ⟨b,1,none⟩ x1).setCell ⟨b,2,none⟩ x2).setCell ⟨b,3,none⟩ x3).setCell ⟨b,4,none⟩ x4).setCell ⟨b,5,none⟩ x5).setCell ⟨b,6,none⟩ x6).setCell ⟨b,7,none⟩ x7).setCell ⟨b,8,none⟩ x8).setCell ⟨b,9,none⟩ x9).setCell ⟨b,10,none⟩ x10).setCell ⟨b,11,none⟩ x11):=((((((((((((h).setNew (i:=0) hb _).setNew (i:=1) hb _).setNew (i:=2) hb _).setNew (i:=3) hb _).setNew (i:=4) hb _).setNew (i:=5) hb _).setNew (i:=6) hb _).setNew (i:=7) hb _).setNew (i:=8) hb _).setNew (i:=9) hb _).setNew (i:=10) hb _).setNew (i:=11) hb _
def WorkSaysN (ne er:Int) (S:Nat→Prop) (R:Nd→World→Prop) (w:World) (e:Ending) (w':World):Prop:=Sh S w w' ∧
 ((ne≠0∧Below w.heap.size w w'∧e=.returned (.tuple #[.agg #[.string ⟨#[]⟩,.string ⟨#[]⟩,.slice none 0 0,.slice none 0 0,.slice none 0 0,.slice none 0 0,.int .i64 0,.int .i64 0,.int .i64 0,.int .i64 0,.int .i64 0,.slice none 0 0],.int .i64 ne]))∨(ne=0∧er≠0∧e=.returned (.tuple #[.agg #[.string ⟨#[]⟩,.string ⟨#[]⟩,.slice none 0 0,.slice none 0 0,.slice none 0 0,.slice none 0 0,.int .i64 0,.int .i64 0,.int .i64 0,.int .i64 0,.int .i64 0,.slice none 0 0],.int .i64 er])) ∨
 (ne=0∧er=0∧∃ n' um ur us ug uw,e=.returned (.tuple #[.agg (ndA n' um ur us ug uw),.int .i64 0])∧NdOwn w.heap.size w' n' um ur us ug uw∧NdOk n'∧R n' w'))
set_option maxHeartbeats 25600000 in
set_option maxRecDepth 100000 in
theorem workN_any (kf:Nat) (cs:Array Value) (eg:∀ args w,(callFunc kf args).run Tryz.prog w=.ok (.enter kf args) w) (n:Nd) (vm vr vs vg vw:Value) (w:World) (h:NdIs w n vm vr vs vg vw) (S:Nat→Prop) (er:Int) (R:Nd→World→Prop)
 (hF:n.e=0→∀ W b,Below w.heap.size w W→w.heap.size+2≤b→Wk (w.heap.size+2) W b n→Calls Tryz.prog kf (#[.pointer (some ⟨b,0,none⟩)]++cs) W fun e w'=>e=.returned (.int .i64 er)∧Sh (fun k=>w.heap.size+2≤k∨S k) W w'∧(er=0→∃ n',Wk (w.heap.size+2) w' b n'∧R n' w'))
 (hR:∀ n' W j x,R n' W→R n' (W.setCell ⟨w.heap.size+1,j,none⟩ x)) (hS:∀ k,S k→k < w.heap.size) :
 Calls Tryz.prog 61 #[.agg (ndA n vm vr vs vg vw),.func (.func kf) #[] cs] w fun e w'=>WorkSaysN n.e er S R w e w':=by
 have HIS:Hid (NdIs w n vm vr vs vg vw):=h
 have HOK:Hid (NdOk n):=h.ok
 have HCK:Hid (∀ W,Below w.heap.size w W→Calls Tryz.prog 60 #[.agg (ndA n vm vr vs vg vw)] W fun e w'=>e=.returned (.int .i64 n.e)∧Below W.heap.size W w'):=fun W hW=>ncheck_any n vm vr vs vg vw W (h.below hW)
 have HFR:Hid (n.e=0→∀ W,Below w.heap.size w W→Calls Tryz.prog 36 #[.agg (ndA n vm vr vs vg vw)] W fun e w'=>∃ um ur us ug uw,e=.returned (.agg (ndA n um ur us ug uw))∧NdOwn W.heap.size w' n um ur us ug uw∧Below W.heap.size W w'):=fun he W hW=>by
  have hp:=Nd.parts (Nd.e_zero he).1
  have l1:=(chk_zero hp.ms).1
  have l2:=(chkR_e0 hp.rs).1
  have l3:=(Sv.chk_zero hp.sv).1
  have l4:=(Gw.chk_zero hp.gw).1
  have l5:=(Wh.chk_zero hp.wh).1
  exact fresh_any n vm vr vs vg vw W (h.below hW) (by omega) (by omega) (by omega) (by omega) (by omega)
 have HF:Hid (n.e=0→∀ W b,Below w.heap.size w W→w.heap.size+2≤b→Wk (w.heap.size+2) W b n→Calls Tryz.prog kf (#[.pointer (some ⟨b,0,none⟩)]++cs) W fun e w'=>e=.returned (.int .i64 er)∧Sh (fun k=>w.heap.size+2≤k∨S k) W w'∧(er=0→∃ n',Wk (w.heap.size+2) w' b n'∧R n' w')):=hF
 have HR:Hid (∀ n' W j x,R n' W→R n' (W.setCell ⟨w.heap.size+1,j,none⟩ x)):=hR
 have HSL:Hid (∀ k,S k→k < w.heap.size):=hS
 clear hF hR hS
 obtain ⟨nm,ct,ms,rs,sv,gw,⟨px,py,pz,ph,pq⟩,wh⟩:=n
 obtain ⟨⟨em,cm,rfl,_,_⟩,⟨er_,cr,rfl,_,_⟩,⟨es,cs_,rfl,_,_⟩,⟨eg_,cg,rfl,_,_⟩,⟨eh,ch,rfl,_,_⟩,_,_⟩:=h
 simp only [ndA] at HCK HFR ⊢
 generalize hkm:ms.length=km at *
 have Hkm:Hid (ms.length=km):=hkm
 generalize hkr:rs.length=kr at *
 have Hkr:Hid (rs.length=kr):=hkr
 generalize hks:sv.length=ks at *
 have Hks:Hid (sv.length=ks):=hks
 generalize hkg:gw.length=kg at *
 have Hkg:Hid (gw.length=kg):=hkg
 generalize hkh:wh.length=kh at *
 have Hkh:Hid (wh.length=kh):=hkh
 clear hkm hkr hks hkg hkh
 have HNE:Hid (∃ ne,ne=Nd.e ⟨nm,ct,ms,rs,sv,gw,⟨px,py,pz,ph,pq⟩,wh⟩):=⟨_,rfl⟩
 generalize Nd.e ⟨nm,ct,ms,rs,sv,gw,⟨px,py,pz,ph,pq⟩,wh⟩=ne at *
 obtain ⟨W0,hW0⟩:∃ W0,W0=(w.alloc (.cells #[.string nm,.string ct,.slice em km cm,.slice er_ kr cr,.slice es ks cs_,.slice eg_ kg cg,.int .i64 px,.int .i64 py,.int .i64 pz,.int .i64 ph,.int .i64 pq,.slice eh kh ch] 51)).alloc (.cells #[.string ⟨#[]⟩,.string ⟨#[]⟩,.slice none 0 0,.slice none 0 0,.slice none 0 0,.slice none 0 0,.int .i64 0,.int .i64 0,.int .i64 0,.int .i64 0,.int .i64 0,.slice none 0 0] 51):=⟨_,rfl⟩
 have hb0:Below w.heap.size w W0:=by rw [hW0];exact ((Below.refl _ _).alloc (Nat.le_refl _) _).alloc (by simp) _
 have hg0:W0.heap[w.heap.size]?=some (.cells #[.string nm,.string ct,.slice em km cm,.slice er_ kr cr,.slice es ks cs_,.slice eg_ kg cg,.int .i64 px,.int .i64 py,.int .i64 pz,.int .i64 ph,.int .i64 pq,.slice eh kh ch] 51 (0,0)):=by
  rw [hW0,Below.heap_alloc _ _ _ (by simp)];exact heap_alloc_new w _
 have hz0:W0.heap[w.heap.size+1]?=some (.cells #[.string ⟨#[]⟩,.string ⟨#[]⟩,.slice none 0 0,.slice none 0 0,.slice none 0 0,.slice none 0 0,.int .i64 0,.int .i64 0,.int .i64 0,.int .i64 0,.int .i64 0,.slice none 0 0] 51 (0,0)):=by
  have h:=heap_alloc_new (w.alloc (.cells #[.string nm,.string ct,.slice em km cm,.slice er_ kr cr,.slice es ks cs_,.slice eg_ kg cg,.int .i64 px,.int .i64 py,.int .i64 pz,.int .i64 ph,.int .i64 pq,.slice eh kh ch] 51)) (.cells #[.string ⟨#[]⟩,.string ⟨#[]⟩,.slice none 0 0,.slice none 0 0,.slice none 0 0,.slice none 0 0,.int .i64 0,.int .i64 0,.int .i64 0,.int .i64 0,.int .i64 0,.slice none 0 0] 51)
  rw [hW0];simpa using h
 have hs0:W0.heap.size=w.heap.size+2:=by rw [hW0];simp
 have HB0:Hid (Below w.heap.size w W0):=hb0
 have HG0:Hid (W0.heap[w.heap.size]?=some (.cells #[.string nm,.string ct,.slice em km cm,.slice er_ kr cr,.slice es ks cs_,.slice eg_ kg cg,.int .i64 px,.int .i64 py,.int .i64 pz,.int .i64 ph,.int .i64 pq,.slice eh kh ch] 51 (0,0))):=hg0
 have HZ0:Hid (W0.heap[w.heap.size+1]?=some (.cells #[.string ⟨#[]⟩,.string ⟨#[]⟩,.slice none 0 0,.slice none 0 0,.slice none 0 0,.slice none 0 0,.int .i64 0,.int .i64 0,.int .i64 0,.int .i64 0,.int .i64 0,.slice none 0 0] 51 (0,0))):=hz0
 clear hb0 hg0 hz0
 go_enter Tryz.func61,Tryz.ntmps61
 go_wp2_with fail
 rw [← hW0]
 clear hW0
 refine (HCK.out W0 HB0.out).mono ?_
 rintro e w1 ⟨rfl,hb1⟩
 have hg1:w1.heap[w.heap.size]?=_:=(hb1.block _ (by omega)).trans HG0.out
 have hz1:w1.heap[w.heap.size+1]?=_:=(hb1.block _ (by omega)).trans HZ0.out
 have HB1:Hid (Below w.heap.size w w1):=HB0.out.trans (hb1.mono (by omega))
 have hs1:w.heap.size+1 < w1.heap.size:=(Array.getElem?_eq_some_iff.1 hz1).1
 have q0:w1.cell? ⟨w.heap.size+1,0,none⟩=_:=cellsAt hz1 0
 have qz0:w1.frozen? ⟨w.heap.size+1,0,none⟩=false:=by simp [World.frozen?,hz1]
 have q1:w1.cell? ⟨w.heap.size+1,1,none⟩=_:=cellsAt hz1 1
 have qz1:w1.frozen? ⟨w.heap.size+1,1,none⟩=false:=by simp [World.frozen?,hz1]
 have q2:w1.cell? ⟨w.heap.size+1,2,none⟩=_:=cellsAt hz1 2
 have qz2:w1.frozen? ⟨w.heap.size+1,2,none⟩=false:=by simp [World.frozen?,hz1]
 have q3:w1.cell? ⟨w.heap.size+1,3,none⟩=_:=cellsAt hz1 3
 have qz3:w1.frozen? ⟨w.heap.size+1,3,none⟩=false:=by simp [World.frozen?,hz1]
 have q4:w1.cell? ⟨w.heap.size+1,4,none⟩=_:=cellsAt hz1 4
 have qz4:w1.frozen? ⟨w.heap.size+1,4,none⟩=false:=by simp [World.frozen?,hz1]
 have q5:w1.cell? ⟨w.heap.size+1,5,none⟩=_:=cellsAt hz1 5
 have qz5:w1.frozen? ⟨w.heap.size+1,5,none⟩=false:=by simp [World.frozen?,hz1]
 have q6:w1.cell? ⟨w.heap.size+1,6,none⟩=_:=cellsAt hz1 6
 have qz6:w1.frozen? ⟨w.heap.size+1,6,none⟩=false:=by simp [World.frozen?,hz1]
 have q7:w1.cell? ⟨w.heap.size+1,7,none⟩=_:=cellsAt hz1 7
 have qz7:w1.frozen? ⟨w.heap.size+1,7,none⟩=false:=by simp [World.frozen?,hz1]
 have q8:w1.cell? ⟨w.heap.size+1,8,none⟩=_:=cellsAt hz1 8
 have qz8:w1.frozen? ⟨w.heap.size+1,8,none⟩=false:=by simp [World.frozen?,hz1]
 have q9:w1.cell? ⟨w.heap.size+1,9,none⟩=_:=cellsAt hz1 9
 have qz9:w1.frozen? ⟨w.heap.size+1,9,none⟩=false:=by simp [World.frozen?,hz1]
 have q10:w1.cell? ⟨w.heap.size+1,10,none⟩=_:=cellsAt hz1 10
 have qz10:w1.frozen? ⟨w.heap.size+1,10,none⟩=false:=by simp [World.frozen?,hz1]
 have q11:w1.cell? ⟨w.heap.size+1,11,none⟩=_:=cellsAt hz1 11
 have qz11:w1.frozen? ⟨w.heap.size+1,11,none⟩=false:=by simp [World.frozen?,hz1]
 obtain ⟨p0,p1,p2,p3,p4,p5,p6,p7,p8,p9,p10,p11⟩:=cells12 hg1
 have HZ1:Hid (w1.heap[w.heap.size+1]?=some (.cells #[.string ⟨#[]⟩,.string ⟨#[]⟩,.slice none 0 0,.slice none 0 0,.slice none 0 0,.slice none 0 0,.int .i64 0,.int .i64 0,.int .i64 0,.int .i64 0,.int .i64 0,.slice none 0 0] 51 (0,0))):=hz1
 clear hb1 hg1 hz1
 by_cases hne:ne=0
 rotate_left
 ·have hne':(ne != 0)=true:=by simpa using hne
  have HNZ:Hid (ne≠0):=hne
  have HSH:Hid (Sh (fun k=>S k∨w.heap.size≤k) w w1):=.of HB1.out
  clear hne
  go_wp2_with fail
  refine bodyPost_ret (v:=.tuple #[.agg #[.string ⟨#[]⟩,.string ⟨#[]⟩,.slice none 0 0,.slice none 0 0,.slice none 0 0,.slice none 0 0,.int .i64 0,.int .i64 0,.int .i64 0,.int .i64 0,.int .i64 0,.slice none 0 0],.int .i64 ne]) ?_ rfl ?_
  ·simp [results,Tryz.results61,go_sem,q0,q1,q2,q3,q4,q5,q6,q7,q8,q9,q10,q11]
  ·unfold WorkSaysN
   refine ⟨?_,.inl ⟨HNZ.out,?_,rfl⟩⟩
   ·exact shLow (HSH.out.setNew12 (Nat.le_succ _) _ _ _ _ _ _ _ _ _ _ _ _)
   ·exact below_set12 HB1.out (by simp) _ _ _ _ _ _ _ _ _ _ _ _
 subst hne
 have HFK:=HFR.out rfl w1 HB1.out
 have HF2:Hid (∀ W b,Below w.heap.size w W→w.heap.size+2≤b→Wk (w.heap.size+2) W b ⟨nm,ct,ms,rs,sv,gw,⟨px,py,pz,ph,pq⟩,wh⟩→Calls Tryz.prog kf (#[.pointer (some ⟨b,0,none⟩)]++cs) W fun e w'=>e=.returned (.int .i64 er)∧Sh (fun k=>w.heap.size+2≤k∨S k) W w'∧(er=0→∃ n',Wk (w.heap.size+2) w' b n'∧R n' w')):=HF.out rfl
 clear HF HFR
 go_wp2_with fail
 refine HFK.mono ?_
 rintro e w2 ⟨um,ur,us,ug,uw,rfl,ho2,hb2⟩
 obtain ⟨im,jm,hvm,_⟩:=own_slice ho2.ms
 obtain ⟨ir,jr,hvr,_⟩:=own_slice ho2.rs
 obtain ⟨is_,js,hvs,_⟩:=own_slice ho2.sv
 obtain ⟨ig,jg,hvg,_⟩:=own_slice ho2.gw
 obtain ⟨ih,jh,hvh,_⟩:=own_slice ho2.wh
 simp only at hvm hvr hvs hvg hvh
 rw [Hkm.out] at hvm
 rw [Hkr.out] at hvr
 rw [Hks.out] at hvs
 rw [Hkg.out] at hvg
 rw [Hkh.out] at hvh
 subst hvm hvr hvs hvg hvh
 obtain ⟨W3,hW3⟩:∃ W3,W3=w2.alloc (.cells #[.string nm,.string ct,.slice im km jm,.slice ir kr jr,.slice is_ ks js,.slice ig kg jg,.int .i64 px,.int .i64 py,.int .i64 pz,.int .i64 ph,.int .i64 pq,.slice ih kh jh] 133):=⟨_,rfl⟩
 have HB2:Hid (Below w.heap.size w w2):=HB1.out.trans (hb2.mono (by omega))
 have HB3:Hid (Below w.heap.size w W3):=by rw [hW3];exact HB2.out.alloc HB2.out.size _
 have hs2:w1.heap.size≤w2.heap.size:=hb2.size
 have hs3:W3.heap.size=w2.heap.size+1:=by rw [hW3];simp
 have hb23:Below w2.heap.size w2 W3:=by rw [hW3];exact (Below.refl _ _).alloc (Nat.le_refl _) _
 have HZ3:Hid (W3.heap[w.heap.size+1]?=some (.cells #[.string ⟨#[]⟩,.string ⟨#[]⟩,.slice none 0 0,.slice none 0 0,.slice none 0 0,.slice none 0 0,.int .i64 0,.int .i64 0,.int .i64 0,.int .i64 0,.int .i64 0,.slice none 0 0] 51 (0,0))):=(hb23.block _ (by omega)).trans ((hb2.block _ (by omega)).trans HZ1.out)
 have hlt:∀ {v:Value} {k:Nat},v.ownBlock=some k→k < w2.heap.size→v.ownBlock≠some w2.heap.size:=fun h hk e=>by rw [h] at e;cases e;omega
 have HWK:Hid (Wk (w.heap.size+2) W3 w2.heap.size ⟨nm,ct,ms,rs,sv,gw,⟨px,py,pz,ph,pq⟩,wh⟩):=by
  refine ⟨_,_,_,_,_,?_,⟨(ho2.ms.below hb23).mono (by omega),(ho2.rs.below hb23).base (by omega),(ho2.sv.below hb23).mono (by omega),(ho2.gw.below hb23).mono (by omega),(ho2.wh.below hb23).mono (by omega)⟩,⟨fun e=>?_,fun e=>?_,fun e=>?_,fun e=>?_,fun e=>?_⟩,HOK.out⟩
  ·rw [hW3];exact heap_alloc_new w2 _
  ·have:=(ho2.ms.lt _ e).2;omega
  ·have:=(ho2.rs.lt _ e).2;omega
  ·have:=(ho2.sv.lt _ e).2;omega
  ·have:=(ho2.gw.lt _ e).2;omega
  ·have:=(ho2.wh.lt _ e).2;omega
 have HFC:=HF2.out W3 w2.heap.size HB3.out (by omega) HWK.out
 clear ho2 hb2 hb23 hlt q0 qz0 q1 qz1 q2 qz2 q3 qz3 q4 qz4 q5 qz5 q6 qz6 q7 qz7 q8 qz8 q9 qz9 q10 qz10 q11 qz11 p0 p1 p2 p3 p4 p5 p6 p7 p8 p9 p10 p11
 go_wp2_with fail
 rw [← hW3]
 refine HFC.mono ?_
 rintro e w4 ⟨rfl,hsh,hres⟩
 have HSH:Hid (Sh (fun k=>S k∨w.heap.size≤k) w w4):=(Sh.of HB3.out).trans (hsh.mono (fun k hk=>hk.elim (fun h=>.inr (by omega)) (fun h=>.inl h)))
 have hz4:w4.heap[w.heap.size+1]?=some (.cells #[.string ⟨#[]⟩,.string ⟨#[]⟩,.slice none 0 0,.slice none 0 0,.slice none 0 0,.slice none 0 0,.int .i64 0,.int .i64 0,.int .i64 0,.int .i64 0,.int .i64 0,.slice none 0 0] 51 (0,0)):=(hsh.block _ (by omega) (fun hk=>hk.elim (fun h=>by omega) (fun h=>by have:=HSL.out _ h;omega))).trans HZ3.out
 have HRES:Hid (er=0→∃ n',Wk (w.heap.size+2) w4 w2.heap.size n'∧R n' w4):=hres
 have hs4:w.heap.size+1 < w4.heap.size:=(Array.getElem?_eq_some_iff.1 hz4).1
 have q0:w4.cell? ⟨w.heap.size+1,0,none⟩=_:=cellsAt hz4 0
 have qz0:w4.frozen? ⟨w.heap.size+1,0,none⟩=false:=by simp [World.frozen?,hz4]
 have q1:w4.cell? ⟨w.heap.size+1,1,none⟩=_:=cellsAt hz4 1
 have qz1:w4.frozen? ⟨w.heap.size+1,1,none⟩=false:=by simp [World.frozen?,hz4]
 have q2:w4.cell? ⟨w.heap.size+1,2,none⟩=_:=cellsAt hz4 2
 have qz2:w4.frozen? ⟨w.heap.size+1,2,none⟩=false:=by simp [World.frozen?,hz4]
 have q3:w4.cell? ⟨w.heap.size+1,3,none⟩=_:=cellsAt hz4 3
 have qz3:w4.frozen? ⟨w.heap.size+1,3,none⟩=false:=by simp [World.frozen?,hz4]
 have q4:w4.cell? ⟨w.heap.size+1,4,none⟩=_:=cellsAt hz4 4
 have qz4:w4.frozen? ⟨w.heap.size+1,4,none⟩=false:=by simp [World.frozen?,hz4]
 have q5:w4.cell? ⟨w.heap.size+1,5,none⟩=_:=cellsAt hz4 5
 have qz5:w4.frozen? ⟨w.heap.size+1,5,none⟩=false:=by simp [World.frozen?,hz4]
 have q6:w4.cell? ⟨w.heap.size+1,6,none⟩=_:=cellsAt hz4 6
 have qz6:w4.frozen? ⟨w.heap.size+1,6,none⟩=false:=by simp [World.frozen?,hz4]
 have q7:w4.cell? ⟨w.heap.size+1,7,none⟩=_:=cellsAt hz4 7
 have qz7:w4.frozen? ⟨w.heap.size+1,7,none⟩=false:=by simp [World.frozen?,hz4]
 have q8:w4.cell? ⟨w.heap.size+1,8,none⟩=_:=cellsAt hz4 8
 have qz8:w4.frozen? ⟨w.heap.size+1,8,none⟩=false:=by simp [World.frozen?,hz4]
 have q9:w4.cell? ⟨w.heap.size+1,9,none⟩=_:=cellsAt hz4 9
 have qz9:w4.frozen? ⟨w.heap.size+1,9,none⟩=false:=by simp [World.frozen?,hz4]
 have q10:w4.cell? ⟨w.heap.size+1,10,none⟩=_:=cellsAt hz4 10
 have qz10:w4.frozen? ⟨w.heap.size+1,10,none⟩=false:=by simp [World.frozen?,hz4]
 have q11:w4.cell? ⟨w.heap.size+1,11,none⟩=_:=cellsAt hz4 11
 have qz11:w4.frozen? ⟨w.heap.size+1,11,none⟩=false:=by simp [World.frozen?,hz4]
 clear hsh hz4 hres hW3 HFC HFK
 by_cases hee:er=0
 rotate_left
 ·have hee':(er != 0)=true:=by simpa using hee
  have HEZ:Hid (er≠0):=hee
  clear hee
  go_wp2_with fail
  refine bodyPost_ret (v:=.tuple #[.agg #[.string ⟨#[]⟩,.string ⟨#[]⟩,.slice none 0 0,.slice none 0 0,.slice none 0 0,.slice none 0 0,.int .i64 0,.int .i64 0,.int .i64 0,.int .i64 0,.int .i64 0,.slice none 0 0],.int .i64 er]) ?_ rfl ?_
  ·simp [results,Tryz.results61,go_sem,q0,q1,q2,q3,q4,q5,q6,q7,q8,q9,q10,q11]
  ·unfold WorkSaysN
   refine ⟨?_,.inr (.inl ⟨rfl,HEZ.out,rfl⟩)⟩
   exact shLow (HSH.out.setNew12 (Nat.le_succ _) _ _ _ _ _ _ _ _ _ _ _ _)
 obtain ⟨n',⟨xm,xr,xs,xg,xw,hgk,hown,hne5,hok⟩,hRR⟩:=HRES.out hee
 subst hee
 have HOWN:Hid (NdOwn (w.heap.size+2) w4 n' xm xr xs xg xw):=hown
 have HRR:Hid (R n' w4):=hRR
 have HOK2:Hid (NdOk n'):=hok
 obtain ⟨im2,jm2,hvm,_⟩:=own_slice hown.ms
 obtain ⟨ir2,jr2,hvr,_⟩:=own_slice hown.rs
 obtain ⟨is2,js2,hvs,_⟩:=own_slice hown.sv
 obtain ⟨ig2,jg2,hvg,_⟩:=own_slice hown.gw
 obtain ⟨ih2,jh2,hvh,_⟩:=own_slice hown.wh
 subst hvm hvr hvs hvg hvh
 obtain ⟨p0,p1,p2,p3,p4,p5,p6,p7,p8,p9,p10,p11⟩:=cells12 hgk
 clear hown hRR hok hne5 hgk HRES
 obtain ⟨n2,c2,ms2,rs2,sv2,gw2,⟨qx,qy,qz,qh,qq⟩,wh2⟩:=n'
 simp only at p0 p1 p2 p3 p4 p5 p6 p7 p8 p9 p10 p11
 go_wp2_with fail
 refine bodyPost_ret (v:=.tuple #[.agg #[.string n2,.string c2,.slice im2 ms2.length jm2,.slice ir2 rs2.length jr2,.slice is2 sv2.length js2,.slice ig2 gw2.length jg2,.int .i64 qx,.int .i64 qy,.int .i64 qz,.int .i64 qh,.int .i64 qq,.slice ih2 wh2.length jh2],.int .i64 0]) ?_ rfl ?_
 ·simp [results,Tryz.results61,go_sem,q0,q1,q2,q3,q4,q5,q6,q7,q8,q9,q10,q11]
 unfold WorkSaysN
 refine ⟨?_,.inr (.inr ⟨rfl,rfl,⟨n2,c2,ms2,rs2,sv2,gw2,⟨qx,qy,qz,qh,qq⟩,wh2⟩,_,_,_,_,_,rfl,⟨?_,?_,?_,?_,?_⟩,HOK2.out,?_⟩)⟩
 ·exact shLow (HSH.out.setNew12 (Nat.le_succ _) _ _ _ _ _ _ _ _ _ _ _ _)
 ·exact Own.mono (owns_set12 (HOWN.out.ms) (by simp) _ _ _ _ _ _ _ _ _ _ _ _) (by omega)
 ·exact ROwn.base (owns_set12 (HOWN.out.rs) (by simp) _ _ _ _ _ _ _ _ _ _ _ _) (by omega)
 ·exact Sv.Own.mono (owns_set12 (HOWN.out.sv) (by simp) _ _ _ _ _ _ _ _ _ _ _ _) (by omega)
 ·exact Gw.Own.mono (owns_set12 (HOWN.out.gw) (by simp) _ _ _ _ _ _ _ _ _ _ _ _) (by omega)
 ·exact Wh.Own.mono (owns_set12 (HOWN.out.wh) (by simp) _ _ _ _ _ _ _ _ _ _ _ _) (by omega)
 ·exact HR.out _ _ 11 _ (HR.out _ _ 10 _ (HR.out _ _ 9 _ (HR.out _ _ 8 _ (HR.out _ _ 7 _ (HR.out _ _ 6 _ (HR.out _ _ 5 _ (HR.out _ _ 4 _ (HR.out _ _ 3 _ (HR.out _ _ 2 _ (HR.out _ _ 1 _ (HR.out _ _ 0 _ (HRR.out))))))))))))
def WorkSays (ne er:Int) (n':Nd) (S:Nat→Prop) (R:World→Prop) (w:World) (e:Ending) (w':World):Prop:=Sh S w w' ∧
 ((ne≠0∧e=.returned (.tuple #[.agg #[.string ⟨#[]⟩,.string ⟨#[]⟩,.slice none 0 0,.slice none 0 0,.slice none 0 0,.slice none 0 0,.int .i64 0,.int .i64 0,.int .i64 0,.int .i64 0,.int .i64 0,.slice none 0 0],.int .i64 ne]))∨(ne=0∧er≠0∧e=.returned (.tuple #[.agg #[.string ⟨#[]⟩,.string ⟨#[]⟩,.slice none 0 0,.slice none 0 0,.slice none 0 0,.slice none 0 0,.int .i64 0,.int .i64 0,.int .i64 0,.int .i64 0,.int .i64 0,.slice none 0 0],.int .i64 er])) ∨
 (ne=0∧er=0∧∃ um ur us ug uw,e=.returned (.tuple #[.agg (ndA n' um ur us ug uw),.int .i64 0])∧NdOwn w.heap.size w' n' um ur us ug uw∧NdOk n'∧R w'))
theorem work_any (kf:Nat) (cs:Array Value) (eg:∀ args w,(callFunc kf args).run Tryz.prog w=.ok (.enter kf args) w) (n:Nd) (vm vr vs vg vw:Value) (w:World) (h:NdIs w n vm vr vs vg vw) (S:Nat→Prop) (er:Int) (n':Nd) (R:World→Prop)
 (hF:n.e=0→∀ W b,Below w.heap.size w W→w.heap.size+2≤b→Wk (w.heap.size+2) W b n→Calls Tryz.prog kf (#[.pointer (some ⟨b,0,none⟩)]++cs) W fun e w'=>e=.returned (.int .i64 er)∧Sh (fun k=>w.heap.size+2≤k∨S k) W w'∧(er=0→Wk (w.heap.size+2) w' b n'∧R w'))
 (hR:∀ W j x,R W→R (W.setCell ⟨w.heap.size+1,j,none⟩ x)) (hS:∀ k,S k→k < w.heap.size) :
 Calls Tryz.prog 61 #[.agg (ndA n vm vr vs vg vw),.func (.func kf) #[] cs] w fun e w'=>WorkSays n.e er n' S R w e w':=by
 refine (workN_any kf cs eg n vm vr vs vg vw w h S er (fun k W=>k=n'∧R W) (fun he W b h1 h2 h3=>(hF he W b h1 h2 h3).mono ?_) (fun k W j x h=>⟨h.1,hR W j x h.2⟩) hS).mono ?_
 ·rintro e w' ⟨h4,h5,h6⟩
  exact ⟨h4,h5,fun h=>⟨n',(h6 h).1,rfl,(h6 h).2⟩⟩
 ·rintro e w' ⟨hsh,hor⟩
  refine ⟨hsh,?_⟩
  rcases hor with ⟨h1,_,h2⟩ | h1 | ⟨h1,h2,k,um,ur,us,ug,uw,h3,h4,h5,rfl,h6⟩
  ·exact .inl ⟨h1,h2⟩
  ·exact .inr (.inl h1)
  ·exact .inr (.inr ⟨h1,h2,um,ur,us,ug,uw,h3,h4,h5,h6⟩)
theorem putL_ok {rs:List Rum} {m:Mem} (h:∀ r∈rs,r.m.name.size≤maxLen) (hm:m.name.size≤maxLen):∀ r∈putL rs m,r.m.name.size≤maxLen:=by
 intro r hr
 unfold putL at hr
 split at hr
 ·split at hr
  ·rcases List.mem_append.1 hr with hr | hr
   ·exact h r (List.mem_of_mem_eraseIdx hr)
   ·simp at hr;subst hr;exact hm
  ·exact h r hr
 ·rcases List.mem_append.1 hr with hr | hr
  ·exact h r hr
  ·simp at hr;subst hr;exact hm
set_option maxHeartbeats 6400000 in
set_option maxRecDepth 100000 in
theorem tellOn_any (L b:Nat) (n:Nd) (t:ByteArray) (m:Mem) (w:World) (h:Wk L w b n) (hL:L≤b) (hms:n.ms.length≤1000) (hrs:chkR n.rs=0) (hm:mOf n.ms t=m) (he:m.e=0) (hsz:m.name.size≤maxLen) :
 Calls Tryz.prog 135 #[.pointer (some ⟨b,0,none⟩),.string t] w fun e w'=>e=.returned (.int .i64 (putE n.rs m))∧Sh (fun k=>k=b) w w'∧(putE n.rs m=0→Wk L w' b { n with rs:=putL n.rs m }):=by
 have HWK:Hid (Wk L w b n):=h
 have hbl:=h.lt
 obtain ⟨vm,vr,vs,vg,vw,h1,h2,h3,h4⟩:=h
 have HIS:Hid (NdIs w n vm vr vs vg vw):=h2.is h4
 obtain ⟨am,cm,hvm,_⟩:=own_slice h2.ms
 obtain ⟨ar,cr,hvr,_⟩:=own_slice h2.rs
 subst hvm hvr
 have HMB:Hid (Calls Tryz.prog 93 #[.pointer (some ⟨b,0,none⟩),.string t] w fun e w'=>e=.returned (.tuple #[.agg #[.string m.name,.int .i64 m.state,.int .i64 m.life,.int .i64 m.addr,.bool m.server],.bool (fstM n.ms t).isSome])∧Below w.heap.size w w'):=by
  have hq:=wmember_any b am n.ms.length cm n.ms t w (cellsAt h1 2) HIS.out.ms hms
  rw [hm] at hq;exact hq
 have HPT:Hid (∀ W,Below w.heap.size w W→Calls Tryz.prog 195 #[.slice ar n.rs.length cr,.agg #[.string m.name,.int .i64 m.state,.int .i64 m.life,.int .i64 m.addr,.bool m.server]] W fun e w'=>∃ a k c,e=.returned (.tuple #[.slice a k c,.int .i64 (putE n.rs m)])∧Below W.heap.size W w'∧(putE n.rs m=0→ROwn W.heap.size w' (.slice a k c) (putL n.rs m))):=fun W hW=>put_any n.rs _ m W (HIS.out.rs.below hW) hsz hrs he
 have HFIN:Hid (∀ W w1 a k c,Below w.heap.size w W→Below W.heap.size W w1→(putE n.rs m=0→ROwn W.heap.size w1 (.slice a k c) (putL n.rs m))→putE n.rs m=0→Wk L (w1.setCell ⟨b,3,none⟩ (.slice a k c)) b { n with rs:=putL n.rs m }):=fun W w1 a k c hW h1 h2 h0=>
  (HWK.out.below hW).set_rs (by have:=hW.size;omega) h1 (h2 h0) (putL_ok h4.rs hsz)
 have HX:Hid (∀ W,Below w.heap.size w W→W.heap[b]?=some (.cells (ndA n (.slice am n.ms.length cm) (.slice ar n.rs.length cr) vs vg vw) 133 (0,0))):=fun W hW=>(hW.block _ hbl).trans h1
 have y2:w.cell? ⟨b,2,none⟩=_:=cellsAt h1 2
 generalize putE n.rs m=pe at *
 generalize hkr:n.rs.length=kr at *
 generalize hkm:n.ms.length=km at *
 clear hkr hkm h1 h2 h3 h4 hm he hrs
 generalize (fstM n.ms t).isSome=fd at *
 obtain ⟨mn,st,lf,ad,sv⟩:=m
 simp only at HMB HPT hsz
 go_enter Tryz.func135,Tryz.ntmps135
 go_wp2_with fail
 refine HMB.out.mono ?_
 rintro e w1 ⟨rfl,hb1⟩
 obtain ⟨W2,hW2⟩:∃ W2,W2=w1.alloc (.cells #[.string mn,.int .i64 st,.int .i64 lf,.int .i64 ad,.bool sv] 56):=⟨_,rfl⟩
 have hb2:Below w.heap.size w W2:=by rw [hW2];exact hb1.alloc hb1.size _
 have HB2:Hid (Below w.heap.size w W2):=hb2
 have hg2:W2.heap[w1.heap.size]?=some (.cells #[.string mn,.int .i64 st,.int .i64 lf,.int .i64 ad,.bool sv] 56 (0,0)):=by rw [hW2];exact heap_alloc_new w1 _
 obtain ⟨x0,x1,x2,x3,x4⟩:=cells5 hg2
 have y3:W2.cell? ⟨b,3,none⟩=some (.slice ar kr cr):=cellsAt (HX.out W2 hb2) 3
 go_upto_region 2 with fail
 rw [← hW2]
 clear hW2 hb1 hb2 hg2 y2 HMB
 have hb2':b < W2.heap.size:=by have:=HB2.out.size;omega
 go_region_with (first | (go_at_call 195;refine (HPT.out _ HB2.out.drew).mono ?_;rintro e w3 ⟨a,k,c,rfl,hb3,ho3⟩;have HB3:Hid (Below W2.heap.size W2 w3):=(Below.refl W2.heap.size W2).drew.trans hb3;have HO3:Hid (pe=0→Wk L (w3.setCell ⟨b,3,none⟩ (.slice a k c)) b { n with rs:=putL n.rs ⟨mn,st,lf,ad,sv⟩ }):=HFIN.out _ _ a k c HB2.out.drew hb3 ho3;have hgx:=HX.out w3 (HB2.out.trans (HB3.out.mono HB2.out.size));have z3:w3.cell? ⟨b,3,none⟩=some (.slice ar kr cr):=cellsAt hgx 3;have zf:w3.frozen? ⟨b,3,none⟩=false:=frozen_of hgx 3;clear hb3 ho3 hgx))
 all_goals
  go_wp2_with fail
  go_ret
  exact ⟨rfl,((Sh.of HB2.out).next HB3.out).setCell (S:=fun k=>k=b) rfl _,HO3.out⟩
theorem distinct_pw (rs:List Rum):Distinct rs↔rs.Pairwise fun a b=>a.m.name≠b.m.name:=by
 have hget:∀ j (h:j < rs.length),rs.getD j dr=rs[j]:=fun j h=>by simp [List.getD,List.getElem?_eq_getElem h]
 rw [List.pairwise_iff_getElem]
 exact ⟨fun h i j hi hj hij=>by have:=h i j hij hj;rwa [hget i hi,hget j hj] at this,fun h i j hij hj=>by rw [hget i (by omega),hget j hj];exact h i j (by omega) hj hij⟩
theorem told_mem (rs:List Rum):AllTold rs↔∀ r∈rs,within r.told 0 100=true:=by
 have hget:∀ j (h:j < rs.length),rs.getD j dr=rs[j]:=fun j h=>by simp [List.getD,List.getElem?_eq_getElem h]
 constructor
 ·intro h r hr
  obtain ⟨j,hj,rfl⟩:=List.getElem_of_mem hr
  have:=h j hj;rwa [hget j hj] at this
 ·intro h j hj
  rw [hget j hj];exact h _ (List.getElem_mem _)
theorem chkR_of {rs:List Rum} (h1:rs.length≤20) (h2:∀ r∈rs,r.m.e=0) (h3:∀ r∈rs,within r.told 0 100=true) (h4:rs.Pairwise fun a b=>a.m.name≠b.m.name):chkR rs=0:=by
 have hget:∀ j (h:j < rs.length),rs.getD j dr=rs[j]:=fun j h=>by simp [List.getD,List.getElem?_eq_getElem h]
 exact chkR_ok h1 (fun j hj=>by rw [hget j hj];exact h2 _ (List.getElem_mem _)) ((told_mem rs).2 h3) ((distinct_pw rs).2 h4)
theorem putL_mem {rs:List Rum} {m:Mem} {r:Rum} (h:r∈putL rs m):r∈rs∨r=⟨m,0⟩:=by
 unfold putL at h
 split at h
 ·split at h
  ·rcases List.mem_append.1 h with h | h
   ·exact .inl (List.mem_of_mem_eraseIdx h)
   ·exact .inr (by simpa using h)
  ·exact .inl h
 ·rcases List.mem_append.1 h with h | h
  ·exact .inl h
  ·exact .inr (by simpa using h)
theorem chkR_put {rs:List Rum} {m:Mem} (h:chkR rs=0) (hm:m.e=0) (hp:putE rs m=0):chkR (putL rs m)=0:=by
 obtain ⟨l1,l2,l3,l4⟩:=chkR_e0 h
 have hlen:(putL rs m).length≤20:=by
  unfold putE at hp
  split at hp
  ·cases hp
  ·omega
 rw [told_mem] at l3
 have hd:=(distinct_pw rs).1 l4
 refine chkR_of hlen (fun r hr=>?_) (fun r hr=>?_) ?_
 ·rcases putL_mem hr with h | rfl
  ·exact l2 r h
  ·exact hm
 ·rcases putL_mem hr with h | rfl
  ·exact l3 r h
  ·rfl
 ·unfold putL
  split
  ·rename_i hlt
   split
   ·rw [List.pairwise_append]
    refine ⟨hd.sublist (List.eraseIdx_sublist _ _),by simp,fun a ha b hb=>?_⟩
    simp at hb;subst hb
    obtain ⟨i,hi,hne,rfl⟩:=List.mem_eraseIdx_iff_getElem.1 ha
    have:=rAt_ne l4 hi hne
    rwa [show rs.getD i dr=rs[i] by simp [List.getD,List.getElem?_eq_getElem hi]] at this
   ·exact hd
  ·rename_i hlt
   rw [List.pairwise_append]
   refine ⟨hd,by simp,fun a ha b hb=>?_⟩
   simp at hb;subst hb
   obtain ⟨i,hi,rfl⟩:=List.getElem_of_mem ha
   have:=rAt_no hlt i hi
   rwa [show rs.getD i dr=rs[i] by simp [List.getD,List.getElem?_eq_getElem hi]] at this
theorem chk_of {ms:List Mem} (h1:ms.length≤20) (h2:Rise ms) (h3:∀ m∈ms,m.e=0):chk ms=0:=by
 have hget:∀ j (h:j < ms.length),ms.getD j dm=ms[j]:=fun j h=>by simp [List.getD,List.getElem?_eq_getElem h]
 rw [chk_r ms h1 (fun j hj=>by rw [hget j hj];exact h3 _ (List.getElem_mem _)),if_pos (rises_of ms h2)]
theorem chk_hear {ms:List Mem} {m:Mem} (h:chk ms=0) (hm:m.e=0) (hl:(hearL ms m).length≤20):chk (hearL ms m)=0:=by
 obtain ⟨_,h2,_⟩:=chk_zero h
 refine chk_of hl (hearL_rise ms m h2) (fun x hx=>?_)
 rcases hearL_mem ms m x hx with rfl | hx
 ·exact hm
 ·exact chk_e0 h x hx
theorem joinE_one {ms:List Mem} {m:Mem} (h:chk ms=0) (hm:m.e=0):joinE ms [m]=if 20 < (hearL ms m).length then 2 else 0:=by
 unfold joinE chkTwo
 rw [if_pos h,chk_oneR,if_pos hm]
 rfl
def chgB (ms:List Mem) (m:Mem):Bool:=match fstM ms m.name with
 | none=>true
 | some k=>newM m k
theorem newM_self (m:Mem):newM m m=false:=by
 unfold newM newB
 simp
theorem chgB_iff {ms:List Mem} (hr:Rise ms) (m:Mem):chgB ms m=true↔hearL ms m≠ms:=by
 have hat:=at_pos hr m.name
 have hf:=fst_at hr hat
 have hh:=hearL_at ms m _ _ hat
 unfold chgB
 rw [hf,hh]
 rcases he:isM ms m.name with _ | _
 ·simp only [Bool.false_eq_true,if_false,ne_eq,true_iff]
  intro e
  have:=congrArg List.length e
  have hle:=hat.le
  simp at this
  omega
 ·simp only [if_true]
  rw [he] at hat
  have hp:=(hat.is.1 rfl).1
  by_cases hn:newM m (ms.getD (posM ms m.name) dm)=true
  ·rw [if_pos hn]
   refine ⟨fun _ e=>?_,fun _=>hn⟩
   have h2:ms.getD (posM ms m.name) dm=m:=by
    have:(ms.set (posM ms m.name) m).getD (posM ms m.name) dm=m:=by simp [List.getD,hp]
    rwa [e] at this
   rw [h2,newM_self] at hn
   cases hn
  ·rw [if_neg hn]
   exact ⟨fun h=>absurd h hn,fun h=>absurd rfl h⟩
def rfP (n:Nd):Nat:=posM n.ms n.name
def rfF (n:Nd):Bool:=isM n.ms n.name
def rfL (n:Nd):List Mem:=refL n.ms (rfP n) (rfF n)
def rfM (n:Nd):Mem:=mOf (rfL n) n.name
def rfE (n:Nd):Int:=if refE n.ms (rfP n) (rfF n)=0 then (if refR n.ms (rfP n) (rfF n)=true then putE n.rs (rfM n) else 0) else refE n.ms (rfP n) (rfF n)
def rfN (n:Nd):Nd:=if refR n.ms (rfP n) (rfF n)=true then { n with ms:=rfL n,rs:=putL n.rs (rfM n) } else { n with ms:=rfL n }
def sp1 (n:Nd) (m:Mem):Nd:=if chgB n.ms m=true then { n with ms:=hearL n.ms m,rs:=putL n.rs m } else { n with ms:=hearL n.ms m }
def sp1E (n:Nd) (m:Mem):Int:=if joinE n.ms [m]=0 then (if chgB n.ms m=true then putE n.rs m else 0) else joinE n.ms [m]
def spE (n:Nd) (m:Mem):Int:=if sp1E n m=0 then (if m.name=n.name then rfE (sp1 n m) else 0) else sp1E n m
def spN (n:Nd) (m:Mem):Nd:=if m.name=n.name then rfN (sp1 n m) else sp1 n m
theorem mOf_at {ms:List Mem} {t:ByteArray} {p:Nat} (h:At ms t p true):mOf ms t=ms.getD p dm:=mOf_some (fst_some_of h)
theorem at_set {ms:List Mem} {t:ByteArray} {p:Nat} (h:At ms t p true) {x:Mem} (hx:x.name=t):At (ms.set p x) t p true:=by
 obtain ⟨h1,h2⟩:=h.is.1 rfl
 have hg:∀ j,(ms.set p x).getD j dm=if j=p then x else ms.getD j dm:=fun j=>by
  by_cases e:j=p
  ·subst e;simp [List.getD,h1]
  ·simp [List.getD,List.getElem?_set_ne (Ne.symm e),e]
 refine ⟨by rw [List.length_set];exact h.le,fun j hj=>?_,fun j hj hl=>?_,⟨fun _=>⟨by rw [List.length_set];exact h1,?_⟩,fun _=>rfl⟩⟩
 ·rw [hg j,if_neg (by omega)];exact h.lo j hj
 ·rw [hg j]
  split
  ·rw [hx,(cmpI_eq t t).2 rfl];omega
  ·rw [List.length_set] at hl;exact h.hi j hj hl
 ·rw [hg p,if_pos rfl,hx];exact (cmpI_eq t t).2 rfl
theorem mem_e0 (m:Mem):m.e=0↔labB m.name=true∧within m.state 1 4=true∧within m.life 1 1000000=true∧within m.addr 0 4294967295=true:=by
 unfold Mem.e oneE
 constructor
 ·intro h
  split at h
  ·rename_i h1
   split at h
   ·rename_i h2
    split at h
    ·rename_i h3
     split at h
     ·rename_i h4;exact ⟨h1,h2,h3,h4⟩
     ·cases h
    ·cases h
   ·cases h
  ·cases h
 ·rintro ⟨h1,h2,h3,h4⟩
  rw [if_pos h1,if_pos h2,if_pos h3,if_pos h4]
theorem within_iff {n a b:Int}:within n a b=true↔a≤n∧n≤b:=by unfold within;rw [Bool.and_eq_true,decide_eq_true_eq,decide_eq_true_eq]
theorem liveAgain_e {m:Mem} (h:m.e=0) (hl:m.life≠1000000):(liveAgain m).e=0:=by
 obtain ⟨h1,h2,h3,h4⟩:=(mem_e0 m).1 h
 rw [within_iff] at h3
 exact (mem_e0 _).2 ⟨h1,rfl,within_iff.2 ⟨by show (1:Int)≤m.life+1;omega,by show m.life+1≤1000000;omega⟩,h4⟩
theorem rf_facts {n:Nd} (h:chk n.ms=0) (hR:refR n.ms (rfP n) (rfF n)=true) :
 rfF n=true∧At n.ms n.name (rfP n) true∧rfL n=n.ms.set (rfP n) (liveAgain (n.ms.getD (rfP n) dm))∧rfM n=liveAgain (n.ms.getD (rfP n) dm)∧(rfM n).e=0∧(n.ms.getD (rfP n) dm).name=n.name∧rfP n < n.ms.length:=by
 have hr:=(chk_zero h).2.1
 have hat:At n.ms n.name (rfP n) (rfF n):=at_pos hr n.name
 have hR2:=hR
 unfold refR at hR
 rw [Bool.and_eq_true,Bool.and_eq_true] at hR
 obtain ⟨⟨h1,_⟩,h3⟩:=hR
 rw [h1] at hat
 obtain ⟨hp,hc⟩:=hat.is.1 rfl
 have hn:(n.ms.getD (rfP n) dm).name=n.name:=(cmpI_eq _ _).1 hc
 have hL:rfL n=n.ms.set (rfP n) (liveAgain (n.ms.getD (rfP n) dm)):=by unfold rfL refL;rw [if_pos hR2]
 have hM:rfM n=liveAgain (n.ms.getD (rfP n) dm):=by
  unfold rfM
  rw [hL,mOf_at (at_set hat (x:=liveAgain (n.ms.getD (rfP n) dm)) hn)]
  simp [List.getD,hp]
 have he:(n.ms.getD (rfP n) dm).e=0:=chk_e0 h _ (by rw [show n.ms.getD (rfP n) dm=n.ms[rfP n] by simp [List.getD,List.getElem?_eq_getElem hp]];exact List.getElem_mem _)
 exact ⟨h1,hat,hL,hM,by rw [hM];exact liveAgain_e he (by simpa using h3),hn,hp⟩
theorem refL_ok {ms:List Mem} {p:Nat} {f:Bool} (h:∀ m∈ms,m.name.size≤maxLen):∀ m∈refL ms p f,m.name.size≤maxLen:=by
 intro m hm
 unfold refL at hm
 split at hm
 ·rcases List.mem_or_eq_of_mem_set hm with hm | rfl
  ·exact h m hm
  ·exact ns_get h p
 ·exact h m hm
theorem refE_of {ms:List Mem} {p:Nat} {f:Bool} (h:refR ms p f=true):refE ms p f=0:=by
 unfold refR at h
 unfold refE
 rw [Bool.and_eq_true] at h
 obtain ⟨h1,h2⟩:=h
 simp only [Bool.not_eq_true'] at h2
 rw [h2];simp
set_option maxHeartbeats 12800000 in
set_option maxRecDepth 100000 in
theorem refute_any (L b:Nat) (n:Nd) (w:World) (h:Wk L w b n) (hL:L≤b) (hms:chk n.ms=0) (hrs:chkR n.rs=0) (hl:labB n.name=true) :
 Calls Tryz.prog 136 #[.pointer (some ⟨b,0,none⟩)] w fun e w'=>e=.returned (.int .i64 (rfE n))∧Sh (fun k=>k=b) w w'∧Hid (rfE n=0→Wk L w' b (rfN n)):=by
 have HWK:Hid (Wk L w b n):=h
 have hbl:=h.lt
 obtain ⟨vm,vr,vs,vg,vw,h1,h2,h3,h4⟩:=h
 have HIS:Hid (NdIs w n vm vr vs vg vw):=h2.is h4
 obtain ⟨am,cm,hvm,_⟩:=own_slice h2.ms
 subst hvm
 have HRF:Hid (∀ W,Below w.heap.size w W→Calls Tryz.prog 196 #[.slice am n.ms.length cm,.string n.name] W fun e w'=>∃ a k c,e=.returned (.tuple #[.slice a k c,.bool (refR n.ms (rfP n) (rfF n)),.int .i64 (refE n.ms (rfP n) (rfF n))])∧Below W.heap.size W w'∧(refE n.ms (rfP n) (rfF n)=0→Own W.heap.size w' (.slice a k c) (rfL n))):=fun W hW=>by
  refine (refute_good n.ms _ n.name W (HIS.out.ms.below hW) hms h4.name hl (rfP n) (rfF n) (at_pos (chk_zero hms).2.1 n.name)).mono ?_
  rintro e w' ⟨v',rfl,hb,hx,ho⟩
  by_cases h0:refE n.ms (rfP n) (rfF n)=0
  ·obtain ⟨a,c,rfl,_⟩:=own_slice (ho h0)
   exact ⟨a,_,c,rfl,hb,fun _=>ho h0⟩
  ·rw [hx h0]
   exact ⟨none,0,0,rfl,hb,fun h=>absurd h h0⟩
 have HS1:Hid (∀ W w1 a k c,Below w.heap.size w W→Below W.heap.size W w1→(refE n.ms (rfP n) (rfF n)=0→Own W.heap.size w1 (.slice a k c) (rfL n))→refE n.ms (rfP n) (rfF n)=0→Wk L (w1.setCell ⟨b,2,none⟩ (.slice a k c)) b { n with ms:=rfL n }):=fun W w1 a k c hW h1 h2 h0=>
  (HWK.out.below hW).set_ms (by have:=hW.size;omega) h1 (h2 h0) (refL_ok h4.ms)
 have HX:Hid (∀ W,Below w.heap.size w W→W.heap[b]?=some (.cells (ndA n (.slice am n.ms.length cm) vr vs vg vw) 133 (0,0))):=fun W hW=>(hW.block _ hbl).trans h1
 have HTO:Hid (∀ W,refR n.ms (rfP n) (rfF n)=true→Wk L W b { n with ms:=rfL n }→Calls Tryz.prog 135 #[.pointer (some ⟨b,0,none⟩),.string n.name] W fun e w'=>e=.returned (.int .i64 (putE n.rs (rfM n)))∧Sh (fun k=>k=b) W w'∧(putE n.rs (rfM n)=0→Wk L w' b { n with ms:=rfL n,rs:=putL n.rs (rfM n) })):=fun W hR hW=>by
  obtain ⟨_,_,f3,f4,f5,f6,f7⟩:=rf_facts hms hR
  exact tellOn_any L b { n with ms:=rfL n } n.name (rfM n) W hW hL (by show (rfL n).length≤1000;rw [f3,List.length_set];have:=(chk_zero hms).1;omega) hrs rfl f5 (by rw [f4];show (n.ms.getD (rfP n) dm).name.size≤maxLen;rw [f6];exact h4.name)
 have HE:Hid (refR n.ms (rfP n) (rfF n)=true→rfE n=putE n.rs (rfM n)∧rfN n={ n with ms:=rfL n,rs:=putL n.rs (rfM n) }):=fun hR=>by
  unfold rfE rfN
  rw [if_pos (refE_of hR),if_pos hR,if_pos hR]
  exact ⟨rfl,rfl⟩
 have HE2:Hid (refR n.ms (rfP n) (rfF n)=false→rfE n=refE n.ms (rfP n) (rfF n)∧rfN n={ n with ms:=rfL n }):=fun hR=>by
  unfold rfE rfN
  rw [hR]
  simp only [Bool.false_eq_true,if_false]
  refine ⟨?_,trivial⟩
  split
  ·rename_i h;exact h.symm
  ·rfl
 have HEZ:Hid (refR n.ms (rfP n) (rfF n)=true→refE n.ms (rfP n) (rfF n)=0):=fun hR=>refE_of hR
 have y0:w.cell? ⟨b,0,none⟩=some (.string n.name):=cellsAt h1 0
 have y2:w.cell? ⟨b,2,none⟩=some (.slice am n.ms.length cm):=cellsAt h1 2
 have HNM:Hid (∀ W,Wk L W b { n with ms:=rfL n }→W.cell? ⟨b,0,none⟩=some (.string n.name)):=fun W hW=>by
  obtain ⟨_,_,_,_,_,g1,_⟩:=hW
  exact cellsAt g1 0
 generalize rfE n=res at *
 generalize refE n.ms (rfP n) (rfF n)=re at *
 generalize refR n.ms (rfP n) (rfF n)=rr at *
 generalize putE n.rs (rfM n)=pe at *
 generalize hkm:n.ms.length=km at *
 clear hkm h1 h2 h3 h4 hms hrs
 go_enter Tryz.func136,Tryz.ntmps136
 go_wp2_with fail
 go_region_with (first | (go_at_call 196;refine (HRF.out _ (Below.refl _ _).drew).mono ?_;rintro e w1 ⟨a,k,c,rfl,hb1,ho1⟩;have HB1:Hid (Below w.heap.size w w1):=(Below.refl w.heap.size w).drew.trans hb1;have HO1:Hid (re=0→Wk L (w1.setCell ⟨b,2,none⟩ (.slice a k c)) b { n with ms:=rfL n }):=HS1.out _ _ a k c (Below.refl _ _).drew hb1 ho1;have hgx:=HX.out w1 HB1.out;have z2:w1.cell? ⟨b,2,none⟩=some (.slice am km cm):=cellsAt hgx 2;have zf:w1.frozen? ⟨b,2,none⟩=false:=frozen_of hgx 2;have HG1:Hid (w1.heap[b]?=some (.cells (ndA n (.slice am km cm) vr vs vg vw) 133 (0,0))):=hgx;clear hb1 ho1 hgx))
 all_goals
  obtain ⟨W2,hW2⟩:∃ W2,W2=w1.setCell ⟨b,2,none⟩ (.slice a k c):=⟨_,rfl⟩
  rw [← hW2] at HO1
  have HSH:Hid (Sh (fun k=>k=b) w W2):=by rw [hW2];exact (Sh.of HB1.out).setCell (S:=fun k=>k=b) rfl _
  rw [← hW2]
  clear hW2 z2 zf y0 y2
  cases rr
  ·obtain ⟨e1,e2⟩:=HE2.out rfl
   have HR:Hid (res=re):=e1
   have HN:Hid (rfN n={ n with ms:=rfL n }):=e2
   clear e1 e2 HE HE2 HTO
   go_wp2_with fail
   go_ret
   exact ⟨ret_int HR.out.symm,HSH.out,fun h=>by rw [HN.out];exact HO1.out (HR.out.symm.trans h)⟩
  ·obtain ⟨e1,e2⟩:=HE.out rfl
   have HR:Hid (res=pe):=e1
   have HN:Hid (rfN n={ n with ms:=rfL n,rs:=putL n.rs (rfM n) }):=e2
   have hwk:=HO1.out (HEZ.out rfl)
   have HTC:Hid (Calls Tryz.prog 135 #[.pointer (some ⟨b,0,none⟩),.string n.name] W2 fun e w'=>e=.returned (.int .i64 pe)∧Sh (fun k=>k=b) W2 w'∧(pe=0→Wk L w' b { n with ms:=rfL n,rs:=putL n.rs (rfM n) })):=HTO.out W2 rfl hwk
   have y0:W2.cell? ⟨b,0,none⟩=some (.string n.name):=HNM.out W2 hwk
   clear e1 e2 HE HE2 HTO hwk HO1
   go_wp2_with fail
   refine HTC.out.mono ?_
   rintro e w4 ⟨rfl,hs4,hk4⟩
   have HS4:Hid (Sh (fun k=>k=b) w w4):=HSH.out.trans hs4
   have HK4:Hid (pe=0→Wk L w4 b { n with ms:=rfL n,rs:=putL n.rs (rfM n) }):=hk4
   clear hs4 hk4
   go_wp2_with fail
   go_ret
   exact ⟨ret_int HR.out.symm,HS4.out,fun h=>by rw [HN.out];exact HK4.out (HR.out.symm.trans h)⟩
theorem hearL_ok {ms:List Mem} {m:Mem} (h:∀ x∈ms,x.name.size≤maxLen) (hm:m.name.size≤maxLen):∀ x∈hearL ms m,x.name.size≤maxLen:=fun x hx=>by
 rcases hearL_mem ms m x hx with rfl | hx
 ·exact hm
 ·exact h x hx
theorem sp1_ms (n:Nd) (m:Mem):(sp1 n m).ms=hearL n.ms m:=by unfold sp1;split<;>rfl
theorem sp1_name (n:Nd) (m:Mem):(sp1 n m).name=n.name:=by unfold sp1;split<;>rfl
theorem joinE_len {ms:List Mem} {m:Mem} (h:chk ms=0) (hm:m.e=0) (hj:joinE ms [m]=0):(hearL ms m).length≤20:=by
 rw [joinE_one h hm] at hj
 split at hj
 ·cases hj
 ·omega
theorem sp1_ok {n:Nd} {m:Mem} (h:chk n.ms=0) (hr:chkR n.rs=0) (hm:m.e=0) (h0:sp1E n m=0):chk (sp1 n m).ms=0∧chkR (sp1 n m).rs=0:=by
 unfold sp1E at h0
 split at h0
 ·rename_i hj
  rw [sp1_ms]
  refine ⟨chk_hear h hm (joinE_len h hm hj),?_⟩
  unfold sp1
  by_cases hc:chgB n.ms m=true
  ·rw [if_pos hc] at h0 ⊢
   exact chkR_put hr hm h0
  ·rw [if_neg hc];exact hr
 ·rename_i hj;exact absurd h0 hj
set_option maxHeartbeats 25600000 in
set_option maxRecDepth 100000 in
theorem spread_any (L b:Nat) (n:Nd) (m:Mem) (w:World) (h:Wk L w b n) (hL:L≤b) (hms:chk n.ms=0) (hrs:chkR n.rs=0) (hl:labB n.name=true) (hm:m.e=0) (hmz:m.name.size≤maxLen) :
 Calls Tryz.prog 89 #[.pointer (some ⟨b,0,none⟩),.agg #[.string m.name,.int .i64 m.state,.int .i64 m.life,.int .i64 m.addr,.bool m.server]] w fun e w'=>e=.returned (.int .i64 (spE n m))∧Sh (fun k=>k=b) w w'∧Hid (spE n m=0→Wk L w' b (spN n m)):=by
 have HWK:Hid (Wk L w b n):=h
 have hbl:=h.lt
 obtain ⟨vm,vr,vs,vg,vw,h1,h2,h3,h4⟩:=h
 have HIS:Hid (NdIs w n vm vr vs vg vw):=h2.is h4
 obtain ⟨am,cm,hvm,_⟩:=own_slice h2.ms
 subst hvm
 have HHR:Hid (∀ W,Below w.heap.size w W→Calls Tryz.prog 134 #[.slice am n.ms.length cm,.agg #[.string m.name,.int .i64 m.state,.int .i64 m.life,.int .i64 m.addr,.bool m.server]] W fun e w'=>∃ a k c,e=.returned (.tuple #[.slice a k c,.bool (decide (joinE n.ms [m]=0) && chgB n.ms m),.int .i64 (joinE n.ms [m])])∧Below W.heap.size W w'∧(joinE n.ms [m]=0→Own W.heap.size w' (.slice a k c) (hearL n.ms m))):=fun W hW=>by
  refine (hear_any n.ms m _ W (HIS.out.ms.below hW) hmz).mono ?_
  rintro e w' ⟨v',r,rfl,hb,hx,ho⟩
  by_cases h0:joinE n.ms [m]=0
  ·obtain ⟨ho1,ho2⟩:=ho h0
   obtain ⟨a,c,rfl,_⟩:=own_slice ho1
   refine ⟨a,_,c,?_,hb,fun _=>ho1⟩
   have e1:r=chgB n.ms m:=by rw [Bool.eq_iff_iff,ho2,chgB_iff (chk_zero hms).2.1]
   rw [e1,decide_eq_true h0,Bool.true_and]
  ·obtain ⟨rfl,rfl⟩:=hx h0
   exact ⟨none,0,0,by rw [decide_eq_false h0,Bool.false_and],hb,fun h=>absurd h h0⟩
 have HS1:Hid (∀ W w1 a k c,Below w.heap.size w W→Below W.heap.size W w1→(joinE n.ms [m]=0→Own W.heap.size w1 (.slice a k c) (hearL n.ms m))→joinE n.ms [m]=0→Wk L (w1.setCell ⟨b,2,none⟩ (.slice a k c)) b { n with ms:=hearL n.ms m }):=fun W w1 a k c hW h1 h2 h0=>
  (HWK.out.below hW).set_ms (by have:=hW.size;omega) h1 (h2 h0) (hearL_ok h4.ms hmz)
 have HX:Hid (∀ W,Below w.heap.size w W→W.heap[b]?=some (.cells (ndA n (.slice am n.ms.length cm) vr vs vg vw) 133 (0,0))):=fun W hW=>(hW.block _ hbl).trans h1
 have HTO:Hid (∀ W,joinE n.ms [m]=0→chgB n.ms m=true→Wk L W b { n with ms:=hearL n.ms m }→Calls Tryz.prog 135 #[.pointer (some ⟨b,0,none⟩),.string m.name] W fun e w'=>e=.returned (.int .i64 (putE n.rs m))∧Sh (fun k=>k=b) W w'∧(putE n.rs m=0→Wk L w' b { n with ms:=hearL n.ms m,rs:=putL n.rs m })):=fun W hj hc hW=>
  tellOn_any L b { n with ms:=hearL n.ms m } m.name m W hW hL (by show (hearL n.ms m).length≤1000;have:=joinE_len hms hm hj;omega) hrs (mOf_some (fst_hear m n.ms ((chgB_iff (chk_zero hms).2.1 m).1 hc))) hm hmz
 have HRF:Hid (∀ W,sp1E n m=0→Wk L W b (sp1 n m)→Calls Tryz.prog 136 #[.pointer (some ⟨b,0,none⟩)] W fun e w'=>e=.returned (.int .i64 (rfE (sp1 n m)))∧Sh (fun k=>k=b) W w'∧Hid (rfE (sp1 n m)=0→Wk L w' b (rfN (sp1 n m)))):=fun W h0 hW=>
  refute_any L b (sp1 n m) W hW hL (sp1_ok hms hrs hm h0).1 (sp1_ok hms hrs hm h0).2 (by rw [sp1_name];exact hl)
 have HNM:Hid (∀ W,Wk L W b (sp1 n m)→W.cell? ⟨b,0,none⟩=some (.string n.name)):=fun W hW=>by
  obtain ⟨_,_,_,_,_,g1,_⟩:=hW
  rw [← sp1_name n m]
  exact cellsAt g1 0
 have HEE:Hid (sp1E n m≠0→spE n m=sp1E n m):=fun h=>by show spE n m=_;unfold spE;rw [if_neg h]
 have HEQ:Hid (sp1E n m=0→m.name=n.name→spE n m=rfE (sp1 n m)):=fun h h2=>by show spE n m=_;unfold spE;rw [if_pos h,if_pos h2]
 have HEN:Hid (sp1E n m=0→m.name≠n.name→spE n m=0):=fun h h2=>by show spE n m=_;unfold spE;rw [if_pos h,if_neg h2]
 have HD1:Hid (joinE n.ms [m]≠0→sp1E n m=joinE n.ms [m]):=fun h=>by show sp1E n m=_;unfold sp1E;rw [if_neg h]
 have HD2:Hid (joinE n.ms [m]=0→chgB n.ms m=false→sp1E n m=0∧sp1 n m={ n with ms:=hearL n.ms m }):=fun h hc=>by
  show sp1E n m=0∧sp1 n m=_
  unfold sp1E sp1;rw [if_pos h,if_neg (by rw [hc];simp),if_neg (by rw [hc];simp)];exact ⟨rfl,rfl⟩
 have HD3:Hid (joinE n.ms [m]=0→chgB n.ms m=true→sp1E n m=putE n.rs m∧sp1 n m={ n with ms:=hearL n.ms m,rs:=putL n.rs m }):=fun h hc=>by
  show sp1E n m=_∧sp1 n m=_
  unfold sp1E sp1;rw [if_pos h,if_pos hc,if_pos hc];exact ⟨rfl,rfl⟩
 have HBM:Hid (∀ W,Wk L W b { n with ms:=hearL n.ms m }→W.cell? ⟨b,0,none⟩=some (.string n.name)):=fun W hW=>by
  obtain ⟨_,_,_,_,_,g1,_⟩:=hW
  exact cellsAt g1 0
 obtain ⟨W0,hW0⟩:∃ W0,W0=w.alloc (.cells #[.string m.name,.int .i64 m.state,.int .i64 m.life,.int .i64 m.addr,.bool m.server] 56):=⟨_,rfl⟩
 have hb0:Below w.heap.size w W0:=by rw [hW0];exact (Below.refl _ _).alloc (Nat.le_refl _) _
 have hg0:W0.heap[w.heap.size]?=some (.cells #[.string m.name,.int .i64 m.state,.int .i64 m.life,.int .i64 m.addr,.bool m.server] 56 (0,0)):=by rw [hW0];exact heap_alloc_new w _
 have hs0:W0.heap.size=w.heap.size+1:=by rw [hW0];simp
 have HB0:Hid (Below w.heap.size w W0):=hb0
 obtain ⟨x0,x1,x2,x3,x4⟩:=cells5 hg0
 have y2:W0.cell? ⟨b,2,none⟩=some (.slice am n.ms.length cm):=cellsAt (HX.out W0 hb0) 2
 have HG0:Hid (W0.heap[w.heap.size]?=some (.cells #[.string m.name,.int .i64 m.state,.int .i64 m.life,.int .i64 m.addr,.bool m.server] 56 (0,0))):=hg0
 generalize spE n m=res at *
 generalize hkm:n.ms.length=km at *
 clear hkm h1 h2 h3 h4 hms hrs hg0 hb0
 generalize joinE n.ms [m]=je at *
 generalize putE n.rs m=pe at *
 generalize sp1E n m=se at *
 generalize chgB n.ms m=cb at *
 go_enter Tryz.func89,Tryz.ntmps89
 go_upto_region 2 with fail
 rw [← hW0]
 clear hW0
 go_region_with (first | (go_at_call 134;refine (HHR.out _ HB0.out.drew).mono ?_;rintro e w1 ⟨a,k,c,rfl,hb1,ho1⟩;have HB1:Hid (Below W0.heap.size W0 w1):=(Below.refl W0.heap.size W0).drew.trans hb1;have HO1:Hid (je=0→Wk L (w1.setCell ⟨b,2,none⟩ (.slice a k c)) b { n with ms:=hearL n.ms m }):=HS1.out _ _ a k c HB0.out.drew hb1 ho1;have hgx:=HX.out w1 (HB0.out.trans (HB1.out.mono HB0.out.size));have z2:w1.cell? ⟨b,2,none⟩=some (.slice am km cm):=cellsAt hgx 2;have zf:w1.frozen? ⟨b,2,none⟩=false:=frozen_of hgx 2;have hgm:=(HB1.out.block _ (show w.heap.size < W0.heap.size by omega)).trans HG0.out;clear hb1 ho1 hgx))
 all_goals
  obtain ⟨W2,hW2⟩:∃ W2,W2=w1.setCell ⟨b,2,none⟩ (.slice a k c):=⟨_,rfl⟩
  rw [← hW2] at HO1
  have HSH:Hid (Sh (fun k=>k=b) w W2):=by rw [hW2];exact (Sh.of (HB0.out.trans (HB1.out.mono HB0.out.size))).setCell (S:=fun k=>k=b) rfl _
  have HBX:Hid (W2.heap[w.heap.size]?=some (.cells #[.string m.name,.int .i64 m.state,.int .i64 m.life,.int .i64 m.addr,.bool m.server] 56 (0,0))):=by rw [hW2];exact (Below.heap_setCell _ _ _ _ (by simp only;omega)).trans hgm
  rw [← hW2]
  clear hW2 z2 zf y2 hgm x0 x1 x2 x3 x4
  by_cases hj:je=0
  ·cases cb
   ·obtain ⟨e1,e2⟩:=HD2.out hj rfl
    have HWK2:Hid (Wk L W2 b (sp1 n m)):=by rw [e2];exact HO1.out hj
    subst hj
    clear e2 HO1 HD1 HD2 HD3 HTO HEE
    have u0:W2.cell? ⟨w.heap.size,0,none⟩=some (.string m.name):=cellsAt HBX.out 0
    have u1:W2.cell? ⟨b,0,none⟩=some (.string n.name):=HNM.out W2 HWK2.out
    by_cases hnm:m.name=n.name
    ·have hq:(m.name.toList != n.name.toList)=false:=by rw [hnm];simp
     have hq2:(m.name.toList == n.name.toList)=true:=by rw [hnm];simp
     have hq3:m.name.toList=n.name.toList:=by rw [hnm]
     have HR:Hid (res=rfE (sp1 n m)):=HEQ.out e1 hnm
     have HN:Hid (spN n m=rfN (sp1 n m)):=by show spN n m=_;unfold spN;rw [if_pos hnm]
     have HRC:Hid (∀ q,Calls Tryz.prog 136 #[.pointer (some ⟨b,0,none⟩)] (W2.drewN q) fun e w'=>e=.returned (.int .i64 (rfE (sp1 n m)))∧Sh (fun k=>k=b) (W2.drewN q) w'∧Hid (rfE (sp1 n m)=0→Wk L w' b (rfN (sp1 n m)))):=fun q=>HRF.out _ e1 (HWK2.out.below (below_drewN (Below.refl _ _) q))
     clear hnm
     generalize rfE (sp1 n m)=re at *
     go_wp2_with fail
     go_quiet (fail)
     go_wp2_with fail
     refine (HRC.out _).mono ?_
     rintro e w7 ⟨rfl,hs7,HK7⟩
     have HS7:Hid (Sh (fun k=>k=b) w w7):=HSH.out.trans ((Sh.of (below_drewN (Below.refl _ _) _)).trans hs7)
     clear hs7
     go_wp2_with fail
     go_ret
     exact ⟨ret_int HR.out.symm,HS7.out,fun h=>by rw [HN.out];exact HK7.out (HR.out.symm.trans h)⟩
    ·have hq:(m.name.toList != n.name.toList)=true:=(bne_name _ _).2 hnm
     have hq2:(m.name.toList == n.name.toList)=false:=by rw [beq_names,decide_eq_false hnm]
     have HR:Hid (res=0):=HEN.out e1 hnm
     have HN:Hid (spN n m=sp1 n m):=by show spN n m=_;unfold spN;rw [if_neg hnm]
     clear hnm
     go_wp2_with fail
     go_quiet (fail)
     go_wp2_with fail
     go_ret
     exact ⟨ret_int HR.out.symm,HSH.out.trans (Sh.of (below_drewN (Below.refl _ _) _)),fun _=>by rw [HN.out];exact HWK2.out.below (below_drewN (Below.refl _ _) _)⟩
   ·obtain ⟨e1,e2⟩:=HD3.out hj rfl
    have HWK1:=HO1.out hj
    have HTC:Hid (Calls Tryz.prog 135 #[.pointer (some ⟨b,0,none⟩),.string m.name] W2 fun e w'=>e=.returned (.int .i64 pe)∧Sh (fun k=>k=b) W2 w'∧(pe=0→Wk L w' b { n with ms:=hearL n.ms m,rs:=putL n.rs m })):=HTO.out W2 hj rfl HWK1
    have u0:W2.cell? ⟨w.heap.size,0,none⟩=some (.string m.name):=cellsAt HBX.out 0
    subst hj
    clear HWK1 HO1 HD1 HD2 HD3 HTO
    go_wp2_with fail
    refine HTC.out.mono ?_
    rintro e w4 ⟨rfl,hs4,hk4⟩
    have HS4:Hid (Sh (fun k=>k=b) w w4):=HSH.out.trans hs4
    have HBX4:w4.heap[w.heap.size]?=some (.cells #[.string m.name,.int .i64 m.state,.int .i64 m.life,.int .i64 m.addr,.bool m.server] 56 (0,0)):=(hs4.block _ ((Array.getElem?_eq_some_iff.1 HBX.out).1) (by omega)).trans HBX.out
    have HK4:Hid (pe=0→Wk L w4 b (sp1 n m)):=fun h=>by rw [e2];exact hk4 h
    have HBX:Hid (w4.heap[w.heap.size]?=some (.cells #[.string m.name,.int .i64 m.state,.int .i64 m.life,.int .i64 m.addr,.bool m.server] 56 (0,0))):=HBX4
    clear hs4 hk4 HBX4 u0 HTC e2
    by_cases hp:pe=0
    ·have HWK4:Hid (Wk L w4 b (sp1 n m)):=HK4.out hp
     have e3:se=0:=e1.trans hp
     subst hp
     clear HK4 e1 HEE
     have u0:w4.cell? ⟨w.heap.size,0,none⟩=some (.string m.name):=cellsAt HBX.out 0
     have u1:w4.cell? ⟨b,0,none⟩=some (.string n.name):=HNM.out w4 HWK4.out
     by_cases hnm:m.name=n.name
     ·have hq:(m.name.toList != n.name.toList)=false:=by rw [hnm];simp
      have hq2:(m.name.toList == n.name.toList)=true:=by rw [hnm];simp
      have hq3:m.name.toList=n.name.toList:=by rw [hnm]
      have HR:Hid (res=rfE (sp1 n m)):=HEQ.out e3 hnm
      have HN:Hid (spN n m=rfN (sp1 n m)):=by show spN n m=_;unfold spN;rw [if_pos hnm]
      have HRC:Hid (∀ q,Calls Tryz.prog 136 #[.pointer (some ⟨b,0,none⟩)] (w4.drewN q) fun e w'=>e=.returned (.int .i64 (rfE (sp1 n m)))∧Sh (fun k=>k=b) (w4.drewN q) w'∧Hid (rfE (sp1 n m)=0→Wk L w' b (rfN (sp1 n m)))):=fun q=>HRF.out _ e3 (HWK4.out.below (below_drewN (Below.refl _ _) q))
      clear hnm
      generalize rfE (sp1 n m)=re at *
      go_wp2_with fail
      go_quiet (fail)
      go_wp2_with fail
      refine (HRC.out _).mono ?_
      rintro e w7 ⟨rfl,hs7,HK7⟩
      have HS7:Hid (Sh (fun k=>k=b) w w7):=HS4.out.trans ((Sh.of (below_drewN (Below.refl _ _) _)).trans hs7)
      clear hs7
      go_wp2_with fail
      go_ret
      exact ⟨ret_int HR.out.symm,HS7.out,fun h=>by rw [HN.out];exact HK7.out (HR.out.symm.trans h)⟩
     ·have hq:(m.name.toList != n.name.toList)=true:=(bne_name _ _).2 hnm
      have hq2:(m.name.toList == n.name.toList)=false:=by rw [beq_names,decide_eq_false hnm]
      have HR:Hid (res=0):=HEN.out e3 hnm
      have HN:Hid (spN n m=sp1 n m):=by show spN n m=_;unfold spN;rw [if_neg hnm]
      clear hnm
      go_wp2_with fail
      go_quiet (fail)
      go_wp2_with fail
      go_ret
      exact ⟨ret_int HR.out.symm,HS4.out.trans (Sh.of (below_drewN (Below.refl _ _) _)),fun _=>by rw [HN.out];exact HWK4.out.below (below_drewN (Below.refl _ _) _)⟩
    ·have hp':(pe != 0)=true:=by simpa using hp
     have HR:Hid (res=pe):=(HEE.out (by rw [e1];exact hp)).trans e1
     have HPN:Hid (pe≠0):=hp
     have u0:w4.cell? ⟨w.heap.size,0,none⟩=some (.string m.name):=cellsAt HBX.out 0
     clear hp e1
     go_wp2_with fail
     go_quiet (fail)
     go_wp2_with fail
     go_ret
     exact ⟨ret_int HR.out.symm,HS4.out.trans (Sh.of (below_drewN (Below.refl _ _) _)),fun h=>absurd (HR.out.symm.trans h) HPN.out⟩
  ·have hj':(je != 0)=true:=by simpa using hj
   have hj2:decide (je=0)=false:=decide_eq_false hj
   have e1:=HD1.out hj
   have HR:Hid (res=je):=(HEE.out (by rw [e1];exact hj)).trans e1
   have HPN:Hid (je≠0):=hj
   clear hj e1 HD1 HD2 HD3
   go_wp2_with fail
   go_quiet (fail)
   go_wp2_with fail
   go_ret
   exact ⟨ret_int HR.out.symm,HSH.out.trans (Sh.of (below_drewN (Below.refl _ _) _)),fun h=>absurd (HR.out.symm.trans h) HPN.out⟩
def lrn1 (wh:List Wh.Whe) (x:Wh.Whe):List Wh.Whe:=if (wh.any fun y=>decide (y.node=x.node))=true∨20≤wh.length then wh else Wh.hearL wh x
def lrn (wh l:List Wh.Whe):List Wh.Whe:=l.foldl lrn1 wh
theorem lrn_take (wh l:List Wh.Whe) (k:Nat) (hk:k < l.length):lrn wh (l.take (k+1))=lrn1 (lrn wh (l.take k)) (l.getD k Wh.dm):=by
 unfold lrn
 rw [List.take_succ_eq_append_getElem hk,List.foldl_append]
 simp [List.getD,List.getElem?_eq_getElem hk]
structure Wh.Fine (wh:List Wh.Whe):Prop where
 rise:Wh.Rise wh
 len:wh.length≤20
 ok:∀ m∈wh,m.ok
theorem fine_lrn1 {wh:List Wh.Whe} {x:Wh.Whe} (h:Wh.Fine wh) (hx:x.ok):Wh.Fine (lrn1 wh x):=by
 unfold lrn1
 split
 ·exact h
 ·rename_i hn
  have h2:=(Wh.hearL_len wh x).2
  exact ⟨Wh.hearL_rise wh x h.rise,by omega,Wh.ns_hear h.ok hx⟩
theorem fine_lrn {wh l:List Wh.Whe} (h:Wh.Fine wh) (hl:∀ m∈l,m.ok):Wh.Fine (lrn wh l):=by
 unfold lrn
 induction l generalizing wh with
 | nil=>exact h
 | cons x r ih=>exact ih (fine_lrn1 h (hl x (by simp))) (fun m hm=>hl m (by simp [hm]))
theorem any_at {wh:List Wh.Whe} {x:Wh.Whe} {p:Nat} {f:Bool} (hr:Wh.Rise wh) (h:Wh.At wh x p f):(wh.any fun y=>decide (y.node=x.node))=f:=by
 have ho:∀ y:Wh.Whe,Wh.ord y x=0↔y.node=x.node:=fun y=>cmpI_eq _ _
 cases f
 ·rcases hh:(wh.any fun y=>decide (y.node=x.node)) with _ | _
  ·rfl
  ·obtain ⟨y,hy,he⟩:=List.any_eq_true.1 hh
   obtain ⟨j,hj,rfl⟩:=List.getElem_of_mem hy
   have he:wh[j].node=x.node:=by simpa using he
   have e:wh.getD j Wh.dm=wh[j]:=by simp [List.getD,List.getElem?_eq_getElem hj]
   have h2:Wh.At wh x j true:=by
    refine ⟨by omega,fun i hi=>?_,fun i hi hl=>?_,⟨fun _=>⟨hj,by rw [e];exact (ho _).2 he⟩,fun _=>rfl⟩⟩
    ·have hp:=List.pairwise_iff_getElem.1 hr i j (by omega) hj hi
     rw [show wh.getD i Wh.dm=wh[i]'(by omega) by simp [List.getD,List.getElem?_eq_getElem (show i < wh.length by omega)]]
     show cmpI _ _ < 0
     rw [← he];exact hp
    ·rw [show wh.getD i Wh.dm=wh[i]'hl by simp [List.getD,List.getElem?_eq_getElem hl]]
     rcases Nat.lt_or_eq_of_le hi with h3 | rfl
     ·have hp:=List.pairwise_iff_getElem.1 hr j i hj hl h3
      have hp2:cmpI wh[j].node wh[i].node < 0:=hp
      have h4:0 < cmpI wh[i].node wh[j].node:=by rw [cmpI_gt];rw [cmpI_lt] at hp2;exact hp2
      show 0≤cmpI wh[i].node x.node
      rw [← he];omega
     ·show 0≤cmpI wh[j].node x.node
      rw [(cmpI_eq _ _).2 he];omega
   have:=(Wh.at_uniq h h2).2
   cases this
 ·obtain ⟨h1,h2⟩:=h.is.1 rfl
  rw [List.any_eq_true]
  refine ⟨wh[p],List.getElem_mem h1,?_⟩
  rw [show wh.getD p Wh.dm=wh[p] by simp [List.getD,List.getElem?_eq_getElem h1]] at h2
  simpa using (ho _).1 h2
theorem own_ne {B B' k k' n n':Nat} {T T':TypeId} {w:World} {v v':Value} {xs xs':List Value} (h:w.ownsRow B T k v n xs) (h':w.ownsRow B' T' k' v' n' xs') (hT:T≠T'):v.ownBlock=none∨v.ownBlock≠v'.ownBlock:=by
 rcases h.2 with ⟨rfl,_⟩ | ⟨g,c,cur,rfl,_,hg,_⟩
 ·exact .inl rfl
 ·refine .inr fun e=>?_
  rcases h'.2 with ⟨rfl,_⟩ | ⟨g',c',cur',rfl,_,hg',_⟩
  ·cases e
  ·have:g=g':=by simpa [Value.ownBlock] using e
   subst this
   rw [hg] at hg'
   injection hg' with e1
   injection e1 with _ e2
   exact hT e2
theorem own_block_ne {B k n b:Nat} {T T':TypeId} {w:World} {v:Value} {xs:List Value} {cs:Array Value} (h:w.ownsRow B T k v n xs) (hb:w.heap[b]?=some (.cells cs T' (0,0))) (hT:T≠T'):v.ownBlock≠some b:=by
 rcases h.2 with ⟨rfl,_⟩ | ⟨g,c,cur,rfl,_,hg,_⟩
 ·intro e;cases e
 ·intro e
  have:g=b:=by simpa [Value.ownBlock] using e
  subst this
  rw [hg] at hb
  injection hb with e1
  injection e1 with _ e2
  exact hT e2
theorem Wk.ins {L b:Nat} {W w1:World} {n:Nd} {vm vr vs vg vw v:Value} {l:List Wh.Whe} (h1:W.heap[b]?=some (.cells (ndA n vm vr vs vg vw) 133 (0,0))) (h2:NdOwn L W n vm vr vs vg vw) (h3:vm.ownBlock≠some b∧vr.ownBlock≠some b∧vs.ownBlock≠some b∧vg.ownBlock≠some b∧vw.ownBlock≠some b) (h4:NdOk n)
 (hg:W.grownBy w1 vw.ownBlock) (ho:Wh.Own L w1 v l) (hl:∀ m∈l,m.ok):Wk L (w1.setCell ⟨b,11,none⟩ v) b { n with wh:=l }:=by
 have hbl:b < W.heap.size:=(Array.getElem?_eq_some_iff.1 h1).1
 have hb1:w1.heap[b]?=some (.cells (ndA n vm vr vs vg vw) 133 (0,0)):=(hg.block b hbl (fun e=>h3.2.2.2.2 e.symm)).trans h1
 have hv:v.ownBlock≠some b:=own_block_ne ho hb1 (by decide)
 refine ⟨vm,vr,vs,vg,v,Joins.block_setCell (i:=11) hb1 v,⟨?_,?_,?_,?_,ownsRow_setCell_other ho hv _⟩,⟨h3.1,h3.2.1,h3.2.2.1,h3.2.2.2.1,hv⟩,⟨h4.ms,h4.rs,h4.sv,h4.gw,hl,h4.name,h4.centre⟩⟩
 ·exact ownsRow_setCell_other (h2.ms.kept hg (own_ne h2.ms h2.wh (by decide))) h3.1 _
 ·exact ownsRow_setCell_other (h2.rs.kept hg (own_ne h2.rs h2.wh (by decide))) h3.2.1 _
 ·exact ownsRow_setCell_other (h2.sv.kept hg (own_ne h2.sv h2.wh (by decide))) h3.2.2.1 _
 ·exact ownsRow_setCell_other (h2.gw.kept hg (own_ne h2.gw h2.wh (by decide))) h3.2.2.2.1 _
theorem Sh.grown {S:Nat→Prop} {a w w':World} {row:Option Nat} (h:Sh S a w) (hg:w.grownBy w' row) (hr:∀ k,row=some k→S k):Sh S a w':=
 h.trans ⟨hg.os,hg.tape,hg.output,hg.size,fun k hk hn=>hg.block k hk (fun e=>hn (hr k e.symm))⟩
set_option maxHeartbeats 25600000 in
set_option maxRecDepth 100000 in
theorem learn_any (L b:Nat) (n:Nd) (l:List Wh.Whe) (vx:Value) (w0 w:World) (h:Wk L w b n) (hL:L≤b) (hf:Wh.Fine n.wh) (hx:Wh.Sl w0 vx l) (hB:Below w0.heap.size w0 w) (hBL:w0.heap.size≤L) (hll:l.length≤1000) :
 Calls Tryz.prog 92 #[.pointer (some ⟨b,0,none⟩),vx] w fun e w'=>e=.returned (.tuple #[])∧Sh (fun k=>L≤k) w w'∧Wk L w' b { n with wh:=lrn n.wh l }:=by
 have HWK:Hid (Wk L w b n):=h
 have HB:Hid (Below w0.heap.size w0 w):=hB
 have HFI:Hid (Wh.Fine n.wh):=hf
 obtain ⟨px,cx,rfl,hxs,hxr⟩:=hx
 have HXR:Hid (l=[]∨∃ b off,px=some ⟨b,off,none⟩∧b < w0.heap.size∧Wh.Row w0 b off l):=hxr
 have HXS:Hid (∀ j,(l.getD j Wh.dm).ok):=hxs
 have HLO:Hid (∀ m∈l,m.ok):=Wh.ns_mem hxs
 clear h hB hf hxs hxr
 generalize hN:l.length=nl at *
 have HN:Hid (l.length=nl):=hN
 clear hN
 go_enter Tryz.func92,Tryz.ntmps92
 go_wp2_with fail
 go_loopw [10] (fun i wr=>∃ k:Nat,k≤nl∧i=.int .i64 k∧Hid (Sh (fun k=>L≤k) w wr)∧Hid (Wk L wr b { n with wh:=lrn n.wh (l.take k) })) (fun i _=>nl - (intOf i).toNat)
 case atStart=>exact ⟨0,Nat.zero_le _,rfl,Sh.refl _ _,HWK⟩
 case round=>
  obtain ⟨k,hk,rfl,HSH,HW⟩:=hrel
  by_cases hlt:k < nl
  ·obtain ⟨b2,o2,hp,hl2,hr⟩:∃ b off,px=some ⟨b,off,none⟩∧b < w0.heap.size∧Wh.Row w0 b off l:=by
    rcases HXR.out with h | h
    ·have:=HN.out;rw [h] at this;simp at this;omega
    ·exact h
   subst hp
   have HBR:Hid (Below w0.heap.size w0 wr):=HB.out.trans (HSH.out.below HB.out.size (fun k hk=>by omega))
   obtain ⟨c0,c1,c2,c3,c4,c5⟩:_∧_∧_∧_∧_∧_:=by
    have hk':k < l.length:=by rw [HN.out];exact hlt
    have hq:=hr k hk'
    have hc:∀ o,wr.cell? ⟨b2,o,none⟩=w0.cell? ⟨b2,o,none⟩:=fun o=>HBR.out.cell (p:=⟨b2,o,none⟩) hl2
    simp only [← hc] at hq
    exact hq
   clear hr
   have HFK:Hid (Wh.Fine (lrn n.wh (l.take k))):=fine_lrn HFI.out (fun m hm=>HLO.out m (List.mem_of_mem_take hm))
   have HST:Hid (lrn n.wh (l.take (k+1))=lrn1 (lrn n.wh (l.take k)) (l.getD k Wh.dm)):=lrn_take n.wh l k (by rw [HN.out];exact hlt)
   have hxo:=HXS.out k
   generalize l.getD k Wh.dm=x at *
   generalize hkn:lrn n.wh (l.take k)=known at *
   clear hkn
   obtain ⟨p,f,hat⟩:=Wh.at_any known HFK.out.rise x
   have HAT:Hid (Wh.At known x p f):=hat
   have HAN:Hid ((known.any fun y=>decide (y.node=x.node))=f):=any_at HFK.out.rise hat
   clear hat
   have hbr:=HW.out.lt
   obtain ⟨vm,vr,vs,vg,vw,h1,h2,h3,h4⟩:=HW.out
   have HOW:Hid (Wh.Own L wr vw known):=h2.wh
   have HH3:Hid (vm.ownBlock≠some b∧vr.ownBlock≠some b∧vs.ownBlock≠some b∧vg.ownBlock≠some b∧vw.ownBlock≠some b):=h3
   have HH4:Hid (NdOk { n with wh:=known }):=h4
   have HH2:Hid (NdOwn L wr { n with wh:=known } vm vr vs vg vw):=h2
   obtain ⟨aw,cw,hvw,hcw⟩:=own_slice h2.wh
   simp only at hvw hcw
   subst hvw
   have HSW:Hid (Wh.Sl wr (.slice aw known.length cw) known):=h2.wh.sl (Wh.ns_get HFK.out.ok)
   have HKL:Hid (known.length≤20):=HFK.out.len
   obtain ⟨W1,hW1⟩:∃ W1,W1=wr.alloc (.cells #[.string x.node,.int .i64 x.x,.int .i64 x.y,.int .i64 x.z,.int .i64 x.h,.int .i64 x.s] 109):=⟨_,rfl⟩
   have hb1:Below wr.heap.size wr W1:=by rw [hW1];exact (Below.refl _ _).alloc (Nat.le_refl _) _
   have hs1:W1.heap.size=wr.heap.size+1:=by rw [hW1];simp
   have hg1:W1.heap[wr.heap.size]?=some (.cells #[.string x.node,.int .i64 x.x,.int .i64 x.y,.int .i64 x.z,.int .i64 x.h,.int .i64 x.s] 109 (0,0)):=by rw [hW1];exact heap_alloc_new wr _
   have HG1:Hid (W1.heap[wr.heap.size]?=some (.cells #[.string x.node,.int .i64 x.x,.int .i64 x.y,.int .i64 x.z,.int .i64 x.h,.int .i64 x.s] 109 (0,0))):=hg1
   have HB1:Hid (Below wr.heap.size wr W1):=hb1
   have HX1:Hid (∀ W,Below wr.heap.size wr W→W.heap[b]?=some (.cells (ndA { n with wh:=known } vm vr vs vg (.slice aw known.length cw)) 133 (0,0))):=fun W hW=>(hW.block _ hbr).trans h1
   obtain ⟨x0,x1,x2,x3,x4,x5⟩:=cells6 hg1
   have y11:W1.cell? ⟨b,11,none⟩=some (.slice aw known.length cw):=cellsAt (HX1.out W1 hb1) 11
   have hFI:∀ d os,Calls Tryz.prog 139 #[.slice aw known.length cw,.agg #[.string x.node,.int .i64 x.x,.int .i64 x.y,.int .i64 x.z,.int .i64 x.h,.int .i64 x.s],.func (.func 140) #[] #[]] (Go.Sort.grow (redrawn W1 d) os) fun e w''=>e=.returned (.tuple #[.int .i64 p,.bool f])∧∃ q:Regrown,w''=Go.Sort.grow (redrawn W1 q.d) q.os:=fun d os=>Calls.regrown_of ((Wh.find_any known _ x _ (HSW.out.below (hb1.trans ((below_regrown W1 d os).mono (by omega)))) (by have:=HKL.out;omega) HFK.out.rise).mono (by
    rintro e w' ⟨p',f',rfl,hb,ha⟩
    obtain ⟨rfl,rfl⟩:=Wh.at_uniq ha HAT.out
    exact ⟨rfl,hb⟩))
   have F0:∀ d os,(Go.Sort.grow (redrawn W1 d) os).cell? ⟨wr.heap.size,0,none⟩=some (.string x.node):=cell_regrown x0
   have F1:∀ d os,(Go.Sort.grow (redrawn W1 d) os).cell? ⟨wr.heap.size,1,none⟩=some (.int .i64 x.x):=cell_regrown x1
   have F2:∀ d os,(Go.Sort.grow (redrawn W1 d) os).cell? ⟨wr.heap.size,2,none⟩=some (.int .i64 x.y):=cell_regrown x2
   have F3:∀ d os,(Go.Sort.grow (redrawn W1 d) os).cell? ⟨wr.heap.size,3,none⟩=some (.int .i64 x.z):=cell_regrown x3
   have F4:∀ d os,(Go.Sort.grow (redrawn W1 d) os).cell? ⟨wr.heap.size,4,none⟩=some (.int .i64 x.h):=cell_regrown x4
   have F5:∀ d os,(Go.Sort.grow (redrawn W1 d) os).cell? ⟨wr.heap.size,5,none⟩=some (.int .i64 x.s):=cell_regrown x5
   have G11:∀ d os,(Go.Sort.grow (redrawn W1 d) os).cell? ⟨b,11,none⟩=some (.slice aw known.length cw):=cell_regrown y11
   clear h1 h2 h3 h4 hg1 hb1 x0 x1 x2 x3 x4 x5 y11
   generalize hkl:known.length=kl at *
   have HKE:Hid (known.length=kl):=hkl
   clear hkl
   have hkl20:kl≤20:=HKL.out
   go_upto_region 3 with fail
   rw [← hW1]
   clear hW1 c0 c1 c2 c3 c4 c5
   refine wp_region_quiet_below (by kernel_rfl) (by kernel_rfl) ?_
   repeat (quiet_step (exact hFI _ _))
   refine wpQuiet_nil ?_
   intro _ hw'
   obtain ⟨⟨dq,osq⟩,hw''⟩:=hw'
   subst hw''
   have HB2:Hid (Below wr.heap.size wr (Go.Sort.grow (redrawn W1 dq) osq)):=HB1.out.trans ((below_regrown W1 dq osq).mono (by omega))
   have HG2:Hid ((Go.Sort.grow (redrawn W1 dq) osq).heap[wr.heap.size]?=some (.cells #[.string x.node,.int .i64 x.x,.int .i64 x.y,.int .i64 x.z,.int .i64 x.h,.int .i64 x.s] 109 (0,0))):=((below_regrown W1 dq osq).block _ (by omega)).trans HG1.out
   clear hFI F0 F1 F2 F3 F4 F5 G11 HG1 HB1
   generalize Go.Sort.grow (redrawn W1 dq) osq=W2 at *
   have y11:W2.cell? ⟨b,11,none⟩=some (.slice aw kl cw):=cellsAt (HX1.out W2 HB2.out) 11
   have HSH2:Hid (Sh (fun k=>L≤k) w W2):=HSH.out.next HB2.out
   have HWK2:Hid (Wk L W2 b { n with wh:=known }):=HW.out.below HB2.out
   cases f
   rotate_left
   ·have HEQ:Hid (lrn n.wh (l.take (k+1))=known):=HST.out.trans (by unfold lrn1;rw [if_pos (.inl HAN.out)])
    go_wp2_with fail
    go_roundw
    case rel=>exact ⟨k+1,by omega,by go_num,HSH2,by rw [HEQ.out];exact HWK2⟩
    case measure=>simp [intOf];omega
   ·by_cases hk20:kl < 20
    rotate_left
    ·have HEQ:Hid (lrn n.wh (l.take (k+1))=known):=HST.out.trans (by unfold lrn1;rw [if_pos (.inr (by rw [HKE.out];omega))])
     go_wp2_with fail
     go_roundw
     case rel=>exact ⟨k+1,by omega,by go_num,HSH2,by rw [HEQ.out];exact HWK2⟩
     case measure=>simp [intOf];omega
    ·have HEQ:Hid (lrn n.wh (l.take (k+1))=known.take p++x :: known.drop p):=HST.out.trans (by
      unfold lrn1
      rw [if_neg (by rw [HAN.out,HKE.out];intro h;rcases h with h | h;· cases h
                     ·omega),Wh.hearL_at known x p false HAT.out,if_neg (by simp)])
     have HOKN:Hid (∀ m∈known.take p++x :: known.drop p,m.ok):=fun m hm=>by
      rcases List.mem_append.1 hm with hm | hm
      ·exact HFK.out.ok m (List.mem_of_mem_take hm)
      ·rcases List.mem_cons.1 hm with rfl | hm
       ·exact hxo
       ·exact HFK.out.ok m (List.mem_of_mem_drop hm)
     have hpl:p≤kl:=by have:=HAT.out.le;rw [HKE.out] at this;exact this
     obtain ⟨v0,v1,v2,v3,v4,v5⟩:=cells6 HG2.out
     obtain ⟨W3,hW3⟩:∃ W3,W3=(W2.alloc (.cells #[.string x.node,.int .i64 x.x,.int .i64 x.y,.int .i64 x.z,.int .i64 x.h,.int .i64 x.s] 109)).drew:=⟨_,rfl⟩
     have hb3:Below wr.heap.size wr W3:=by rw [hW3];exact (HB2.out.alloc HB2.out.size _).drew
     have hs23:W3.heap.size=W2.heap.size+1:=by rw [hW3];simp
     have hsr2:wr.heap.size≤W2.heap.size:=HB2.out.size
     have hg3:W3.heap[W2.heap.size]?=some (.cells x.cs.toArray 109 (0,0)):=by rw [hW3];exact heap_alloc_new W2 _
     have HI:Hid (Calls Tryz.prog 141 #[.slice aw kl cw,.int .i64 p,.slice (some ⟨W2.heap.size,0,none⟩) 1 1] W3 fun e w'=>∃ a q c,e=.returned (.slice a q c)∧Wh.Own L w' (.slice a q c) (known.take p++x :: known.drop p)∧W3.grownBy w' (Value.slice aw kl cw).ownBlock):=by
      refine (Wh.insert_any L p W2.heap.size _ known x W3 (HOW.out.below hb3) HAT.out.le (by rw [HKE.out];omega) (by omega) hg3 (fun e=>by have:=((HOW.out.below HB2.out).lt _ e).2;omega)).mono ?_
      rintro e w' ⟨v',rfl,ho,hg⟩
      obtain ⟨a,c,rfl,_⟩:=own_slice ho
      exact ⟨a,_,c,rfl,ho,hg⟩
     have HG3:Hid (∀ w5 a q c,Wh.Own L w5 (.slice a q c) (known.take p++x :: known.drop p)→W3.grownBy w5 (Value.slice aw kl cw).ownBlock→Wk L (w5.setCell ⟨b,11,none⟩ (.slice a q c)) b { n with wh:=known.take p++x :: known.drop p }∧Sh (fun k=>L≤k) w (w5.setCell ⟨b,11,none⟩ (.slice a q c))∧w5.heap[b]?=some (.cells (ndA { n with wh:=known } vm vr vs vg (.slice aw kl cw)) 133 (0,0))):=fun w5 a q c ho hg=>
      ⟨Wk.ins (n:={ n with wh:=known }) (HX1.out W3 hb3) (HH2.out.below hb3) HH3.out HH4.out hg ho HOKN.out,
       ((HSH.out.next hb3).grown hg (fun g hgg=>((HOW.out.below hb3).lt g hgg).1)).setCell (S:=fun k=>L≤k) hL _,
       (hg.block b (by have:=hb3.size;omega) (fun e=>HH3.out.2.2.2.2 e.symm)).trans (HX1.out W3 hb3)⟩
     have hbW2:b < W2.heap.size:=by omega
     have hrW2:wr.heap.size < W2.heap.size:=(Array.getElem?_eq_some_iff.1 HG2.out).1
     have hne1:¬ b=W2.heap.size:=by omega
     have hne2:¬ wr.heap.size=W2.heap.size:=by omega
     clear hg3 hb3
     go_upto_region 5 with fail
     go_region_with (first | (go_at_call 141;refine (show Calls _ _ _ _ _ by first | (rw [← hW3];exact HI.out) | (have h:=HI.out;rw [hW3] at h;exact h)).mono ?_;rintro e w5 ⟨a,q,c,rfl,ho5,hg5⟩;obtain ⟨i1,i2,i3⟩:=HG3.out w5 a q c ho5 hg5;have HI1:Hid (Wk L (w5.setCell ⟨b,11,none⟩ (.slice a q c)) b { n with wh:=known.take p++x :: known.drop p }):=i1;have HI2:Hid (Sh (fun k=>L≤k) w (w5.setCell ⟨b,11,none⟩ (.slice a q c))):=i2;have z11:w5.cell? ⟨b,11,none⟩=some (.slice aw kl cw):=cellsAt i3 11;have zf:w5.frozen? ⟨b,11,none⟩=false:=frozen_of i3 11;clear ho5 hg5 i1 i2 i3))
     all_goals
      go_wp2_with fail
      go_roundw
      case rel=>exact ⟨k+1,by omega,by go_num,HI2,by rw [HEQ.out];exact HI1⟩
      case measure=>simp [intOf];omega
  ·have hkn:k=nl:=by omega
   subst hkn
   have HWE:Hid (Wk L wr b { n with wh:=lrn n.wh l }):=by
    have h:=HW.out
    rw [List.take_of_length_le (by rw [HN.out];exact Nat.le_refl _)] at h
    exact h
   go_wp2_with fail
   simp only [bodyPost,results,Tryz.results92]
   exact ⟨trivial,.tuple #[],by simp,rfl,HSH.out,HWE.out⟩
end Go.Proofs.YtffdoiokmiklgaaGreatDoor
