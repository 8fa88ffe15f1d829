import Derived.Test.YtffdoiokmiklgaaGreatDoorX29
import Derived.OneCell
import Derived.Test.YtffdoiokmiklgaaGreatDoorX13
namespace Go.Proofs.YtffdoiokmiklgaaGreatDoor
open Go.RowKit
structure Sh (S:Nat→Prop) (w w':World):Prop where
 os:w'.os=w.os
 tape:w'.tape=w.tape
 output:w'.output=w.output
 size:w.heap.size≤w'.heap.size
 block:∀ k,k < w.heap.size→¬ S k→w'.heap[k]?=w.heap[k]?
theorem Sh.refl (S:Nat→Prop) (w:World):Sh S w w:=⟨rfl,rfl,rfl,Nat.le_refl _,fun _ _ _=>rfl⟩
theorem Sh.trans {S:Nat→Prop} {a b c:World} (h:Sh S a b) (k:Sh S b c):Sh S a c:=⟨k.os.trans h.os,k.tape.trans h.tape,k.output.trans h.output,Nat.le_trans h.size k.size,fun i hi hn=>(k.block i (Nat.lt_of_lt_of_le hi h.size) hn).trans (h.block i hi hn)⟩
theorem Sh.of {S:Nat→Prop} {w w':World} (h:Below w.heap.size w w'):Sh S w w':=⟨h.os,h.tape,h.output,h.size,fun k hk _=>h.block k hk⟩
theorem Sh.next {S:Nat→Prop} {a w w':World} (h:Sh S a w) (k:Below w.heap.size w w'):Sh S a w':=h.trans (.of k)
theorem Sh.alloc {S:Nat→Prop} {a w:World} (h:Sh S a w) (o:Obj):Sh S a (w.alloc o):=h.next ((Below.refl _ _).alloc (Nat.le_refl _) _)
theorem Sh.setCell {S:Nat→Prop} {a w:World} (h:Sh S a w) {b i:Nat} (hb:S b) (x:Value):Sh S a (w.setCell ⟨b,i,none⟩ x):=
 h.trans ⟨rfl,rfl,rfl,by simp [World.setCell],fun k _ hn=>Below.heap_setCell w _ x k (fun e=>hn (by simp only at e;rw [e];exact hb))⟩
theorem Sh.below {S:Nat→Prop} {w w':World} {B:Nat} (h:Sh S w w') (hB:B≤w.heap.size) (hS:∀ k,S k→B≤k):Below B w w':=⟨h.os,h.tape,h.output,h.size,fun k hk=>h.block k (by omega) (fun e=>by have:=hS k e;omega)⟩
theorem Sh.mono {S T:Nat→Prop} {w w':World} (h:Sh S w w') (hS:∀ k,S k→T k):Sh T w w':=⟨h.os,h.tape,h.output,h.size,fun k hk hn=>h.block k hk (fun e=>hn (hS k e))⟩
theorem frozen_of {w:World} {b:Nat} {cs:Array Value} {T:TypeId} (h:w.heap[b]?=some (.cells cs T (0,0))) (o:Nat):w.frozen? ⟨b,o,none⟩=false:=by simp [World.frozen?,h]
def Wk (L:Nat) (w:World) (b:Nat) (n:Nd):Prop:=∃ vm vr vs vg vw,w.heap[b]?=some (.cells (ndA n vm vr vs vg vw) 133 (0,0))∧NdOwn L w n vm vr vs vg vw ∧
 (vm.ownBlock≠some b∧vr.ownBlock≠some b∧vs.ownBlock≠some b∧vg.ownBlock≠some b∧vw.ownBlock≠some b)∧NdOk n
theorem Wk.below {L b:Nat} {w w':World} {n:Nd} (h:Wk L w b n) (hb:Below w.heap.size w w'):Wk L w' b n:=by
 obtain ⟨vm,vr,vs,vg,vw,h1,h2,h3,h4⟩:=h
 exact ⟨vm,vr,vs,vg,vw,(hb.block _ (Array.getElem?_eq_some_iff.1 h1).1).trans h1,h2.below hb,h3,h4⟩
theorem Wk.lt {L b:Nat} {w:World} {n:Nd} (h:Wk L w b n):b < w.heap.size:=by
 obtain ⟨vm,vr,vs,vg,vw,h1,_⟩:=h
 exact (Array.getElem?_eq_some_iff.1 h1).1
theorem Wk.set_ms {L b:Nat} {W w1:World} {n:Nd} (h:Wk L W b n) (hL:L≤W.heap.size) (hb:Below W.heap.size W w1) {v:Value} {l:List Mem} (ho:Own W.heap.size w1 v l) (hl:(∀ m∈l,m.name.size≤maxLen)):Wk L (w1.setCell ⟨b,2,none⟩ v) b { n with ms:=l }:=by
 obtain ⟨vm,vr,vs,vg,vw,h1,h2,h3,h4⟩:=h
 have hbl:b < W.heap.size:=(Array.getElem?_eq_some_iff.1 h1).1
 refine ⟨v,vr,vs,vg,vw,?_,⟨ownsRow_setCell_other (ho.mono hL) (fun e=>by have:=ho.lt b e;omega) _,ownsRow_setCell_other (h2.rs.below hb) h3.2.1 _,ownsRow_setCell_other (h2.sv.below hb) h3.2.2.1 _,ownsRow_setCell_other (h2.gw.below hb) h3.2.2.2.1 _,ownsRow_setCell_other (h2.wh.below hb) h3.2.2.2.2 _⟩,⟨fun e=>by have:=ho.lt b e;omega,h3.2.1,h3.2.2.1,h3.2.2.2.1,h3.2.2.2.2⟩,⟨hl,h4.rs,h4.sv,h4.gw,h4.wh,h4.name,h4.centre⟩⟩
 exact Joins.block_setCell (i:=2) ((hb.block _ hbl).trans h1) v
theorem Wk.set_rs {L b:Nat} {W w1:World} {n:Nd} (h:Wk L W b n) (hL:L≤W.heap.size) (hb:Below W.heap.size W w1) {v:Value} {l:List Rum} (ho:ROwn W.heap.size w1 v l) (hl:(∀ r∈l,r.m.name.size≤maxLen)):Wk L (w1.setCell ⟨b,3,none⟩ v) b { n with rs:=l }:=by
 obtain ⟨vm,vr,vs,vg,vw,h1,h2,h3,h4⟩:=h
 have hbl:b < W.heap.size:=(Array.getElem?_eq_some_iff.1 h1).1
 refine ⟨vm,v,vs,vg,vw,?_,⟨ownsRow_setCell_other (h2.ms.below hb) h3.1 _,ownsRow_setCell_other (ho.base hL) (fun e=>by have:=ho.lt b e;omega) _,ownsRow_setCell_other (h2.sv.below hb) h3.2.2.1 _,ownsRow_setCell_other (h2.gw.below hb) h3.2.2.2.1 _,ownsRow_setCell_other (h2.wh.below hb) h3.2.2.2.2 _⟩,⟨h3.1,fun e=>by have:=ho.lt b e;omega,h3.2.2.1,h3.2.2.2.1,h3.2.2.2.2⟩,⟨h4.ms,hl,h4.sv,h4.gw,h4.wh,h4.name,h4.centre⟩⟩
 exact Joins.block_setCell (i:=3) ((hb.block _ hbl).trans h1) v
theorem Wk.set_sv {L b:Nat} {W w1:World} {n:Nd} (h:Wk L W b n) (hL:L≤W.heap.size) (hb:Below W.heap.size W w1) {v:Value} {l:List Sv.Svc} (ho:Sv.Own W.heap.size w1 v l) (hl:(∀ m∈l,m.ok)):Wk L (w1.setCell ⟨b,4,none⟩ v) b { n with sv:=l }:=by
 obtain ⟨vm,vr,vs,vg,vw,h1,h2,h3,h4⟩:=h
 have hbl:b < W.heap.size:=(Array.getElem?_eq_some_iff.1 h1).1
 refine ⟨vm,vr,v,vg,vw,?_,⟨ownsRow_setCell_other (h2.ms.below hb) h3.1 _,ownsRow_setCell_other (h2.rs.below hb) h3.2.1 _,ownsRow_setCell_other (ho.mono hL) (fun e=>by have:=ho.lt b e;omega) _,ownsRow_setCell_other (h2.gw.below hb) h3.2.2.2.1 _,ownsRow_setCell_other (h2.wh.below hb) h3.2.2.2.2 _⟩,⟨h3.1,h3.2.1,fun e=>by have:=ho.lt b e;omega,h3.2.2.2.1,h3.2.2.2.2⟩,⟨h4.ms,h4.rs,hl,h4.gw,h4.wh,h4.name,h4.centre⟩⟩
 exact Joins.block_setCell (i:=4) ((hb.block _ hbl).trans h1) v
theorem Wk.set_gw {L b:Nat} {W w1:World} {n:Nd} (h:Wk L W b n) (hL:L≤W.heap.size) (hb:Below W.heap.size W w1) {v:Value} {l:List Gw.Gwy} (ho:Gw.Own W.heap.size w1 v l) (hl:(∀ m∈l,m.ok)):Wk L (w1.setCell ⟨b,5,none⟩ v) b { n with gw:=l }:=by
 obtain ⟨vm,vr,vs,vg,vw,h1,h2,h3,h4⟩:=h
 have hbl:b < W.heap.size:=(Array.getElem?_eq_some_iff.1 h1).1
 refine ⟨vm,vr,vs,v,vw,?_,⟨ownsRow_setCell_other (h2.ms.below hb) h3.1 _,ownsRow_setCell_other (h2.rs.below hb) h3.2.1 _,ownsRow_setCell_other (h2.sv.below hb) h3.2.2.1 _,ownsRow_setCell_other (ho.mono hL) (fun e=>by have:=ho.lt b e;omega) _,ownsRow_setCell_other (h2.wh.below hb) h3.2.2.2.2 _⟩,⟨h3.1,h3.2.1,h3.2.2.1,fun e=>by have:=ho.lt b e;omega,h3.2.2.2.2⟩,⟨h4.ms,h4.rs,h4.sv,hl,h4.wh,h4.name,h4.centre⟩⟩
 exact Joins.block_setCell (i:=5) ((hb.block _ hbl).trans h1) v
theorem shLow {S:Nat→Prop} {w w':World} (h:Sh (fun k=>S k∨w.heap.size≤k) w w'):Sh S w w':=by
 refine ⟨h.os,h.tape,h.output,h.size,fun k hk hn=>h.block k hk ?_⟩
 rintro (e | e)
 ·exact hn e
 ·omega
theorem Sh.setNew {S:Nat→Prop} {L:Nat} {a w:World} (h:Sh (fun k=>S k∨L≤k) a w) {b i:Nat} (hb:L≤b) (x:Value):Sh (fun k=>S k∨L≤k) a (w.setCell ⟨b,i,none⟩ x):=h.setCell (S:=fun k=>S k∨L≤k) (.inr hb) x
theorem Sh.setNew12 {S:Nat→Prop} {L:Nat} {a w:World} (h:Sh (fun k=>S k∨L≤k) a w) {b:Nat} (hb:L≤b) (x0 x1 x2 x3 x4 x5 x6 x7 x8 x9 x10 x11:Value):Sh (fun k=>S k∨L≤k) a ((((((((((((w.setCell ⟨b,0,none⟩ x0).setCell ⟨b,1,none⟩ x1).setCell ⟨b,2,none⟩ x2).setCell ⟨b,3,none⟩ x3).setCell ⟨b,4,none⟩ x4).setCell ⟨b,5,none⟩ x5).setCell ⟨b,6,none⟩ x6).setCell ⟨b,7,none⟩ x7).setCell ⟨b,8,none⟩ x8).setCell ⟨b,9,none⟩ x9).setCell ⟨b,10,none⟩ x10).setCell ⟨b,11,none⟩ x11):=((((((((((((h).setNew (i:=0) hb _).setNew (i:=1) hb _).setNew (i:=2) hb _).setNew (i:=3) hb _).setNew (i:=4) hb _).setNew (i:=5) hb _).setNew (i:=6) hb _).setNew (i:=7) hb _).setNew (i:=8) hb _).setNew (i:=9) hb _).setNew (i:=10) hb _).setNew (i:=11) hb _
def WorkSaysN (ne er:Int) (S:Nat→Prop) (R:Nd→World→Prop) (w:World) (e:Ending) (w':World):Prop:=Sh S w w' ∧
 ((ne≠0∧Below w.heap.size w w'∧e=.returned (.tuple #[.agg #[.string ⟨#[]⟩,.string ⟨#[]⟩,.slice none 0 0,.slice none 0 0,.slice none 0 0,.slice none 0 0,.int .i64 0,.int .i64 0,.int .i64 0,.int .i64 0,.int .i64 0,.slice none 0 0],.int .i64 ne]))∨(ne=0∧er≠0∧e=.returned (.tuple #[.agg #[.string ⟨#[]⟩,.string ⟨#[]⟩,.slice none 0 0,.slice none 0 0,.slice none 0 0,.slice none 0 0,.int .i64 0,.int .i64 0,.int .i64 0,.int .i64 0,.int .i64 0,.slice none 0 0],.int .i64 er])) ∨
 (ne=0∧er=0∧∃ n' um ur us ug uw,e=.returned (.tuple #[.agg (ndA n' um ur us ug uw),.int .i64 0])∧NdOwn w.heap.size w' n' um ur us ug uw∧NdOk n'∧R n' w'))
set_option maxHeartbeats 25600000 in
set_option maxRecDepth 100000 in
theorem workN_any (kf:Nat) (cs:Array Value) (eg:∀ args w,(callFunc kf args).run Tryz.prog w=.ok (.enter kf args) w) (n:Nd) (vm vr vs vg vw:Value) (w:World) (h:NdIs w n vm vr vs vg vw) (S:Nat→Prop) (er:Int) (R:Nd→World→Prop)
 (hF:n.e=0→∀ W b,Below w.heap.size w W→w.heap.size+2≤b→Wk (w.heap.size+2) W b n→Calls Tryz.prog kf (#[.pointer (some ⟨b,0,none⟩)]++cs) W fun e w'=>e=.returned (.int .i64 er)∧Sh (fun k=>w.heap.size+2≤k∨S k) W w'∧(er=0→∃ n',Wk (w.heap.size+2) w' b n'∧R n' w'))
 (hR:∀ n' W j x,R n' W→R n' (W.setCell ⟨w.heap.size+1,j,none⟩ x)) (hS:∀ k,S k→k < w.heap.size) :
 Calls Tryz.prog 61 #[.agg (ndA n vm vr vs vg vw),.func (.func kf) #[] cs] w fun e w'=>WorkSaysN n.e er S R w e w':=by
 have HIS:Hid (NdIs w n vm vr vs vg vw):=h
 have HOK:Hid (NdOk n):=h.ok
 have HCK:Hid (∀ W,Below w.heap.size w W→Calls Tryz.prog 60 #[.agg (ndA n vm vr vs vg vw)] W fun e w'=>e=.returned (.int .i64 n.e)∧Below W.heap.size W w'):=fun W hW=>ncheck_any n vm vr vs vg vw W (h.below hW)
 have HFR:Hid (n.e=0→∀ W,Below w.heap.size w W→Calls Tryz.prog 36 #[.agg (ndA n vm vr vs vg vw)] W fun e w'=>∃ um ur us ug uw,e=.returned (.agg (ndA n um ur us ug uw))∧NdOwn W.heap.size w' n um ur us ug uw∧Below W.heap.size W w'):=fun he W hW=>by
  have hp:=Nd.parts (Nd.e_zero he).1
  have l1:=(chk_zero hp.ms).1
  have l2:=(chkR_e0 hp.rs).1
  have l3:=(Sv.chk_zero hp.sv).1
  have l4:=(Gw.chk_zero hp.gw).1
  have l5:=(Wh.chk_zero hp.wh).1
  exact fresh_any n vm vr vs vg vw W (h.below hW) (by omega) (by omega) (by omega) (by omega) (by omega)
 have HF:Hid (n.e=0→∀ W b,Below w.heap.size w W→w.heap.size+2≤b→Wk (w.heap.size+2) W b n→Calls Tryz.prog kf (#[.pointer (some ⟨b,0,none⟩)]++cs) W fun e w'=>e=.returned (.int .i64 er)∧Sh (fun k=>w.heap.size+2≤k∨S k) W w'∧(er=0→∃ n',Wk (w.heap.size+2) w' b n'∧R n' w')):=hF
 have HR:Hid (∀ n' W j x,R n' W→R n' (W.setCell ⟨w.heap.size+1,j,none⟩ x)):=hR
 have HSL:Hid (∀ k,S k→k < w.heap.size):=hS
 clear hF hR hS
 obtain ⟨nm,ct,ms,rs,sv,gw,⟨px,py,pz,ph,pq⟩,wh⟩:=n
 obtain ⟨⟨em,cm,rfl,_,_⟩,⟨er_,cr,rfl,_,_⟩,⟨es,cs_,rfl,_,_⟩,⟨eg_,cg,rfl,_,_⟩,⟨eh,ch,rfl,_,_⟩,_,_⟩:=h
 simp only [ndA] at HCK HFR ⊢
 generalize hkm:ms.length=km at *
 have Hkm:Hid (ms.length=km):=hkm
 generalize hkr:rs.length=kr at *
 have Hkr:Hid (rs.length=kr):=hkr
 generalize hks:sv.length=ks at *
 have Hks:Hid (sv.length=ks):=hks
 generalize hkg:gw.length=kg at *
 have Hkg:Hid (gw.length=kg):=hkg
 generalize hkh:wh.length=kh at *
 have Hkh:Hid (wh.length=kh):=hkh
 clear hkm hkr hks hkg hkh
 have HNE:Hid (∃ ne,ne=Nd.e ⟨nm,ct,ms,rs,sv,gw,⟨px,py,pz,ph,pq⟩,wh⟩):=⟨_,rfl⟩
 generalize Nd.e ⟨nm,ct,ms,rs,sv,gw,⟨px,py,pz,ph,pq⟩,wh⟩=ne at *
 obtain ⟨W0,hW0⟩:∃ W0,W0=(w.alloc (.cells #[.string nm,.string ct,.slice em km cm,.slice er_ kr cr,.slice es ks cs_,.slice eg_ kg cg,.int .i64 px,.int .i64 py,.int .i64 pz,.int .i64 ph,.int .i64 pq,.slice eh kh ch] 51)).alloc (.cells #[.string ⟨#[]⟩,.string ⟨#[]⟩,.slice none 0 0,.slice none 0 0,.slice none 0 0,.slice none 0 0,.int .i64 0,.int .i64 0,.int .i64 0,.int .i64 0,.int .i64 0,.slice none 0 0] 51):=⟨_,rfl⟩
 have hb0:Below w.heap.size w W0:=by rw [hW0];exact ((Below.refl _ _).alloc (Nat.le_refl _) _).alloc (by simp) _
 have hg0:W0.heap[w.heap.size]?=some (.cells #[.string nm,.string ct,.slice em km cm,.slice er_ kr cr,.slice es ks cs_,.slice eg_ kg cg,.int .i64 px,.int .i64 py,.int .i64 pz,.int .i64 ph,.int .i64 pq,.slice eh kh ch] 51 (0,0)):=by
  rw [hW0,Below.heap_alloc _ _ _ (by simp)];exact heap_alloc_new w _
 have hz0:W0.heap[w.heap.size+1]?=some (.cells #[.string ⟨#[]⟩,.string ⟨#[]⟩,.slice none 0 0,.slice none 0 0,.slice none 0 0,.slice none 0 0,.int .i64 0,.int .i64 0,.int .i64 0,.int .i64 0,.int .i64 0,.slice none 0 0] 51 (0,0)):=by
  have h:=heap_alloc_new (w.alloc (.cells #[.string nm,.string ct,.slice em km cm,.slice er_ kr cr,.slice es ks cs_,.slice eg_ kg cg,.int .i64 px,.int .i64 py,.int .i64 pz,.int .i64 ph,.int .i64 pq,.slice eh kh ch] 51)) (.cells #[.string ⟨#[]⟩,.string ⟨#[]⟩,.slice none 0 0,.slice none 0 0,.slice none 0 0,.slice none 0 0,.int .i64 0,.int .i64 0,.int .i64 0,.int .i64 0,.int .i64 0,.slice none 0 0] 51)
  rw [hW0];simpa using h
 have hs0:W0.heap.size=w.heap.size+2:=by rw [hW0];simp
 have HB0:Hid (Below w.heap.size w W0):=hb0
 have HG0:Hid (W0.heap[w.heap.size]?=some (.cells #[.string nm,.string ct,.slice em km cm,.slice er_ kr cr,.slice es ks cs_,.slice eg_ kg cg,.int .i64 px,.int .i64 py,.int .i64 pz,.int .i64 ph,.int .i64 pq,.slice eh kh ch] 51 (0,0))):=hg0
 have HZ0:Hid (W0.heap[w.heap.size+1]?=some (.cells #[.string ⟨#[]⟩,.string ⟨#[]⟩,.slice none 0 0,.slice none 0 0,.slice none 0 0,.slice none 0 0,.int .i64 0,.int .i64 0,.int .i64 0,.int .i64 0,.int .i64 0,.slice none 0 0] 51 (0,0))):=hz0
 clear hb0 hg0 hz0
 go_enter Tryz.func61,Tryz.ntmps61
 go_wp2_with fail
 rw [← hW0]
 clear hW0
 refine (HCK.out W0 HB0.out).mono ?_
 rintro e w1 ⟨rfl,hb1⟩
 have hg1:w1.heap[w.heap.size]?=_:=(hb1.block _ (by omega)).trans HG0.out
 have hz1:w1.heap[w.heap.size+1]?=_:=(hb1.block _ (by omega)).trans HZ0.out
 have HB1:Hid (Below w.heap.size w w1):=HB0.out.trans (hb1.mono (by omega))
 have hs1:w.heap.size+1 < w1.heap.size:=(Array.getElem?_eq_some_iff.1 hz1).1
 have q0:w1.cell? ⟨w.heap.size+1,0,none⟩=_:=cellsAt hz1 0
 have qz0:w1.frozen? ⟨w.heap.size+1,0,none⟩=false:=by simp [World.frozen?,hz1]
 have q1:w1.cell? ⟨w.heap.size+1,1,none⟩=_:=cellsAt hz1 1
 have qz1:w1.frozen? ⟨w.heap.size+1,1,none⟩=false:=by simp [World.frozen?,hz1]
 have q2:w1.cell? ⟨w.heap.size+1,2,none⟩=_:=cellsAt hz1 2
 have qz2:w1.frozen? ⟨w.heap.size+1,2,none⟩=false:=by simp [World.frozen?,hz1]
 have q3:w1.cell? ⟨w.heap.size+1,3,none⟩=_:=cellsAt hz1 3
 have qz3:w1.frozen? ⟨w.heap.size+1,3,none⟩=false:=by simp [World.frozen?,hz1]
 have q4:w1.cell? ⟨w.heap.size+1,4,none⟩=_:=cellsAt hz1 4
 have qz4:w1.frozen? ⟨w.heap.size+1,4,none⟩=false:=by simp [World.frozen?,hz1]
 have q5:w1.cell? ⟨w.heap.size+1,5,none⟩=_:=cellsAt hz1 5
 have qz5:w1.frozen? ⟨w.heap.size+1,5,none⟩=false:=by simp [World.frozen?,hz1]
 have q6:w1.cell? ⟨w.heap.size+1,6,none⟩=_:=cellsAt hz1 6
 have qz6:w1.frozen? ⟨w.heap.size+1,6,none⟩=false:=by simp [World.frozen?,hz1]
 have q7:w1.cell? ⟨w.heap.size+1,7,none⟩=_:=cellsAt hz1 7
 have qz7:w1.frozen? ⟨w.heap.size+1,7,none⟩=false:=by simp [World.frozen?,hz1]
 have q8:w1.cell? ⟨w.heap.size+1,8,none⟩=_:=cellsAt hz1 8
 have qz8:w1.frozen? ⟨w.heap.size+1,8,none⟩=false:=by simp [World.frozen?,hz1]
 have q9:w1.cell? ⟨w.heap.size+1,9,none⟩=_:=cellsAt hz1 9
 have qz9:w1.frozen? ⟨w.heap.size+1,9,none⟩=false:=by simp [World.frozen?,hz1]
 have q10:w1.cell? ⟨w.heap.size+1,10,none⟩=_:=cellsAt hz1 10
 have qz10:w1.frozen? ⟨w.heap.size+1,10,none⟩=false:=by simp [World.frozen?,hz1]
 have q11:w1.cell? ⟨w.heap.size+1,11,none⟩=_:=cellsAt hz1 11
 have qz11:w1.frozen? ⟨w.heap.size+1,11,none⟩=false:=by simp [World.frozen?,hz1]
 obtain ⟨p0,p1,p2,p3,p4,p5,p6,p7,p8,p9,p10,p11⟩:=cells12 hg1
 have HZ1:Hid (w1.heap[w.heap.size+1]?=some (.cells #[.string ⟨#[]⟩,.string ⟨#[]⟩,.slice none 0 0,.slice none 0 0,.slice none 0 0,.slice none 0 0,.int .i64 0,.int .i64 0,.int .i64 0,.int .i64 0,.int .i64 0,.slice none 0 0] 51 (0,0))):=hz1
 clear hb1 hg1 hz1
 by_cases hne:ne=0
 rotate_left
 ·have hne':(ne != 0)=true:=by simpa using hne
  have HNZ:Hid (ne≠0):=hne
  have HSH:Hid (Sh (fun k=>S k∨w.heap.size≤k) w w1):=.of HB1.out
  clear hne
  go_wp2_with fail
  refine bodyPost_ret (v:=.tuple #[.agg #[.string ⟨#[]⟩,.string ⟨#[]⟩,.slice none 0 0,.slice none 0 0,.slice none 0 0,.slice none 0 0,.int .i64 0,.int .i64 0,.int .i64 0,.int .i64 0,.int .i64 0,.slice none 0 0],.int .i64 ne]) ?_ rfl ?_
  ·simp [results,Tryz.results61,go_sem,q0,q1,q2,q3,q4,q5,q6,q7,q8,q9,q10,q11]
  ·unfold WorkSaysN
   refine ⟨?_,.inl ⟨HNZ.out,?_,rfl⟩⟩
   ·exact shLow (HSH.out.setNew12 (Nat.le_succ _) _ _ _ _ _ _ _ _ _ _ _ _)
   ·exact below_set12 HB1.out (by simp) _ _ _ _ _ _ _ _ _ _ _ _
 subst hne
 have HFK:=HFR.out rfl w1 HB1.out
 have HF2:Hid (∀ W b,Below w.heap.size w W→w.heap.size+2≤b→Wk (w.heap.size+2) W b ⟨nm,ct,ms,rs,sv,gw,⟨px,py,pz,ph,pq⟩,wh⟩→Calls Tryz.prog kf (#[.pointer (some ⟨b,0,none⟩)]++cs) W fun e w'=>e=.returned (.int .i64 er)∧Sh (fun k=>w.heap.size+2≤k∨S k) W w'∧(er=0→∃ n',Wk (w.heap.size+2) w' b n'∧R n' w')):=HF.out rfl
 clear HF HFR
 go_wp2_with fail
 refine HFK.mono ?_
 rintro e w2 ⟨um,ur,us,ug,uw,rfl,ho2,hb2⟩
 obtain ⟨im,jm,hvm,_⟩:=own_slice ho2.ms
 obtain ⟨ir,jr,hvr,_⟩:=own_slice ho2.rs
 obtain ⟨is_,js,hvs,_⟩:=own_slice ho2.sv
 obtain ⟨ig,jg,hvg,_⟩:=own_slice ho2.gw
 obtain ⟨ih,jh,hvh,_⟩:=own_slice ho2.wh
 simp only at hvm hvr hvs hvg hvh
 rw [Hkm.out] at hvm
 rw [Hkr.out] at hvr
 rw [Hks.out] at hvs
 rw [Hkg.out] at hvg
 rw [Hkh.out] at hvh
 subst hvm hvr hvs hvg hvh
 obtain ⟨W3,hW3⟩:∃ W3,W3=w2.alloc (.cells #[.string nm,.string ct,.slice im km jm,.slice ir kr jr,.slice is_ ks js,.slice ig kg jg,.int .i64 px,.int .i64 py,.int .i64 pz,.int .i64 ph,.int .i64 pq,.slice ih kh jh] 133):=⟨_,rfl⟩
 have HB2:Hid (Below w.heap.size w w2):=HB1.out.trans (hb2.mono (by omega))
 have HB3:Hid (Below w.heap.size w W3):=by rw [hW3];exact HB2.out.alloc HB2.out.size _
 have hs2:w1.heap.size≤w2.heap.size:=hb2.size
 have hs3:W3.heap.size=w2.heap.size+1:=by rw [hW3];simp
 have hb23:Below w2.heap.size w2 W3:=by rw [hW3];exact (Below.refl _ _).alloc (Nat.le_refl _) _
 have HZ3:Hid (W3.heap[w.heap.size+1]?=some (.cells #[.string ⟨#[]⟩,.string ⟨#[]⟩,.slice none 0 0,.slice none 0 0,.slice none 0 0,.slice none 0 0,.int .i64 0,.int .i64 0,.int .i64 0,.int .i64 0,.int .i64 0,.slice none 0 0] 51 (0,0))):=(hb23.block _ (by omega)).trans ((hb2.block _ (by omega)).trans HZ1.out)
 have hlt:∀ {v:Value} {k:Nat},v.ownBlock=some k→k < w2.heap.size→v.ownBlock≠some w2.heap.size:=fun h hk e=>by rw [h] at e;cases e;omega
 have HWK:Hid (Wk (w.heap.size+2) W3 w2.heap.size ⟨nm,ct,ms,rs,sv,gw,⟨px,py,pz,ph,pq⟩,wh⟩):=by
  refine ⟨_,_,_,_,_,?_,⟨(ho2.ms.below hb23).mono (by omega),(ho2.rs.below hb23).base (by omega),(ho2.sv.below hb23).mono (by omega),(ho2.gw.below hb23).mono (by omega),(ho2.wh.below hb23).mono (by omega)⟩,⟨fun e=>?_,fun e=>?_,fun e=>?_,fun e=>?_,fun e=>?_⟩,HOK.out⟩
  ·rw [hW3];exact heap_alloc_new w2 _
  ·have:=(ho2.ms.lt _ e).2;omega
  ·have:=(ho2.rs.lt _ e).2;omega
  ·have:=(ho2.sv.lt _ e).2;omega
  ·have:=(ho2.gw.lt _ e).2;omega
  ·have:=(ho2.wh.lt _ e).2;omega
 have HFC:=HF2.out W3 w2.heap.size HB3.out (by omega) HWK.out
 clear ho2 hb2 hb23 hlt q0 qz0 q1 qz1 q2 qz2 q3 qz3 q4 qz4 q5 qz5 q6 qz6 q7 qz7 q8 qz8 q9 qz9 q10 qz10 q11 qz11 p0 p1 p2 p3 p4 p5 p6 p7 p8 p9 p10 p11
 go_wp2_with fail
 rw [← hW3]
 refine HFC.mono ?_
 rintro e w4 ⟨rfl,hsh,hres⟩
 have HSH:Hid (Sh (fun k=>S k∨w.heap.size≤k) w w4):=(Sh.of HB3.out).trans (hsh.mono (fun k hk=>hk.elim (fun h=>.inr (by omega)) (fun h=>.inl h)))
 have hz4:w4.heap[w.heap.size+1]?=some (.cells #[.string ⟨#[]⟩,.string ⟨#[]⟩,.slice none 0 0,.slice none 0 0,.slice none 0 0,.slice none 0 0,.int .i64 0,.int .i64 0,.int .i64 0,.int .i64 0,.int .i64 0,.slice none 0 0] 51 (0,0)):=(hsh.block _ (by omega) (fun hk=>hk.elim (fun h=>by omega) (fun h=>by have:=HSL.out _ h;omega))).trans HZ3.out
 have HRES:Hid (er=0→∃ n',Wk (w.heap.size+2) w4 w2.heap.size n'∧R n' w4):=hres
 have hs4:w.heap.size+1 < w4.heap.size:=(Array.getElem?_eq_some_iff.1 hz4).1
 have q0:w4.cell? ⟨w.heap.size+1,0,none⟩=_:=cellsAt hz4 0
 have qz0:w4.frozen? ⟨w.heap.size+1,0,none⟩=false:=by simp [World.frozen?,hz4]
 have q1:w4.cell? ⟨w.heap.size+1,1,none⟩=_:=cellsAt hz4 1
 have qz1:w4.frozen? ⟨w.heap.size+1,1,none⟩=false:=by simp [World.frozen?,hz4]
 have q2:w4.cell? ⟨w.heap.size+1,2,none⟩=_:=cellsAt hz4 2
 have qz2:w4.frozen? ⟨w.heap.size+1,2,none⟩=false:=by simp [World.frozen?,hz4]
 have q3:w4.cell? ⟨w.heap.size+1,3,none⟩=_:=cellsAt hz4 3
 have qz3:w4.frozen? ⟨w.heap.size+1,3,none⟩=false:=by simp [World.frozen?,hz4]
 have q4:w4.cell? ⟨w.heap.size+1,4,none⟩=_:=cellsAt hz4 4
 have qz4:w4.frozen? ⟨w.heap.size+1,4,none⟩=false:=by simp [World.frozen?,hz4]
 have q5:w4.cell? ⟨w.heap.size+1,5,none⟩=_:=cellsAt hz4 5
 have qz5:w4.frozen? ⟨w.heap.size+1,5,none⟩=false:=by simp [World.frozen?,hz4]
 have q6:w4.cell? ⟨w.heap.size+1,6,none⟩=_:=cellsAt hz4 6
 have qz6:w4.frozen? ⟨w.heap.size+1,6,none⟩=false:=by simp [World.frozen?,hz4]
 have q7:w4.cell? ⟨w.heap.size+1,7,none⟩=_:=cellsAt hz4 7
 have qz7:w4.frozen? ⟨w.heap.size+1,7,none⟩=false:=by simp [World.frozen?,hz4]
 have q8:w4.cell? ⟨w.heap.size+1,8,none⟩=_:=cellsAt hz4 8
 have qz8:w4.frozen? ⟨w.heap.size+1,8,none⟩=false:=by simp [World.frozen?,hz4]
 have q9:w4.cell? ⟨w.heap.size+1,9,none⟩=_:=cellsAt hz4 9
 have qz9:w4.frozen? ⟨w.heap.size+1,9,none⟩=false:=by simp [World.frozen?,hz4]
 have q10:w4.cell? ⟨w.heap.size+1,10,none⟩=_:=cellsAt hz4 10
 have qz10:w4.frozen? ⟨w.heap.size+1,10,none⟩=false:=by simp [World.frozen?,hz4]
 have q11:w4.cell? ⟨w.heap.size+1,11,none⟩=_:=cellsAt hz4 11
 have qz11:w4.frozen? ⟨w.heap.size+1,11,none⟩=false:=by simp [World.frozen?,hz4]
 clear hsh hz4 hres hW3 HFC HFK
 by_cases hee:er=0
 rotate_left
 ·have hee':(er != 0)=true:=by simpa using hee
  have HEZ:Hid (er≠0):=hee
  clear hee
  go_wp2_with fail
  refine bodyPost_ret (v:=.tuple #[.agg #[.string ⟨#[]⟩,.string ⟨#[]⟩,.slice none 0 0,.slice none 0 0,.slice none 0 0,.slice none 0 0,.int .i64 0,.int .i64 0,.int .i64 0,.int .i64 0,.int .i64 0,.slice none 0 0],.int .i64 er]) ?_ rfl ?_
  ·simp [results,Tryz.results61,go_sem,q0,q1,q2,q3,q4,q5,q6,q7,q8,q9,q10,q11]
  ·unfold WorkSaysN
   refine ⟨?_,.inr (.inl ⟨rfl,HEZ.out,rfl⟩)⟩
   exact shLow (HSH.out.setNew12 (Nat.le_succ _) _ _ _ _ _ _ _ _ _ _ _ _)
 obtain ⟨n',⟨xm,xr,xs,xg,xw,hgk,hown,hne5,hok⟩,hRR⟩:=HRES.out hee
 subst hee
 have HOWN:Hid (NdOwn (w.heap.size+2) w4 n' xm xr xs xg xw):=hown
 have HRR:Hid (R n' w4):=hRR
 have HOK2:Hid (NdOk n'):=hok
 obtain ⟨im2,jm2,hvm,_⟩:=own_slice hown.ms
 obtain ⟨ir2,jr2,hvr,_⟩:=own_slice hown.rs
 obtain ⟨is2,js2,hvs,_⟩:=own_slice hown.sv
 obtain ⟨ig2,jg2,hvg,_⟩:=own_slice hown.gw
 obtain ⟨ih2,jh2,hvh,_⟩:=own_slice hown.wh
 subst hvm hvr hvs hvg hvh
 obtain ⟨p0,p1,p2,p3,p4,p5,p6,p7,p8,p9,p10,p11⟩:=cells12 hgk
 clear hown hRR hok hne5 hgk HRES
 obtain ⟨n2,c2,ms2,rs2,sv2,gw2,⟨qx,qy,qz,qh,qq⟩,wh2⟩:=n'
 simp only at p0 p1 p2 p3 p4 p5 p6 p7 p8 p9 p10 p11
 go_wp2_with fail
 refine bodyPost_ret (v:=.tuple #[.agg #[.string n2,.string c2,.slice im2 ms2.length jm2,.slice ir2 rs2.length jr2,.slice is2 sv2.length js2,.slice ig2 gw2.length jg2,.int .i64 qx,.int .i64 qy,.int .i64 qz,.int .i64 qh,.int .i64 qq,.slice ih2 wh2.length jh2],.int .i64 0]) ?_ rfl ?_
 ·simp [results,Tryz.results61,go_sem,q0,q1,q2,q3,q4,q5,q6,q7,q8,q9,q10,q11]
 unfold WorkSaysN
 refine ⟨?_,.inr (.inr ⟨rfl,rfl,⟨n2,c2,ms2,rs2,sv2,gw2,⟨qx,qy,qz,qh,qq⟩,wh2⟩,_,_,_,_,_,rfl,⟨?_,?_,?_,?_,?_⟩,HOK2.out,?_⟩)⟩
 ·exact shLow (HSH.out.setNew12 (Nat.le_succ _) _ _ _ _ _ _ _ _ _ _ _ _)
 ·exact Own.mono (owns_set12 (HOWN.out.ms) (by simp) _ _ _ _ _ _ _ _ _ _ _ _) (by omega)
 ·exact ROwn.base (owns_set12 (HOWN.out.rs) (by simp) _ _ _ _ _ _ _ _ _ _ _ _) (by omega)
 ·exact Sv.Own.mono (owns_set12 (HOWN.out.sv) (by simp) _ _ _ _ _ _ _ _ _ _ _ _) (by omega)
 ·exact Gw.Own.mono (owns_set12 (HOWN.out.gw) (by simp) _ _ _ _ _ _ _ _ _ _ _ _) (by omega)
 ·exact Wh.Own.mono (owns_set12 (HOWN.out.wh) (by simp) _ _ _ _ _ _ _ _ _ _ _ _) (by omega)
 ·exact HR.out _ _ 11 _ (HR.out _ _ 10 _ (HR.out _ _ 9 _ (HR.out _ _ 8 _ (HR.out _ _ 7 _ (HR.out _ _ 6 _ (HR.out _ _ 5 _ (HR.out _ _ 4 _ (HR.out _ _ 3 _ (HR.out _ _ 2 _ (HR.out _ _ 1 _ (HR.out _ _ 0 _ (HRR.out))))))))))))
def WorkSays (ne er:Int) (n':Nd) (S:Nat→Prop) (R:World→Prop) (w:World) (e:Ending) (w':World):Prop:=Sh S w w' ∧
 ((ne≠0∧e=.returned (.tuple #[.agg #[.string ⟨#[]⟩,.string ⟨#[]⟩,.slice none 0 0,.slice none 0 0,.slice none 0 0,.slice none 0 0,.int .i64 0,.int .i64 0,.int .i64 0,.int .i64 0,.int .i64 0,.slice none 0 0],.int .i64 ne]))∨(ne=0∧er≠0∧e=.returned (.tuple #[.agg #[.string ⟨#[]⟩,.string ⟨#[]⟩,.slice none 0 0,.slice none 0 0,.slice none 0 0,.slice none 0 0,.int .i64 0,.int .i64 0,.int .i64 0,.int .i64 0,.int .i64 0,.slice none 0 0],.int .i64 er])) ∨
 (ne=0∧er=0∧∃ um ur us ug uw,e=.returned (.tuple #[.agg (ndA n' um ur us ug uw),.int .i64 0])∧NdOwn w.heap.size w' n' um ur us ug uw∧NdOk n'∧R w'))
theorem work_any (kf:Nat) (cs:Array Value) (eg:∀ args w,(callFunc kf args).run Tryz.prog w=.ok (.enter kf args) w) (n:Nd) (vm vr vs vg vw:Value) (w:World) (h:NdIs w n vm vr vs vg vw) (S:Nat→Prop) (er:Int) (n':Nd) (R:World→Prop)
 (hF:n.e=0→∀ W b,Below w.heap.size w W→w.heap.size+2≤b→Wk (w.heap.size+2) W b n→Calls Tryz.prog kf (#[.pointer (some ⟨b,0,none⟩)]++cs) W fun e w'=>e=.returned (.int .i64 er)∧Sh (fun k=>w.heap.size+2≤k∨S k) W w'∧(er=0→Wk (w.heap.size+2) w' b n'∧R w'))
 (hR:∀ W j x,R W→R (W.setCell ⟨w.heap.size+1,j,none⟩ x)) (hS:∀ k,S k→k < w.heap.size) :
 Calls Tryz.prog 61 #[.agg (ndA n vm vr vs vg vw),.func (.func kf) #[] cs] w fun e w'=>WorkSays n.e er n' S R w e w':=by
 refine (workN_any kf cs eg n vm vr vs vg vw w h S er (fun k W=>k=n'∧R W) (fun he W b h1 h2 h3=>(hF he W b h1 h2 h3).mono ?_) (fun k W j x h=>⟨h.1,hR W j x h.2⟩) hS).mono ?_
 ·rintro e w' ⟨h4,h5,h6⟩
  exact ⟨h4,h5,fun h=>⟨n',(h6 h).1,rfl,(h6 h).2⟩⟩
 ·rintro e w' ⟨hsh,hor⟩
  refine ⟨hsh,?_⟩
  rcases hor with ⟨h1,_,h2⟩ | h1 | ⟨h1,h2,k,um,ur,us,ug,uw,h3,h4,h5,rfl,h6⟩
  ·exact .inl ⟨h1,h2⟩
  ·exact .inr (.inl h1)
  ·exact .inr (.inr ⟨h1,h2,um,ur,us,ug,uw,h3,h4,h5,h6⟩)
theorem putL_ok {rs:List Rum} {m:Mem} (h:∀ r∈rs,r.m.name.size≤maxLen) (hm:m.name.size≤maxLen):∀ r∈putL rs m,r.m.name.size≤maxLen:=by
 intro r hr
 unfold putL at hr
 split at hr
 ·split at hr
  ·rcases List.mem_append.1 hr with hr | hr
   ·exact h r (List.mem_of_mem_eraseIdx hr)
   ·simp at hr;subst hr;exact hm
  ·exact h r hr
 ·rcases List.mem_append.1 hr with hr | hr
  ·exact h r hr
  ·simp at hr;subst hr;exact hm
set_option maxHeartbeats 6400000 in
set_option maxRecDepth 100000 in
theorem tellOn_any (L b:Nat) (n:Nd) (t:ByteArray) (m:Mem) (w:World) (h:Wk L w b n) (hL:L≤b) (hms:n.ms.length≤1000) (hrs:chkR n.rs=0) (hm:mOf n.ms t=m) (he:m.e=0) (hsz:m.name.size≤maxLen) :
 Calls Tryz.prog 135 #[.pointer (some ⟨b,0,none⟩),.string t] w fun e w'=>e=.returned (.int .i64 (putE n.rs m))∧Sh (fun k=>k=b) w w'∧(putE n.rs m=0→Wk L w' b { n with rs:=putL n.rs m }):=by
 have HWK:Hid (Wk L w b n):=h
 have hbl:=h.lt
 obtain ⟨vm,vr,vs,vg,vw,h1,h2,h3,h4⟩:=h
 have HIS:Hid (NdIs w n vm vr vs vg vw):=h2.is h4
 obtain ⟨am,cm,hvm,_⟩:=own_slice h2.ms
 obtain ⟨ar,cr,hvr,_⟩:=own_slice h2.rs
 subst hvm hvr
 have HMB:Hid (Calls Tryz.prog 93 #[.pointer (some ⟨b,0,none⟩),.string t] w fun e w'=>e=.returned (.tuple #[.agg #[.string m.name,.int .i64 m.state,.int .i64 m.life,.int .i64 m.addr,.bool m.server],.bool (fstM n.ms t).isSome])∧Below w.heap.size w w'):=by
  have hq:=wmember_any b am n.ms.length cm n.ms t w (cellsAt h1 2) HIS.out.ms hms
  rw [hm] at hq;exact hq
 have HPT:Hid (∀ W,Below w.heap.size w W→Calls Tryz.prog 195 #[.slice ar n.rs.length cr,.agg #[.string m.name,.int .i64 m.state,.int .i64 m.life,.int .i64 m.addr,.bool m.server]] W fun e w'=>∃ a k c,e=.returned (.tuple #[.slice a k c,.int .i64 (putE n.rs m)])∧Below W.heap.size W w'∧(putE n.rs m=0→ROwn W.heap.size w' (.slice a k c) (putL n.rs m))):=fun W hW=>put_any n.rs _ m W (HIS.out.rs.below hW) hsz hrs he
 have HFIN:Hid (∀ W w1 a k c,Below w.heap.size w W→Below W.heap.size W w1→(putE n.rs m=0→ROwn W.heap.size w1 (.slice a k c) (putL n.rs m))→putE n.rs m=0→Wk L (w1.setCell ⟨b,3,none⟩ (.slice a k c)) b { n with rs:=putL n.rs m }):=fun W w1 a k c hW h1 h2 h0=>
  (HWK.out.below hW).set_rs (by have:=hW.size;omega) h1 (h2 h0) (putL_ok h4.rs hsz)
 have HX:Hid (∀ W,Below w.heap.size w W→W.heap[b]?=some (.cells (ndA n (.slice am n.ms.length cm) (.slice ar n.rs.length cr) vs vg vw) 133 (0,0))):=fun W hW=>(hW.block _ hbl).trans h1
 have y2:w.cell? ⟨b,2,none⟩=_:=cellsAt h1 2
 generalize putE n.rs m=pe at *
 generalize hkr:n.rs.length=kr at *
 generalize hkm:n.ms.length=km at *
 clear hkr hkm h1 h2 h3 h4 hm he hrs
 generalize (fstM n.ms t).isSome=fd at *
 obtain ⟨mn,st,lf,ad,sv⟩:=m
 simp only at HMB HPT hsz
 go_enter Tryz.func135,Tryz.ntmps135
 go_wp2_with fail
 refine HMB.out.mono ?_
 rintro e w1 ⟨rfl,hb1⟩
 obtain ⟨W2,hW2⟩:∃ W2,W2=w1.alloc (.cells #[.string mn,.int .i64 st,.int .i64 lf,.int .i64 ad,.bool sv] 56):=⟨_,rfl⟩
 have hb2:Below w.heap.size w W2:=by rw [hW2];exact hb1.alloc hb1.size _
 have HB2:Hid (Below w.heap.size w W2):=hb2
 have hg2:W2.heap[w1.heap.size]?=some (.cells #[.string mn,.int .i64 st,.int .i64 lf,.int .i64 ad,.bool sv] 56 (0,0)):=by rw [hW2];exact heap_alloc_new w1 _
 obtain ⟨x0,x1,x2,x3,x4⟩:=cells5 hg2
 have y3:W2.cell? ⟨b,3,none⟩=some (.slice ar kr cr):=cellsAt (HX.out W2 hb2) 3
 go_upto_region 2 with fail
 rw [← hW2]
 clear hW2 hb1 hb2 hg2 y2 HMB
 have hb2':b < W2.heap.size:=by have:=HB2.out.size;omega
 go_region_with (first | (go_at_call 195;refine (HPT.out _ HB2.out.drew).mono ?_;rintro e w3 ⟨a,k,c,rfl,hb3,ho3⟩;have HB3:Hid (Below W2.heap.size W2 w3):=(Below.refl W2.heap.size W2).drew.trans hb3;have HO3:Hid (pe=0→Wk L (w3.setCell ⟨b,3,none⟩ (.slice a k c)) b { n with rs:=putL n.rs ⟨mn,st,lf,ad,sv⟩ }):=HFIN.out _ _ a k c HB2.out.drew hb3 ho3;have hgx:=HX.out w3 (HB2.out.trans (HB3.out.mono HB2.out.size));have z3:w3.cell? ⟨b,3,none⟩=some (.slice ar kr cr):=cellsAt hgx 3;have zf:w3.frozen? ⟨b,3,none⟩=false:=frozen_of hgx 3;clear hb3 ho3 hgx))
 all_goals
  go_wp2_with fail
  go_ret
  exact ⟨rfl,((Sh.of HB2.out).next HB3.out).setCell (S:=fun k=>k=b) rfl _,HO3.out⟩
theorem distinct_pw (rs:List Rum):Distinct rs↔rs.Pairwise fun a b=>a.m.name≠b.m.name:=by
 have hget:∀ j (h:j < rs.length),rs.getD j dr=rs[j]:=fun j h=>by simp [List.getD,List.getElem?_eq_getElem h]
 rw [List.pairwise_iff_getElem]
 exact ⟨fun h i j hi hj hij=>by have:=h i j hij hj;rwa [hget i hi,hget j hj] at this,fun h i j hij hj=>by rw [hget i (by omega),hget j hj];exact h i j (by omega) hj hij⟩
theorem told_mem (rs:List Rum):AllTold rs↔∀ r∈rs,within r.told 0 100=true:=by
 have hget:∀ j (h:j < rs.length),rs.getD j dr=rs[j]:=fun j h=>by simp [List.getD,List.getElem?_eq_getElem h]
 constructor
 ·intro h r hr
  obtain ⟨j,hj,rfl⟩:=List.getElem_of_mem hr
  have:=h j hj;rwa [hget j hj] at this
 ·intro h j hj
  rw [hget j hj];exact h _ (List.getElem_mem _)
theorem chkR_of {rs:List Rum} (h1:rs.length≤20) (h2:∀ r∈rs,r.m.e=0) (h3:∀ r∈rs,within r.told 0 100=true) (h4:rs.Pairwise fun a b=>a.m.name≠b.m.name):chkR rs=0:=by
 have hget:∀ j (h:j < rs.length),rs.getD j dr=rs[j]:=fun j h=>by simp [List.getD,List.getElem?_eq_getElem h]
 exact chkR_ok h1 (fun j hj=>by rw [hget j hj];exact h2 _ (List.getElem_mem _)) ((told_mem rs).2 h3) ((distinct_pw rs).2 h4)
theorem putL_mem {rs:List Rum} {m:Mem} {r:Rum} (h:r∈putL rs m):r∈rs∨r=⟨m,0⟩:=by
 unfold putL at h
 split at h
 ·split at h
  ·rcases List.mem_append.1 h with h | h
   ·exact .inl (List.mem_of_mem_eraseIdx h)
   ·exact .inr (by simpa using h)
  ·exact .inl h
 ·rcases List.mem_append.1 h with h | h
  ·exact .inl h
  ·exact .inr (by simpa using h)
theorem chkR_put {rs:List Rum} {m:Mem} (h:chkR rs=0) (hm:m.e=0) (hp:putE rs m=0):chkR (putL rs m)=0:=by
 obtain ⟨l1,l2,l3,l4⟩:=chkR_e0 h
 have hlen:(putL rs m).length≤20:=by
  unfold putE at hp
  split at hp
  ·cases hp
  ·omega
 rw [told_mem] at l3
 have hd:=(distinct_pw rs).1 l4
 refine chkR_of hlen (fun r hr=>?_) (fun r hr=>?_) ?_
 ·rcases putL_mem hr with h | rfl
  ·exact l2 r h
  ·exact hm
 ·rcases putL_mem hr with h | rfl
  ·exact l3 r h
  ·rfl
 ·unfold putL
  split
  ·rename_i hlt
   split
   ·rw [List.pairwise_append]
    refine ⟨hd.sublist (List.eraseIdx_sublist _ _),by simp,fun a ha b hb=>?_⟩
    simp at hb;subst hb
    obtain ⟨i,hi,hne,rfl⟩:=List.mem_eraseIdx_iff_getElem.1 ha
    have:=rAt_ne l4 hi hne
    rwa [show rs.getD i dr=rs[i] by simp [List.getD,List.getElem?_eq_getElem hi]] at this
   ·exact hd
  ·rename_i hlt
   rw [List.pairwise_append]
   refine ⟨hd,by simp,fun a ha b hb=>?_⟩
   simp at hb;subst hb
   obtain ⟨i,hi,rfl⟩:=List.getElem_of_mem ha
   have:=rAt_no hlt i hi
   rwa [show rs.getD i dr=rs[i] by simp [List.getD,List.getElem?_eq_getElem hi]] at this
theorem chk_of {ms:List Mem} (h1:ms.length≤20) (h2:Rise ms) (h3:∀ m∈ms,m.e=0):chk ms=0:=by
 have hget:∀ j (h:j < ms.length),ms.getD j dm=ms[j]:=fun j h=>by simp [List.getD,List.getElem?_eq_getElem h]
 rw [chk_r ms h1 (fun j hj=>by rw [hget j hj];exact h3 _ (List.getElem_mem _)),if_pos (rises_of ms h2)]
theorem chk_hear {ms:List Mem} {m:Mem} (h:chk ms=0) (hm:m.e=0) (hl:(hearL ms m).length≤20):chk (hearL ms m)=0:=by
 obtain ⟨_,h2,_⟩:=chk_zero h
 refine chk_of hl (hearL_rise ms m h2) (fun x hx=>?_)
 rcases hearL_mem ms m x hx with rfl | hx
 ·exact hm
 ·exact chk_e0 h x hx
theorem joinE_one {ms:List Mem} {m:Mem} (h:chk ms=0) (hm:m.e=0):joinE ms [m]=if 20 < (hearL ms m).length then 2 else 0:=by
 unfold joinE chkTwo
 rw [if_pos h,chk_oneR,if_pos hm]
 rfl
def chgB (ms:List Mem) (m:Mem):Bool:=match fstM ms m.name with
 | none=>true
 | some k=>newM m k
theorem newM_self (m:Mem):newM m m=false:=by
 unfold newM newB
 simp
theorem chgB_iff {ms:List Mem} (hr:Rise ms) (m:Mem):chgB ms m=true↔hearL ms m≠ms:=by
 have hat:=at_pos hr m.name
 have hf:=fst_at hr hat
 have hh:=hearL_at ms m _ _ hat
 unfold chgB
 rw [hf,hh]
 rcases he:isM ms m.name with _ | _
 ·simp only [Bool.false_eq_true,if_false,ne_eq,true_iff]
  intro e
  have:=congrArg List.length e
  have hle:=hat.le
  simp at this
  omega
 ·simp only [if_true]
  rw [he] at hat
  have hp:=(hat.is.1 rfl).1
  by_cases hn:newM m (ms.getD (posM ms m.name) dm)=true
  ·rw [if_pos hn]
   refine ⟨fun _ e=>?_,fun _=>hn⟩
   have h2:ms.getD (posM ms m.name) dm=m:=by
    have:(ms.set (posM ms m.name) m).getD (posM ms m.name) dm=m:=by simp [List.getD,hp]
    rwa [e] at this
   rw [h2,newM_self] at hn
   cases hn
  ·rw [if_neg hn]
   exact ⟨fun h=>absurd h hn,fun h=>absurd rfl h⟩
def rfP (n:Nd):Nat:=posM n.ms n.name
def rfF (n:Nd):Bool:=isM n.ms n.name
def rfL (n:Nd):List Mem:=refL n.ms (rfP n) (rfF n)
def rfM (n:Nd):Mem:=mOf (rfL n) n.name
def rfE (n:Nd):Int:=if refE n.ms (rfP n) (rfF n)=0 then (if refR n.ms (rfP n) (rfF n)=true then putE n.rs (rfM n) else 0) else refE n.ms (rfP n) (rfF n)
def rfN (n:Nd):Nd:=if refR n.ms (rfP n) (rfF n)=true then { n with ms:=rfL n,rs:=putL n.rs (rfM n) } else { n with ms:=rfL n }
def sp1 (n:Nd) (m:Mem):Nd:=if chgB n.ms m=true then { n with ms:=hearL n.ms m,rs:=putL n.rs m } else { n with ms:=hearL n.ms m }
def sp1E (n:Nd) (m:Mem):Int:=if joinE n.ms [m]=0 then (if chgB n.ms m=true then putE n.rs m else 0) else joinE n.ms [m]
def spE (n:Nd) (m:Mem):Int:=if sp1E n m=0 then (if m.name=n.name then rfE (sp1 n m) else 0) else sp1E n m
def spN (n:Nd) (m:Mem):Nd:=if m.name=n.name then rfN (sp1 n m) else sp1 n m
theorem mOf_at {ms:List Mem} {t:ByteArray} {p:Nat} (h:At ms t p true):mOf ms t=ms.getD p dm:=mOf_some (fst_some_of h)
theorem at_set {ms:List Mem} {t:ByteArray} {p:Nat} (h:At ms t p true) {x:Mem} (hx:x.name=t):At (ms.set p x) t p true:=by
 obtain ⟨h1,h2⟩:=h.is.1 rfl
 have hg:∀ j,(ms.set p x).getD j dm=if j=p then x else ms.getD j dm:=fun j=>by
  by_cases e:j=p
  ·subst e;simp [List.getD,h1]
  ·simp [List.getD,List.getElem?_set_ne (Ne.symm e),e]
 refine ⟨by rw [List.length_set];exact h.le,fun j hj=>?_,fun j hj hl=>?_,⟨fun _=>⟨by rw [List.length_set];exact h1,?_⟩,fun _=>rfl⟩⟩
 ·rw [hg j,if_neg (by omega)];exact h.lo j hj
 ·rw [hg j]
  split
  ·rw [hx,(cmpI_eq t t).2 rfl];omega
  ·rw [List.length_set] at hl;exact h.hi j hj hl
 ·rw [hg p,if_pos rfl,hx];exact (cmpI_eq t t).2 rfl
theorem mem_e0 (m:Mem):m.e=0↔labB m.name=true∧within m.state 1 4=true∧within m.life 1 1000000=true∧within m.addr 0 4294967295=true:=by
 unfold Mem.e oneE
 constructor
 ·intro h
  split at h
  ·rename_i h1
   split at h
   ·rename_i h2
    split at h
    ·rename_i h3
     split at h
     ·rename_i h4;exact ⟨h1,h2,h3,h4⟩
     ·cases h
    ·cases h
   ·cases h
  ·cases h
 ·rintro ⟨h1,h2,h3,h4⟩
  rw [if_pos h1,if_pos h2,if_pos h3,if_pos h4]
theorem within_iff {n a b:Int}:within n a b=true↔a≤n∧n≤b:=by unfold within;rw [Bool.and_eq_true,decide_eq_true_eq,decide_eq_true_eq]
theorem liveAgain_e {m:Mem} (h:m.e=0) (hl:m.life≠1000000):(liveAgain m).e=0:=by
 obtain ⟨h1,h2,h3,h4⟩:=(mem_e0 m).1 h
 rw [within_iff] at h3
 exact (mem_e0 _).2 ⟨h1,rfl,within_iff.2 ⟨by show (1:Int)≤m.life+1;omega,by show m.life+1≤1000000;omega⟩,h4⟩
theorem rf_facts {n:Nd} (h:chk n.ms=0) (hR:refR n.ms (rfP n) (rfF n)=true) :
 rfF n=true∧At n.ms n.name (rfP n) true∧rfL n=n.ms.set (rfP n) (liveAgain (n.ms.getD (rfP n) dm))∧rfM n=liveAgain (n.ms.getD (rfP n) dm)∧(rfM n).e=0∧(n.ms.getD (rfP n) dm).name=n.name∧rfP n < n.ms.length:=by
 have hr:=(chk_zero h).2.1
 have hat:At n.ms n.name (rfP n) (rfF n):=at_pos hr n.name
 have hR2:=hR
 unfold refR at hR
 rw [Bool.and_eq_true,Bool.and_eq_true] at hR
 obtain ⟨⟨h1,_⟩,h3⟩:=hR
 rw [h1] at hat
 obtain ⟨hp,hc⟩:=hat.is.1 rfl
 have hn:(n.ms.getD (rfP n) dm).name=n.name:=(cmpI_eq _ _).1 hc
 have hL:rfL n=n.ms.set (rfP n) (liveAgain (n.ms.getD (rfP n) dm)):=by unfold rfL refL;rw [if_pos hR2]
 have hM:rfM n=liveAgain (n.ms.getD (rfP n) dm):=by
  unfold rfM
  rw [hL,mOf_at (at_set hat (x:=liveAgain (n.ms.getD (rfP n) dm)) hn)]
  simp [List.getD,hp]
 have he:(n.ms.getD (rfP n) dm).e=0:=chk_e0 h _ (by rw [show n.ms.getD (rfP n) dm=n.ms[rfP n] by simp [List.getD,List.getElem?_eq_getElem hp]];exact List.getElem_mem _)
 exact ⟨h1,hat,hL,hM,by rw [hM];exact liveAgain_e he (by simpa using h3),hn,hp⟩
theorem refL_ok {ms:List Mem} {p:Nat} {f:Bool} (h:∀ m∈ms,m.name.size≤maxLen):∀ m∈refL ms p f,m.name.size≤maxLen:=by
 intro m hm
 unfold refL at hm
 split at hm
 ·rcases List.mem_or_eq_of_mem_set hm with hm | rfl
  ·exact h m hm
  ·exact ns_get h p
 ·exact h m hm
theorem refE_of {ms:List Mem} {p:Nat} {f:Bool} (h:refR ms p f=true):refE ms p f=0:=by
 unfold refR at h
 unfold refE
 rw [Bool.and_eq_true] at h
 obtain ⟨h1,h2⟩:=h
 simp only [Bool.not_eq_true'] at h2
 rw [h2];simp
set_option maxHeartbeats 12800000 in
set_option maxRecDepth 100000 in
theorem refute_any (L b:Nat) (n:Nd) (w:World) (h:Wk L w b n) (hL:L≤b) (hms:chk n.ms=0) (hrs:chkR n.rs=0) (hl:labB n.name=true) :
 Calls Tryz.prog 136 #[.pointer (some ⟨b,0,none⟩)] w fun e w'=>e=.returned (.int .i64 (rfE n))∧Sh (fun k=>k=b) w w'∧Hid (rfE n=0→Wk L w' b (rfN n)):=by
 have HWK:Hid (Wk L w b n):=h
 have hbl:=h.lt
 obtain ⟨vm,vr,vs,vg,vw,h1,h2,h3,h4⟩:=h
 have HIS:Hid (NdIs w n vm vr vs vg vw):=h2.is h4
 obtain ⟨am,cm,hvm,_⟩:=own_slice h2.ms
 subst hvm
 have HRF:Hid (∀ W,Below w.heap.size w W→Calls Tryz.prog 196 #[.slice am n.ms.length cm,.string n.name] W fun e w'=>∃ a k c,e=.returned (.tuple #[.slice a k c,.bool (refR n.ms (rfP n) (rfF n)),.int .i64 (refE n.ms (rfP n) (rfF n))])∧Below W.heap.size W w'∧(refE n.ms (rfP n) (rfF n)=0→Own W.heap.size w' (.slice a k c) (rfL n))):=fun W hW=>by
  refine (refute_good n.ms _ n.name W (HIS.out.ms.below hW) hms h4.name hl (rfP n) (rfF n) (at_pos (chk_zero hms).2.1 n.name)).mono ?_
  rintro e w' ⟨v',rfl,hb,hx,ho⟩
  by_cases h0:refE n.ms (rfP n) (rfF n)=0
  ·obtain ⟨a,c,rfl,_⟩:=own_slice (ho h0)
   exact ⟨a,_,c,rfl,hb,fun _=>ho h0⟩
  ·rw [hx h0]
   exact ⟨none,0,0,rfl,hb,fun h=>absurd h h0⟩
 have HS1:Hid (∀ W w1 a k c,Below w.heap.size w W→Below W.heap.size W w1→(refE n.ms (rfP n) (rfF n)=0→Own W.heap.size w1 (.slice a k c) (rfL n))→refE n.ms (rfP n) (rfF n)=0→Wk L (w1.setCell ⟨b,2,none⟩ (.slice a k c)) b { n with ms:=rfL n }):=fun W w1 a k c hW h1 h2 h0=>
  (HWK.out.below hW).set_ms (by have:=hW.size;omega) h1 (h2 h0) (refL_ok h4.ms)
 have HX:Hid (∀ W,Below w.heap.size w W→W.heap[b]?=some (.cells (ndA n (.slice am n.ms.length cm) vr vs vg vw) 133 (0,0))):=fun W hW=>(hW.block _ hbl).trans h1
 have HTO:Hid (∀ W,refR n.ms (rfP n) (rfF n)=true→Wk L W b { n with ms:=rfL n }→Calls Tryz.prog 135 #[.pointer (some ⟨b,0,none⟩),.string n.name] W fun e w'=>e=.returned (.int .i64 (putE n.rs (rfM n)))∧Sh (fun k=>k=b) W w'∧(putE n.rs (rfM n)=0→Wk L w' b { n with ms:=rfL n,rs:=putL n.rs (rfM n) })):=fun W hR hW=>by
  obtain ⟨_,_,f3,f4,f5,f6,f7⟩:=rf_facts hms hR
  exact tellOn_any L b { n with ms:=rfL n } n.name (rfM n) W hW hL (by show (rfL n).length≤1000;rw [f3,List.length_set];have:=(chk_zero hms).1;omega) hrs rfl f5 (by rw [f4];show (n.ms.getD (rfP n) dm).name.size≤maxLen;rw [f6];exact h4.name)
 have HE:Hid (refR n.ms (rfP n) (rfF n)=true→rfE n=putE n.rs (rfM n)∧rfN n={ n with ms:=rfL n,rs:=putL n.rs (rfM n) }):=fun hR=>by
  unfold rfE rfN
  rw [if_pos (refE_of hR),if_pos hR,if_pos hR]
  exact ⟨rfl,rfl⟩
 have HE2:Hid (refR n.ms (rfP n) (rfF n)=false→rfE n=refE n.ms (rfP n) (rfF n)∧rfN n={ n with ms:=rfL n }):=fun hR=>by
  unfold rfE rfN
  rw [hR]
  simp only [Bool.false_eq_true,if_false]
  refine ⟨?_,trivial⟩
  split
  ·rename_i h;exact h.symm
  ·rfl
 have HEZ:Hid (refR n.ms (rfP n) (rfF n)=true→refE n.ms (rfP n) (rfF n)=0):=fun hR=>refE_of hR
 have y0:w.cell? ⟨b,0,none⟩=some (.string n.name):=cellsAt h1 0
 have y2:w.cell? ⟨b,2,none⟩=some (.slice am n.ms.length cm):=cellsAt h1 2
 have HNM:Hid (∀ W,Wk L W b { n with ms:=rfL n }→W.cell? ⟨b,0,none⟩=some (.string n.name)):=fun W hW=>by
  obtain ⟨_,_,_,_,_,g1,_⟩:=hW
  exact cellsAt g1 0
 generalize rfE n=res at *
 generalize refE n.ms (rfP n) (rfF n)=re at *
 generalize refR n.ms (rfP n) (rfF n)=rr at *
 generalize putE n.rs (rfM n)=pe at *
 generalize hkm:n.ms.length=km at *
 clear hkm h1 h2 h3 h4 hms hrs
 go_enter Tryz.func136,Tryz.ntmps136
 go_wp2_with fail
 go_region_with (first | (go_at_call 196;refine (HRF.out _ (Below.refl _ _).drew).mono ?_;rintro e w1 ⟨a,k,c,rfl,hb1,ho1⟩;have HB1:Hid (Below w.heap.size w w1):=(Below.refl w.heap.size w).drew.trans hb1;have HO1:Hid (re=0→Wk L (w1.setCell ⟨b,2,none⟩ (.slice a k c)) b { n with ms:=rfL n }):=HS1.out _ _ a k c (Below.refl _ _).drew hb1 ho1;have hgx:=HX.out w1 HB1.out;have z2:w1.cell? ⟨b,2,none⟩=some (.slice am km cm):=cellsAt hgx 2;have zf:w1.frozen? ⟨b,2,none⟩=false:=frozen_of hgx 2;have HG1:Hid (w1.heap[b]?=some (.cells (ndA n (.slice am km cm) vr vs vg vw) 133 (0,0))):=hgx;clear hb1 ho1 hgx))
 all_goals
  obtain ⟨W2,hW2⟩:∃ W2,W2=w1.setCell ⟨b,2,none⟩ (.slice a k c):=⟨_,rfl⟩
  rw [← hW2] at HO1
  have HSH:Hid (Sh (fun k=>k=b) w W2):=by rw [hW2];exact (Sh.of HB1.out).setCell (S:=fun k=>k=b) rfl _
  rw [← hW2]
  clear hW2 z2 zf y0 y2
  cases rr
  ·obtain ⟨e1,e2⟩:=HE2.out rfl
   have HR:Hid (res=re):=e1
   have HN:Hid (rfN n={ n with ms:=rfL n }):=e2
   clear e1 e2 HE HE2 HTO
   go_wp2_with fail
   go_ret
   exact ⟨ret_int HR.out.symm,HSH.out,fun h=>by rw [HN.out];exact HO1.out (HR.out.symm.trans h)⟩
  ·obtain ⟨e1,e2⟩:=HE.out rfl
   have HR:Hid (res=pe):=e1
   have HN:Hid (rfN n={ n with ms:=rfL n,rs:=putL n.rs (rfM n) }):=e2
   have hwk:=HO1.out (HEZ.out rfl)
   have HTC:Hid (Calls Tryz.prog 135 #[.pointer (some ⟨b,0,none⟩),.string n.name] W2 fun e w'=>e=.returned (.int .i64 pe)∧Sh (fun k=>k=b) W2 w'∧(pe=0→Wk L w' b { n with ms:=rfL n,rs:=putL n.rs (rfM n) })):=HTO.out W2 rfl hwk
   have y0:W2.cell? ⟨b,0,none⟩=some (.string n.name):=HNM.out W2 hwk
   clear e1 e2 HE HE2 HTO hwk HO1
   go_wp2_with fail
   refine HTC.out.mono ?_
   rintro e w4 ⟨rfl,hs4,hk4⟩
   have HS4:Hid (Sh (fun k=>k=b) w w4):=HSH.out.trans hs4
   have HK4:Hid (pe=0→Wk L w4 b { n with ms:=rfL n,rs:=putL n.rs (rfM n) }):=hk4
   clear hs4 hk4
   go_wp2_with fail
   go_ret
   exact ⟨ret_int HR.out.symm,HS4.out,fun h=>by rw [HN.out];exact HK4.out (HR.out.symm.trans h)⟩
end Go.Proofs.YtffdoiokmiklgaaGreatDoor
namespace Go.Proofs.YtffdoiokmiklgaaGreatDoor
namespace Wh
open Go.RowKit
end Wh
end Go.Proofs.YtffdoiokmiklgaaGreatDoor
namespace Go.Proofs.YtffdoiokmiklgaaGreatDoor
open Go.RowKit
def lrn1 (wh:List Wh.Whe) (x:Wh.Whe):List Wh.Whe:=if (wh.any fun y=>decide (y.node=x.node))=true∨20≤wh.length then wh else Wh.hearL wh x
def lrn (wh l:List Wh.Whe):List Wh.Whe:=l.foldl lrn1 wh
structure Wh.Fine (wh:List Wh.Whe):Prop where
 rise:Wh.Rise wh
 len:wh.length≤20
 ok:∀ m∈wh,m.ok
end Go.Proofs.YtffdoiokmiklgaaGreatDoor
