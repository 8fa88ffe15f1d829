import Derived.Test.YtikgjgmgbfjcgaaGreatQ20
import Derived.OneCell
namespace Go.Proofs.YtikgjgmgbfjcgaaGreat
open Go.RowKit
structure Sh (S:Nat→Prop) (w w':World):Prop where
 os:w'.os=w.os
 tape:w'.tape=w.tape
 output:w'.output=w.output
 size:w.heap.size≤w'.heap.size
 block:∀ k,k < w.heap.size→¬ S k→w'.heap[k]?=w.heap[k]?
theorem Sh.refl (S:Nat→Prop) (w:World):Sh S w w:=⟨rfl,rfl,rfl,Nat.le_refl _,fun _ _ _=>rfl⟩
theorem Sh.trans {S:Nat→Prop} {a b c:World} (h:Sh S a b) (k:Sh S b c):Sh S a c:=⟨k.os.trans h.os,k.tape.trans h.tape,k.output.trans h.output,Nat.le_trans h.size k.size,fun i hi hn=>(k.block i (Nat.lt_of_lt_of_le hi h.size) hn).trans (h.block i hi hn)⟩
theorem Sh.of {S:Nat→Prop} {w w':World} (h:Below w.heap.size w w'):Sh S w w':=⟨h.os,h.tape,h.output,h.size,fun k hk _=>h.block k hk⟩
theorem Sh.next {S:Nat→Prop} {a w w':World} (h:Sh S a w) (k:Below w.heap.size w w'):Sh S a w':=h.trans (.of k)
theorem Sh.alloc {S:Nat→Prop} {a w:World} (h:Sh S a w) (o:Obj):Sh S a (w.alloc o):=h.next ((Below.refl _ _).alloc (Nat.le_refl _) _)
theorem Sh.drew {S:Nat→Prop} {a w:World} (h:Sh S a w):Sh S a w.drew:=⟨h.os,h.tape,h.output,h.size,h.block⟩
theorem Sh.setCell {S:Nat→Prop} {a w:World} (h:Sh S a w) {b i:Nat} (hb:S b) (x:Value):Sh S a (w.setCell ⟨b,i,none⟩ x):=
 h.trans ⟨rfl,rfl,rfl,by simp [World.setCell],fun k _ hn=>Below.heap_setCell w _ x k (fun e=>hn (by simp only at e;rw [e];exact hb))⟩
theorem Sh.below {S:Nat→Prop} {w w':World} {B:Nat} (h:Sh S w w') (hB:B≤w.heap.size) (hS:∀ k,S k→B≤k):Below B w w':=⟨h.os,h.tape,h.output,h.size,fun k hk=>h.block k (by omega) (fun e=>by have:=hS k e;omega)⟩
theorem Sh.mono {S T:Nat→Prop} {w w':World} (h:Sh S w w') (hS:∀ k,S k→T k):Sh T w w':=⟨h.os,h.tape,h.output,h.size,fun k hk hn=>h.block k hk (fun e=>hn (hS k e))⟩
theorem frozen_of {w:World} {b:Nat} {cs:Array Value} {T:TypeId} (h:w.heap[b]?=some (.cells cs T (0,0))) (o:Nat):w.frozen? ⟨b,o,none⟩=false:=by simp [World.frozen?,h]
def Wk (L:Nat) (w:World) (b:Nat) (n:Nd):Prop:=∃ vm vr vs vg vw,w.heap[b]?=some (.cells (ndA n vm vr vs vg vw) 72 (0,0))∧NdOwn L w n vm vr vs vg vw ∧
 (vm.ownBlock≠some b∧vr.ownBlock≠some b∧vs.ownBlock≠some b∧vg.ownBlock≠some b∧vw.ownBlock≠some b)∧NdOk n
theorem Wk.below {L b:Nat} {w w':World} {n:Nd} (h:Wk L w b n) (hb:Below w.heap.size w w'):Wk L w' b n:=by
 obtain ⟨vm,vr,vs,vg,vw,h1,h2,h3,h4⟩:=h
 exact ⟨vm,vr,vs,vg,vw,(hb.block _ (Array.getElem?_eq_some_iff.1 h1).1).trans h1,h2.below hb,h3,h4⟩
theorem Wk.lt {L b:Nat} {w:World} {n:Nd} (h:Wk L w b n):b < w.heap.size:=by
 obtain ⟨vm,vr,vs,vg,vw,h1,_⟩:=h
 exact (Array.getElem?_eq_some_iff.1 h1).1
theorem Wk.set_ms {L b:Nat} {W w1:World} {n:Nd} (h:Wk L W b n) (hL:L≤W.heap.size) (hb:Below W.heap.size W w1) {v:Value} {l:List Mem} (ho:Own W.heap.size w1 v l) (hl:(∀ m∈l,m.name.size≤maxLen)):Wk L (w1.setCell ⟨b,2,none⟩ v) b { n with ms:=l }:=by
 obtain ⟨vm,vr,vs,vg,vw,h1,h2,h3,h4⟩:=h
 have hbl:b < W.heap.size:=(Array.getElem?_eq_some_iff.1 h1).1
 refine ⟨v,vr,vs,vg,vw,?_,⟨ownsRow_setCell_other (ho.mono hL) (fun e=>by have:=ho.lt b e;omega) _,ownsRow_setCell_other (h2.rs.below hb) h3.2.1 _,ownsRow_setCell_other (h2.sv.below hb) h3.2.2.1 _,ownsRow_setCell_other (h2.gw.below hb) h3.2.2.2.1 _,ownsRow_setCell_other (h2.wh.below hb) h3.2.2.2.2 _⟩,⟨fun e=>by have:=ho.lt b e;omega,h3.2.1,h3.2.2.1,h3.2.2.2.1,h3.2.2.2.2⟩,⟨hl,h4.rs,h4.sv,h4.gw,h4.wh,h4.name,h4.centre⟩⟩
 exact Joins.block_setCell (i:=2) ((hb.block _ hbl).trans h1) v
theorem Wk.set_rs {L b:Nat} {W w1:World} {n:Nd} (h:Wk L W b n) (hL:L≤W.heap.size) (hb:Below W.heap.size W w1) {v:Value} {l:List Rum} (ho:ROwn W.heap.size w1 v l) (hl:(∀ r∈l,r.m.name.size≤maxLen)):Wk L (w1.setCell ⟨b,3,none⟩ v) b { n with rs:=l }:=by
 obtain ⟨vm,vr,vs,vg,vw,h1,h2,h3,h4⟩:=h
 have hbl:b < W.heap.size:=(Array.getElem?_eq_some_iff.1 h1).1
 refine ⟨vm,v,vs,vg,vw,?_,⟨ownsRow_setCell_other (h2.ms.below hb) h3.1 _,ownsRow_setCell_other (ho.base hL) (fun e=>by have:=ho.lt b e;omega) _,ownsRow_setCell_other (h2.sv.below hb) h3.2.2.1 _,ownsRow_setCell_other (h2.gw.below hb) h3.2.2.2.1 _,ownsRow_setCell_other (h2.wh.below hb) h3.2.2.2.2 _⟩,⟨h3.1,fun e=>by have:=ho.lt b e;omega,h3.2.2.1,h3.2.2.2.1,h3.2.2.2.2⟩,⟨h4.ms,hl,h4.sv,h4.gw,h4.wh,h4.name,h4.centre⟩⟩
 exact Joins.block_setCell (i:=3) ((hb.block _ hbl).trans h1) v
theorem Wk.set_sv {L b:Nat} {W w1:World} {n:Nd} (h:Wk L W b n) (hL:L≤W.heap.size) (hb:Below W.heap.size W w1) {v:Value} {l:List Sv.Svc} (ho:Sv.Own W.heap.size w1 v l) (hl:(∀ m∈l,m.ok)):Wk L (w1.setCell ⟨b,4,none⟩ v) b { n with sv:=l }:=by
 obtain ⟨vm,vr,vs,vg,vw,h1,h2,h3,h4⟩:=h
 have hbl:b < W.heap.size:=(Array.getElem?_eq_some_iff.1 h1).1
 refine ⟨vm,vr,v,vg,vw,?_,⟨ownsRow_setCell_other (h2.ms.below hb) h3.1 _,ownsRow_setCell_other (h2.rs.below hb) h3.2.1 _,ownsRow_setCell_other (ho.mono hL) (fun e=>by have:=ho.lt b e;omega) _,ownsRow_setCell_other (h2.gw.below hb) h3.2.2.2.1 _,ownsRow_setCell_other (h2.wh.below hb) h3.2.2.2.2 _⟩,⟨h3.1,h3.2.1,fun e=>by have:=ho.lt b e;omega,h3.2.2.2.1,h3.2.2.2.2⟩,⟨h4.ms,h4.rs,hl,h4.gw,h4.wh,h4.name,h4.centre⟩⟩
 exact Joins.block_setCell (i:=4) ((hb.block _ hbl).trans h1) v
theorem Wk.set_gw {L b:Nat} {W w1:World} {n:Nd} (h:Wk L W b n) (hL:L≤W.heap.size) (hb:Below W.heap.size W w1) {v:Value} {l:List Gw.Gwy} (ho:Gw.Own W.heap.size w1 v l) (hl:(∀ m∈l,m.ok)):Wk L (w1.setCell ⟨b,5,none⟩ v) b { n with gw:=l }:=by
 obtain ⟨vm,vr,vs,vg,vw,h1,h2,h3,h4⟩:=h
 have hbl:b < W.heap.size:=(Array.getElem?_eq_some_iff.1 h1).1
 refine ⟨vm,vr,vs,v,vw,?_,⟨ownsRow_setCell_other (h2.ms.below hb) h3.1 _,ownsRow_setCell_other (h2.rs.below hb) h3.2.1 _,ownsRow_setCell_other (h2.sv.below hb) h3.2.2.1 _,ownsRow_setCell_other (ho.mono hL) (fun e=>by have:=ho.lt b e;omega) _,ownsRow_setCell_other (h2.wh.below hb) h3.2.2.2.2 _⟩,⟨h3.1,h3.2.1,h3.2.2.1,fun e=>by have:=ho.lt b e;omega,h3.2.2.2.2⟩,⟨h4.ms,h4.rs,h4.sv,hl,h4.wh,h4.name,h4.centre⟩⟩
 exact Joins.block_setCell (i:=5) ((hb.block _ hbl).trans h1) v
def setAll (b:Nat):List Value→Nat→World→World
 | [],_,w=>w
 | x :: r,j,w=>setAll b r (j+1) (w.setCell ⟨b,j,none⟩ x)
theorem setAll_below {B b:Nat} (hb:B≤b):∀ (L:List Value) (j:Nat) {a w:World},Below B a w→Below B a (setAll b L j w)
 | [],_,_,_,h=>h
 | _ :: r,j,_,_,h=>setAll_below hb r (j+1) (h.setCell (p:=⟨b,j,none⟩) hb _)
theorem setAll_owns {base b n k:Nat} {T:TypeId} {v:Value} {xs:List Value} (hb:b < base):∀ (L:List Value) (j:Nat) {w:World},w.ownsRow base T k v n xs→(setAll b L j w).ownsRow base T k v n xs
 | [],_,_,h=>h
 | _ :: r,j,_,h=>setAll_owns hb r (j+1) (ownsRow_setCell_below h hb _)
theorem setAll_other {b c:Nat} (hc:c≠b):∀ (L:List Value) (j:Nat) (w:World),(setAll b L j w).heap[c]?=w.heap[c]?
 | [],_,_=>rfl
 | _ :: r,j,_=>(setAll_other hc r (j+1) _).trans (Below.heap_setCell _ _ _ _ hc)
theorem setAll_size (b:Nat):∀ (L:List Value) (j:Nat) (w:World),(setAll b L j w).heap.size=w.heap.size
 | [],_,_=>rfl
 | _ :: r,j,_=>(setAll_size b r (j+1) _).trans (by simp [World.setCell])
theorem owns_below {base n k:Nat} {T:TypeId} {w w':World} {v:Value} {xs:List Value} (h:w.ownsRow base T k v n xs) (hb:Below w.heap.size w w'):w'.ownsRow base T k v n xs:=by
 rcases h.2 with ⟨rfl,h0⟩ | ⟨g,c,cur,rfl,hbg,hg,hnc,hcm,hcs,htake⟩
 ·exact ⟨h.1,.inl ⟨rfl,h0⟩⟩
 ·have hlt:g < w.heap.size:=(Array.getElem?_eq_some_iff.1 hg).1
  exact ⟨h.1,.inr ⟨g,c,cur,rfl,hbg,(hb.block g hlt).trans hg,hnc,hcm,hcs,htake⟩⟩
theorem drew_heap (w:World):w.drew.heap=w.heap:=rfl
theorem drew_owns {base n k:Nat} {T:TypeId} {w:World} {v:Value} {xs:List Value} (h:w.ownsRow base T k v n xs):w.drew.ownsRow base T k v n xs:=h
theorem drew_below {B:Nat} {a w:World} (h:Below B a w):Below B a w.drew:=⟨h.os,h.tape,h.output,h.size,h.block⟩
theorem setAll_block {b:Nat} {T:TypeId} {f:Nat × Nat}:∀ (L pre suf:List Value) {w:World},w.heap[b]?=some (.cells (pre++suf).toArray T f)→suf.length=L.length→(setAll b L pre.length w).heap[b]?=some (.cells (pre++L).toArray T f)
 | [],pre,suf,w,h,hl=>by
   have:suf=[]:=List.eq_nil_of_length_eq_zero (by simpa using hl)
   subst this;exact h
 | x :: r,pre,[],w,h,hl=>absurd hl (by simp)
 | x :: r,pre,y :: s,w,h,hl=>by
   have h1:=Joins.block_setCell (i:=pre.length) h x
   rw [List.setIfInBounds_toArray,show (pre++y :: s).set pre.length x=(pre++[x])++s by simp] at h1
   have h2:=setAll_block r (pre++[x]) s h1 (by simpa using hl)
   rw [show (pre++[x]).length=pre.length+1 by simp,show (pre++[x])++r=pre++x :: r by simp] at h2
   exact h2
theorem setAll12 {b:Nat} {w:World} {T:TypeId} {f:Nat × Nat} {c0 c1 c2 c3 c4 c5 c6 c7 c8 c9 c10 c11:Value} (h:w.heap[b]?=some (.cells #[c0,c1,c2,c3,c4,c5,c6,c7,c8,c9,c10,c11] T f)) (x0 x1 x2 x3 x4 x5 x6 x7 x8 x9 x10 x11:Value):(setAll b [x0,x1,x2,x3,x4,x5,x6,x7,x8,x9,x10,x11] 0 w).heap[b]?=some (.cells #[x0,x1,x2,x3,x4,x5,x6,x7,x8,x9,x10,x11] T f):=setAll_block [x0,x1,x2,x3,x4,x5,x6,x7,x8,x9,x10,x11] [] [c0,c1,c2,c3,c4,c5,c6,c7,c8,c9,c10,c11] h rfl
theorem setAll6 {b:Nat} {w:World} {T:TypeId} {f:Nat × Nat} {c0 c1 c2 c3 c4 c5:Value} (h:w.heap[b]?=some (.cells #[c0,c1,c2,c3,c4,c5] T f)) (x0 x1 x2 x3 x4 x5:Value):(setAll b [x0,x1,x2,x3,x4,x5] 0 w).heap[b]?=some (.cells #[x0,x1,x2,x3,x4,x5] T f):=setAll_block [x0,x1,x2,x3,x4,x5] [] [c0,c1,c2,c3,c4,c5] h rfl
end Go.Proofs.YtikgjgmgbfjcgaaGreat
