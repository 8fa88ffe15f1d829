import Derived.Test.YtikgjgmgbfjcgaaGreatU22
namespace Go.Proofs.YtikgjgmgbfjcgaaGreat
open Go.RowKit
def setAll (b:Nat):List Value→Nat→World→World
 | [],_,w=>w
 | x :: r,j,w=>setAll b r (j+1) (w.setCell ⟨b,j,none⟩ x)
theorem setAll_below {B b:Nat} (hb:B≤b):∀ (L:List Value) (j:Nat) {a w:World},Below B a w→Below B a (setAll b L j w)
 | [],_,_,_,h=>h
 | _ :: r,j,_,_,h=>setAll_below hb r (j+1) (h.setCell (p:=⟨b,j,none⟩) hb _)
theorem setAll_owns {base b n k:Nat} {T:TypeId} {v:Value} {xs:List Value} (hb:b < base):∀ (L:List Value) (j:Nat) {w:World},w.ownsRow base T k v n xs→(setAll b L j w).ownsRow base T k v n xs
 | [],_,_,h=>h
 | _ :: r,j,_,h=>setAll_owns hb r (j+1) (ownsRow_setCell_below h hb _)
theorem setAll_other {b c:Nat} (hc:c≠b):∀ (L:List Value) (j:Nat) (w:World),(setAll b L j w).heap[c]?=w.heap[c]?
 | [],_,_=>rfl
 | _ :: r,j,_=>(setAll_other hc r (j+1) _).trans (Below.heap_setCell _ _ _ _ hc)
theorem setAll_size (b:Nat):∀ (L:List Value) (j:Nat) (w:World),(setAll b L j w).heap.size=w.heap.size
 | [],_,_=>rfl
 | _ :: r,j,_=>(setAll_size b r (j+1) _).trans (by simp [World.setCell])
theorem setAll_sh {S:Nat→Prop} {b:Nat} (hb:S b):∀ (L:List Value) (j:Nat) {a w:World},Sh S a w→Sh S a (setAll b L j w)
 | [],_,_,_,h=>h
 | _ :: r,j,_,_,h=>setAll_sh hb r (j+1) (h.setCell hb _)
theorem owns_below {base n k:Nat} {T:TypeId} {w w':World} {v:Value} {xs:List Value} (h:w.ownsRow base T k v n xs) (hb:Below w.heap.size w w'):w'.ownsRow base T k v n xs:=by
 rcases h.2 with ⟨rfl,h0⟩ | ⟨g,c,cur,rfl,hbg,hg,hnc,hcm,hcs,htake⟩
 ·exact ⟨h.1,.inl ⟨rfl,h0⟩⟩
 ·have hlt:g < w.heap.size:=(Array.getElem?_eq_some_iff.1 hg).1
  exact ⟨h.1,.inr ⟨g,c,cur,rfl,hbg,(hb.block g hlt).trans hg,hnc,hcm,hcs,htake⟩⟩
theorem drew_heap (w:World):w.drew.heap=w.heap:=rfl
theorem drew_owns {base n k:Nat} {T:TypeId} {w:World} {v:Value} {xs:List Value} (h:w.ownsRow base T k v n xs):w.drew.ownsRow base T k v n xs:=h
theorem drew_below {B:Nat} {a w:World} (h:Below B a w):Below B a w.drew:=⟨h.os,h.tape,h.output,h.size,h.block⟩
theorem setAll_block {b:Nat} {T:TypeId} {f:Nat × Nat}:∀ (L pre suf:List Value) {w:World},w.heap[b]?=some (.cells (pre++suf).toArray T f)→suf.length=L.length→(setAll b L pre.length w).heap[b]?=some (.cells (pre++L).toArray T f)
 | [],pre,suf,w,h,hl=>by
   have:suf=[]:=List.eq_nil_of_length_eq_zero (by simpa using hl)
   subst this;exact h
 | x :: r,pre,[],w,h,hl=>absurd hl (by simp)
 | x :: r,pre,y :: s,w,h,hl=>by
   have h1:=Joins.block_setCell (i:=pre.length) h x
   rw [List.setIfInBounds_toArray,show (pre++y :: s).set pre.length x=(pre++[x])++s by simp] at h1
   have h2:=setAll_block r (pre++[x]) s h1 (by simpa using hl)
   rw [show (pre++[x]).length=pre.length+1 by simp,show (pre++[x])++r=pre++x :: r by simp] at h2
   exact h2
theorem setAll12 {b:Nat} {w:World} {T:TypeId} {f:Nat × Nat} {c0 c1 c2 c3 c4 c5 c6 c7 c8 c9 c10 c11:Value} (h:w.heap[b]?=some (.cells #[c0,c1,c2,c3,c4,c5,c6,c7,c8,c9,c10,c11] T f)) (x0 x1 x2 x3 x4 x5 x6 x7 x8 x9 x10 x11:Value):(setAll b [x0,x1,x2,x3,x4,x5,x6,x7,x8,x9,x10,x11] 0 w).heap[b]?=some (.cells #[x0,x1,x2,x3,x4,x5,x6,x7,x8,x9,x10,x11] T f):=setAll_block [x0,x1,x2,x3,x4,x5,x6,x7,x8,x9,x10,x11] [] [c0,c1,c2,c3,c4,c5,c6,c7,c8,c9,c10,c11] h rfl
theorem setAll6 {b:Nat} {w:World} {T:TypeId} {f:Nat × Nat} {c0 c1 c2 c3 c4 c5:Value} (h:w.heap[b]?=some (.cells #[c0,c1,c2,c3,c4,c5] T f)) (x0 x1 x2 x3 x4 x5:Value):(setAll b [x0,x1,x2,x3,x4,x5] 0 w).heap[b]?=some (.cells #[x0,x1,x2,x3,x4,x5] T f):=setAll_block [x0,x1,x2,x3,x4,x5] [] [c0,c1,c2,c3,c4,c5] h rfl
end Go.Proofs.YtikgjgmgbfjcgaaGreat
