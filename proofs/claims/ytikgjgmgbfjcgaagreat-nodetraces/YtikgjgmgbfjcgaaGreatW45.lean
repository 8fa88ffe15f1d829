import Derived.Test.YtikgjgmgbfjcgaaGreatW21
import Derived.Test.YtikgjgmgbfjcgaaGreatW25
import Derived.Test.YtikgjgmgbfjcgaaGreatW24
import Derived.Test.YtikgjgmgbfjcgaaGreatW36
import Derived.Test.YtikgjgmgbfjcgaaGreatW44
import Derived.Test.YtikgjgmgbfjcgaaGreatW28
namespace Go.Proofs.YtikgjgmgbfjcgaaGreat
open Go.RowKit
def setAll (b:Nat):List Value→Nat→World→World
 | [],_,w=>w
 | x :: r,j,w=>setAll b r (j+1) (w.setCell ⟨b,j,none⟩ x)
theorem setAll_below {B b:Nat} (hb:B≤b):∀ (L:List Value) (j:Nat) {a w:World},Below B a w→Below B a (setAll b L j w)
 | [],_,_,_,h=>h
 | _ :: r,j,_,_,h=>setAll_below hb r (j+1) (h.setCell (p:=⟨b,j,none⟩) hb _)
theorem setAll_owns {base b n k:Nat} {T:TypeId} {v:Value} {xs:List Value} (hb:b < base):∀ (L:List Value) (j:Nat) {w:World},w.ownsRow base T k v n xs→(setAll b L j w).ownsRow base T k v n xs
 | [],_,_,h=>h
 | _ :: r,j,_,h=>setAll_owns hb r (j+1) (ownsRow_setCell_below h hb _)
theorem setAll_other {b c:Nat} (hc:c≠b):∀ (L:List Value) (j:Nat) (w:World),(setAll b L j w).heap[c]?=w.heap[c]?
 | [],_,_=>rfl
 | _ :: r,j,_=>(setAll_other hc r (j+1) _).trans (Below.heap_setCell _ _ _ _ hc)
theorem setAll_size (b:Nat):∀ (L:List Value) (j:Nat) (w:World),(setAll b L j w).heap.size=w.heap.size
 | [],_,_=>rfl
 | _ :: r,j,_=>(setAll_size b r (j+1) _).trans (by simp [World.setCell])
theorem setAll_sh {S:Nat→Prop} {b:Nat} (hb:S b):∀ (L:List Value) (j:Nat) {a w:World},Sh S a w→Sh S a (setAll b L j w)
 | [],_,_,_,h=>h
 | _ :: r,j,_,_,h=>setAll_sh hb r (j+1) (h.setCell hb _)
theorem owns_below {base n k:Nat} {T:TypeId} {w w':World} {v:Value} {xs:List Value} (h:w.ownsRow base T k v n xs) (hb:Below w.heap.size w w'):w'.ownsRow base T k v n xs:=by
 rcases h.2 with ⟨rfl,h0⟩ | ⟨g,c,cur,rfl,hbg,hg,hnc,hcm,hcs,htake⟩
 ·exact ⟨h.1,.inl ⟨rfl,h0⟩⟩
 ·have hlt:g < w.heap.size:=(Array.getElem?_eq_some_iff.1 hg).1
  exact ⟨h.1,.inr ⟨g,c,cur,rfl,hbg,(hb.block g hlt).trans hg,hnc,hcm,hcs,htake⟩⟩
theorem drew_heap (w:World):w.drew.heap=w.heap:=rfl
theorem drew_owns {base n k:Nat} {T:TypeId} {w:World} {v:Value} {xs:List Value} (h:w.ownsRow base T k v n xs):w.drew.ownsRow base T k v n xs:=h
theorem drew_below {B:Nat} {a w:World} (h:Below B a w):Below B a w.drew:=⟨h.os,h.tape,h.output,h.size,h.block⟩
theorem setAll_block {b:Nat} {T:TypeId} {f:Nat × Nat}:∀ (L pre suf:List Value) {w:World},w.heap[b]?=some (.cells (pre++suf).toArray T f)→suf.length=L.length→(setAll b L pre.length w).heap[b]?=some (.cells (pre++L).toArray T f)
 | [],pre,suf,w,h,hl=>by
   have:suf=[]:=List.eq_nil_of_length_eq_zero (by simpa using hl)
   subst this;exact h
 | x :: r,pre,[],w,h,hl=>absurd hl (by simp)
 | x :: r,pre,y :: s,w,h,hl=>by
   have h1:=Joins.block_setCell (i:=pre.length) h x
   rw [List.setIfInBounds_toArray,show (pre++y :: s).set pre.length x=(pre++[x])++s by simp] at h1
   have h2:=setAll_block r (pre++[x]) s h1 (by simpa using hl)
   rw [show (pre++[x]).length=pre.length+1 by simp,show (pre++[x])++r=pre++x :: r by simp] at h2
   exact h2
theorem setAll12 {b:Nat} {w:World} {T:TypeId} {f:Nat × Nat} {c0 c1 c2 c3 c4 c5 c6 c7 c8 c9 c10 c11:Value} (h:w.heap[b]?=some (.cells #[c0,c1,c2,c3,c4,c5,c6,c7,c8,c9,c10,c11] T f)) (x0 x1 x2 x3 x4 x5 x6 x7 x8 x9 x10 x11:Value):(setAll b [x0,x1,x2,x3,x4,x5,x6,x7,x8,x9,x10,x11] 0 w).heap[b]?=some (.cells #[x0,x1,x2,x3,x4,x5,x6,x7,x8,x9,x10,x11] T f):=setAll_block [x0,x1,x2,x3,x4,x5,x6,x7,x8,x9,x10,x11] [] [c0,c1,c2,c3,c4,c5,c6,c7,c8,c9,c10,c11] h rfl
theorem setAll6 {b:Nat} {w:World} {T:TypeId} {f:Nat × Nat} {c0 c1 c2 c3 c4 c5:Value} (h:w.heap[b]?=some (.cells #[c0,c1,c2,c3,c4,c5] T f)) (x0 x1 x2 x3 x4 x5:Value):(setAll b [x0,x1,x2,x3,x4,x5] 0 w).heap[b]?=some (.cells #[x0,x1,x2,x3,x4,x5] T f):=setAll_block [x0,x1,x2,x3,x4,x5] [] [c0,c1,c2,c3,c4,c5] h rfl
def ntE (wh:List Wh.Whe) (x:Wh.Whe):Int:=if 20 < (Wh.hearL wh x).length then 2 else 0
set_option maxHeartbeats 12800000 in
set_option maxRecDepth 100000 in
theorem wnote_any (L b:Nat) (n:Nd) (x:Wh.Whe) (w:World) (h:Wk L w b n) (hL:L≤b) (hf:Wh.Fine n.wh) (hx:x.ok) :
 Calls Tryz.prog 131 #[.pointer (some ⟨b,0,none⟩),.agg #[.string x.node,.int .i64 x.x,.int .i64 x.y,.int .i64 x.z,.int .i64 x.h,.int .i64 x.s]] w fun e w'=>e=.returned (.int .i64 (ntE n.wh x))∧Sh (fun k=>k=b) w w'∧Hid (Wk L w' b { n with wh:=Wh.hearL n.wh x }):=by
 have HWK:Hid (Wk L w b n):=h
 have hbl:=h.lt
 obtain ⟨vm,vr,vs,vg,vw,h1,h2,h3,h4⟩:=h
 have HIS:Hid (NdIs w n vm vr vs vg vw):=h2.is h4
 obtain ⟨aw,cw,hvw,_⟩:=own_slice h2.wh
 subst hvw
 obtain ⟨W1,hW1⟩:∃ W1,W1=w.alloc (.cells #[.string x.node,.int .i64 x.x,.int .i64 x.y,.int .i64 x.z,.int .i64 x.h,.int .i64 x.s] 104):=⟨_,rfl⟩
 have hb1:Below w.heap.size w W1:=by rw [hW1];exact (Below.refl _ _).alloc (Nat.le_refl _) _
 have hs1:W1.heap.size=w.heap.size+1:=by rw [hW1];simp
 have hg1:W1.heap[w.heap.size]?=some (.cells #[.string x.node,.int .i64 x.x,.int .i64 x.y,.int .i64 x.z,.int .i64 x.h,.int .i64 x.s] 104 (0,0)):=by rw [hW1];exact heap_alloc_new w _
 have HB1:Hid (Below w.heap.size w W1):=hb1
 obtain ⟨W3,hW3⟩:∃ W3,W3=((W1.alloc (.cells #[.string x.node,.int .i64 x.x,.int .i64 x.y,.int .i64 x.z,.int .i64 x.h,.int .i64 x.s] 104)).alloc (.cells #[.slice aw n.wh.length cw,.slice (some ⟨W1.heap.size,0,none⟩) 1 1] 28)).drew:=⟨_,rfl⟩
 have hb3:Below w.heap.size w W3:=by rw [hW3];exact ((hb1.alloc hb1.size _).alloc (by simp;omega) _).drew
 have hs3:W3.heap.size=W1.heap.size+2:=by rw [hW3];simp
 have hg3:W3.heap[W1.heap.size+1]?=some (.cells #[.slice aw n.wh.length cw,.slice (some ⟨W1.heap.size,0,none⟩) 1 1] 28 (0,0)):=by
  have h:=heap_alloc_new (W1.alloc (.cells #[.string x.node,.int .i64 x.x,.int .i64 x.y,.int .i64 x.z,.int .i64 x.h,.int .i64 x.s] 104)) (.cells #[.slice aw n.wh.length cw,.slice (some ⟨W1.heap.size,0,none⟩) 1 1] 28)
  rw [hW3,drew_heap];simpa using h
 have hx3:W3.heap[W1.heap.size]?=some (.cells #[.string x.node,.int .i64 x.x,.int .i64 x.y,.int .i64 x.z,.int .i64 x.h,.int .i64 x.s] 104 (0,0)):=by
  rw [hW3,drew_heap,Below.heap_alloc _ _ _ (by simp)];exact heap_alloc_new W1 _
 have hsx:Wh.Sl W3 (.slice (some ⟨W1.heap.size,0,none⟩) 1 1) [x]:=by
  refine ⟨_,_,rfl,Wh.ns_get (fun m hm=>by simp at hm;rw [hm];exact hx),.inr ⟨_,0,rfl,by omega,fun j hj=>?_⟩⟩
  have hj0:j=0:=by simpa using hj
  subst hj0
  exact ⟨cellsAt hx3 0,cellsAt hx3 1,cellsAt hx3 2,cellsAt hx3 3,cellsAt hx3 4,cellsAt hx3 5⟩
 have HJ:Hid (Calls Tryz.prog 177 #[.func (.func 170) #[] #[],.func (.func 176) #[] #[],.slice (some ⟨W1.heap.size+1,0,none⟩) 2 2] W3 fun e w'=>∃ p c,e=.returned (.slice p (Wh.hearL n.wh x).length c)∧Hid (Wh.Own W3.heap.size w' (.slice p (Wh.hearL n.wh x).length c) (Wh.hearL n.wh x))∧Below W3.heap.size W3 w'):=by
  refine (Wh.rjoin_two n.wh [x] _ _ (W1.heap.size+1) 2 W3 (HIS.out.wh.below hb3) hsx (by omega) (cellsAt hg3 0) (cellsAt hg3 1) hf.len (by simp) hf.rise).mono ?_
  rintro e w' ⟨v',rfl,ho,hb⟩
  obtain ⟨p,c,rfl,_⟩:=own_slice ho
  exact ⟨p,c,rfl,ho,hb⟩
 have HFIN:Hid (∀ w1 a k c,Below W3.heap.size W3 w1→Wh.Own W3.heap.size w1 (.slice a k c) (Wh.hearL n.wh x)→Wk L (w1.setCell ⟨b,11,none⟩ (.slice a k c)) b { n with wh:=Wh.hearL n.wh x }∧Sh (fun k=>k=b) w (w1.setCell ⟨b,11,none⟩ (.slice a k c))∧w1.heap[b]?=some (.cells (ndA n vm vr vs vg (.slice aw n.wh.length cw)) 72 (0,0))):=fun w1 a k c h1' h2'=>
  ⟨(HWK.out.below hb3).set_wh (by have:=hb3.size;omega) h1' h2' (Wh.ns_hear hf.ok hx),((Sh.of hb3).next h1').setCell (S:=fun k=>k=b) rfl _,((hb3.trans (h1'.mono hb3.size)).block _ hbl).trans h1⟩
 have HX:Hid (∀ W,Below w.heap.size w W→W.heap[b]?=some (.cells (ndA n vm vr vs vg (.slice aw n.wh.length cw)) 72 (0,0))):=fun W hW=>(hW.block _ hbl).trans h1
 have HE:Hid (ntE n.wh x=if 20 < (Wh.hearL n.wh x).length then 2 else 0):=rfl
 generalize ntE n.wh x=res at *
 generalize Wh.hearL n.wh x=HL at *
 generalize hkl:HL.length=kl at *
 have HKL:Hid (HL.length=kl):=hkl
 have y11:W1.cell? ⟨b,11,none⟩=some (.slice aw n.wh.length cw):=cellsAt (HX.out W1 hb1) 11
 clear hkl h1 h2 h3 h4 hf hx hsx hx3 hg3 hs3 hb3 hb1
 generalize n.wh.length=nl at *
 obtain ⟨x0,x1,x2,x3,x4,x5⟩:=x
 simp only at hg1 hW1 hW3
 obtain ⟨c0,c1,c2,c3,c4,c5⟩:=cells6 hg1
 have hbW1:b < W1.heap.size:=by omega
 have hwW1:w.heap.size < W1.heap.size:=by omega
 have hne1:¬ b=W1.heap.size:=by omega
 have hne2:¬ w.heap.size=W1.heap.size:=by omega
 have hne3:¬ b=W1.heap.size+1:=by omega
 have hne4:¬ w.heap.size=W1.heap.size+1:=by omega
 have HS1:Hid (W1.heap.size=w.heap.size+1):=hs1
 clear hg1 hs1
 go_enter Tryz.func131,Tryz.ntmps131
 go_upto_region 2 with fail
 rw [← hW1]
 clear hW1
 go_region_with (first | (go_at_call 177;refine (show Calls _ _ _ _ _ by first | (rw [← hW3];exact HJ.out) | (have h:=HJ.out;rw [hW3] at h;exact h)).mono ?_;rintro e w5 ⟨a,c,rfl,ho5,hb5⟩;obtain ⟨i1,i2,i3⟩:=HFIN.out w5 a kl c hb5 ho5.out;have HI1:Hid (Wk L (w5.setCell ⟨b,11,none⟩ (.slice a kl c)) b { n with wh:=HL }):=i1;have HI2:Hid (Sh (fun k=>k=b) w (w5.setCell ⟨b,11,none⟩ (.slice a kl c))):=i2;have z11:w5.cell? ⟨b,11,none⟩=some (.slice aw nl cw):=cellsAt i3 11;have zf:w5.frozen? ⟨b,11,none⟩=false:=frozen_of i3 11;clear ho5 hb5 i1 i2 i3))
 all_goals
  by_cases hk20:20 < kl
  ·have HR:Hid (res=2):=HE.out.trans (if_pos hk20)
   have hki:(20:Int) < (kl:Int):=by omega
   clear hk20 HE
   go_wp2_with fail
   go_ret
   exact ⟨ret_int HR.out.symm,HI2.out,HI1⟩
  ·have HR:Hid (res=0):=HE.out.trans (if_neg hk20)
   have hki:¬ (20:Int) < (kl:Int):=by omega
   clear hk20 HE
   go_wp2_with fail
   go_ret
   exact ⟨ret_int HR.out.symm,HI2.out,HI1⟩
theorem moveOf_any (a b:Pl) (round:Int) (w:World) (ha:OkP a) (hb:OkP b) (r0:1≤round) (r1:round≤5000000) :
 Calls Tryz.prog 82 #[.agg #[.int .i64 a.x,.int .i64 a.y,.int .i64 a.z,.int .i64 a.h,.int .i64 a.s],.agg #[.int .i64 b.x,.int .i64 b.y,.int .i64 b.z,.int .i64 b.h,.int .i64 b.s],.int .i64 round] w fun e w'=>e=.returned (.agg #[.int .i64 (moveP a b round).x,.int .i64 (moveP a b round).y,.int .i64 (moveP a b round).z,.int .i64 (moveP a b round).h,.int .i64 (moveP a b round).s])∧Below w.heap.size w w':=by
 by_cases hz:apartI a b=0
 ·exact moveOf_zero a b round w ha hb r0 r1 hz
 ·exact moveOf_far a b round _ w ha hb r0 r1 rfl (by have:=(apartI_bd ha hb).1;omega)
def trW (t:ByteArray) (p:Pl):Wh.Whe:=⟨t,p.x,p.y,p.z,p.h,p.s⟩
def trE (n:Nd) (t:ByteArray) (p:Pl) (r:Int):Int:=if labB t=true then (if chkP p=0 then (if t=n.name then 6 else if betw r 1 5000000=true then ntE n.wh (trW t p) else 3) else 3) else 1
def trN (n:Nd) (t:ByteArray) (p:Pl) (r:Int):Nd:={ n with p:=moveP n.p p r,wh:=Wh.hearL n.wh (trW t p) }
theorem move_both (a b:Pl) (r:Int) (ha:chkP a=0) (hb:chkP b=0):∃ (q:Pl),(betw r 1 5000000=true→q=moveP a b r)∧∀ W,Calls Tryz.prog 130 #[.agg #[.int .i64 a.x,.int .i64 a.y,.int .i64 a.z,.int .i64 a.h,.int .i64 a.s],.agg #[.int .i64 b.x,.int .i64 b.y,.int .i64 b.z,.int .i64 b.h,.int .i64 b.s],.int .i64 r] W fun e w'=>e=.returned (.tuple #[.agg #[.int .i64 q.x,.int .i64 q.y,.int .i64 q.z,.int .i64 q.h,.int .i64 q.s],.int .i64 (if betw r 1 5000000=true then 0 else 3)])∧Below W.heap.size W w':=by
 have ha':=(okP_iff a).1 ha
 have hb':=(okP_iff b).1 hb
 rcases hr:betw r 1 5000000 with _ | _
 ·exact ⟨⟨0,0,0,0,0⟩,(fun h=>by cases h),fun W=>Move_range a b r W ((chkPs_two a b).2 ⟨ha',hb'⟩) hr⟩
 ·exact ⟨moveP a b r,fun _=>rfl,fun W=>Move_good a b r W ha' hb' hr⟩
theorem set5_sh {b:Nat} {a w:World} (h:Sh (fun k=>k=b) a w) (i0 i1 i2 i3 i4:Nat) (v0 v1 v2 v3 v4:Value):Sh (fun k=>k=b) a (((((w.setCell ⟨b,i0,none⟩ v0).setCell ⟨b,i1,none⟩ v1).setCell ⟨b,i2,none⟩ v2).setCell ⟨b,i3,none⟩ v3).setCell ⟨b,i4,none⟩ v4):=
 ((((h.setCell (S:=fun k=>k=b) rfl _).setCell (S:=fun k=>k=b) rfl _).setCell (S:=fun k=>k=b) rfl _).setCell (S:=fun k=>k=b) rfl _).setCell (S:=fun k=>k=b) rfl _
set_option maxHeartbeats 25600000 in
set_option maxRecDepth 100000 in
theorem wtrace_any (L b:Nat) (n:Nd) (t:ByteArray) (p:Pl) (r:Int) (w:World) (h:Wk L w b n) (hL:L≤b) (hf:Wh.Fine n.wh) (hnp:chkP n.p=0) (ht:t.size≤maxLen) :
 Calls Tryz.prog 81 #[.pointer (some ⟨b,0,none⟩),.string t,.agg #[.int .i64 p.x,.int .i64 p.y,.int .i64 p.z,.int .i64 p.h,.int .i64 p.s],.int .i64 r] w fun e w'=>e=.returned (.int .i64 (trE n t p r))∧Sh (fun k=>k=b) w w'∧Hid (trE n t p r=0→Wk L w' b (trN n t p r)):=by
 have HWK:Hid (Wk L w b n):=h
 have hbl:=h.lt
 obtain ⟨vm,vr,vs,vg,vw,h1,h2,h3,h4⟩:=h
 have HX:Hid (∀ W,Below w.heap.size w W→(W.heap[w.heap.size]?=some (.cells #[.int .i64 p.x,.int .i64 p.y,.int .i64 p.z,.int .i64 p.h,.int .i64 p.s] 27 (0,0)))→W.heap[b]?=some (.cells (ndA n vm vr vs vg vw) 72 (0,0))∧W.heap[w.heap.size]?=some (.cells #[.int .i64 p.x,.int .i64 p.y,.int .i64 p.z,.int .i64 p.h,.int .i64 p.s] 27 (0,0))):=fun W hW hp=>⟨(hW.block _ hbl).trans h1,hp⟩
 have HCK:Hid (∀ W,Calls Tryz.prog 102 #[.agg #[.int .i64 p.x,.int .i64 p.y,.int .i64 p.z,.int .i64 p.h,.int .i64 p.s]] W fun e w'=>e=.returned (.int .i64 (chkP p))∧Below W.heap.size W w'):=fun W=>checkP_any p W
 have HMV:Hid (chkP p=0→∃ (q:Pl),(betw r 1 5000000=true→q=moveP n.p p r)∧∀ W,Calls Tryz.prog 130 #[.agg #[.int .i64 n.p.x,.int .i64 n.p.y,.int .i64 n.p.z,.int .i64 n.p.h,.int .i64 n.p.s],.agg #[.int .i64 p.x,.int .i64 p.y,.int .i64 p.z,.int .i64 p.h,.int .i64 p.s],.int .i64 r] W fun e w'=>e=.returned (.tuple #[.agg #[.int .i64 q.x,.int .i64 q.y,.int .i64 q.z,.int .i64 q.h,.int .i64 q.s],.int .i64 (if betw r 1 5000000=true then 0 else 3)])∧Below W.heap.size W w'):=fun h=>move_both n.p p r hnp h
 have HSP0:Hid (∀ (q:Pl) W,Below w.heap.size w W→Wk L (((((W.setCell ⟨b,6,none⟩ (.int .i64 q.x)).setCell ⟨b,7,none⟩ (.int .i64 q.y)).setCell ⟨b,8,none⟩ (.int .i64 q.z)).setCell ⟨b,9,none⟩ (.int .i64 q.h)).setCell ⟨b,10,none⟩ (.int .i64 q.s)) b { n with p:=q }):=fun q W hW=>(HWK.out.below hW).set_p q
 have HNT0:Hid (∀ (q:Pl) W,Wk L W b { n with p:=q }→Calls Tryz.prog 131 #[.pointer (some ⟨b,0,none⟩),.agg #[.string t,.int .i64 p.x,.int .i64 p.y,.int .i64 p.z,.int .i64 p.h,.int .i64 p.s]] W fun e w'=>e=.returned (.int .i64 (ntE n.wh (trW t p)))∧Sh (fun k=>k=b) W w'∧Hid (Wk L w' b { n with p:=q,wh:=Wh.hearL n.wh (trW t p) })):=fun q W hk=>wnote_any L b { n with p:=q } (trW t p) W hk hL hf ht
 have HE:Hid (trE n t p r=if labB t=true then (if chkP p=0 then (if t=n.name then 6 else if betw r 1 5000000=true then ntE n.wh (trW t p) else 3) else 3) else 1):=rfl
 have HTN0:Hid (trN n t p r={ n with p:=moveP n.p p r,wh:=Wh.hearL n.wh (trW t p) }):=rfl
 have HCO:=chkP_or p
 generalize trE n t p r=res at *
 generalize trN n t p r=TN at *
 generalize ntE n.wh (trW t p)=nte at *
 obtain ⟨px,py,pz,ph,ps⟩:=p
 simp only at HX HCK HMV HNT0
 clear h2 h3 h4 hf hnp
 obtain ⟨W1,hW1⟩:∃ W1,W1=w.alloc (.cells #[.int .i64 px,.int .i64 py,.int .i64 pz,.int .i64 ph,.int .i64 ps] 27):=⟨_,rfl⟩
 have hb1:Below w.heap.size w W1:=by rw [hW1];exact (Below.refl _ _).alloc (Nat.le_refl _) _
 have hg1:W1.heap[w.heap.size]?=some (.cells #[.int .i64 px,.int .i64 py,.int .i64 pz,.int .i64 ph,.int .i64 ps] 27 (0,0)):=by rw [hW1];exact heap_alloc_new w _
 have HB1:Hid (Below w.heap.size w W1):=hb1
 have HG1:Hid (W1.heap[w.heap.size]?=some (.cells #[.int .i64 px,.int .i64 py,.int .i64 pz,.int .i64 ph,.int .i64 ps] 27 (0,0))):=hg1
 have hs1:W1.heap.size=w.heap.size+1:=by rw [hW1];simp
 have HS1:Hid (W1.heap.size=w.heap.size+1):=hs1
 obtain ⟨c0,c1,c2,c3,c4⟩:=cells5 hg1
 clear hb1 hg1 hs1 h1
 have HLA:Hid (∀ W,Calls Tryz.prog 96 #[.string t] W fun e w'=>e=.returned (.bool (labB t))∧w'=W):=fun W=>label_any t W ht
 go_enter Tryz.func81,Tryz.ntmps81
 go_upto_region 1 with fail
 rw [← hW1]
 clear hW1
 rcases hlab:labB t with _ | _
 ·have HR:Hid (res=1):=HE.out.trans (by rw [hlab];rfl)
  rw [hlab] at HLA
  clear HE
  go_wp2_with (first | (go_at_call 96;refine (HLA.out _).mono ?_;rintro e w' ⟨rfl,hww⟩;have hwq:=hww.symm;subst hwq) | fail)
  go_ret
  exact ⟨ret_int HR.out.symm,Sh.of HB1.out,fun h=>by rw [HR.out] at h;cases h⟩
 rw [hlab] at HLA
 go_wp2_with (first | (go_at_call 96;refine (HLA.out _).mono ?_;rintro e w' ⟨rfl,hww⟩;have hwq:=hww.symm;subst hwq) | fail)
 refine (HCK.out W1).mono ?_
 rintro e w2 ⟨rfl,hb2⟩
 have HB2:Hid (Below w.heap.size w w2):=HB1.out.trans (hb2.mono HB1.out.size)
 have hg2:w2.heap[w.heap.size]?=some (.cells #[.int .i64 px,.int .i64 py,.int .i64 pz,.int .i64 ph,.int .i64 ps] 27 (0,0)):=(hb2.block _ (by have:=HS1.out;omega)).trans HG1.out
 clear c0 c1 c2 c3 c4 hb2
 rcases HCO with hcp | hcp
 rotate_left
 ·have HR:Hid (res=3):=HE.out.trans (by rw [hlab,hcp];rfl)
  rw [hcp]
  clear HE hcp hg2
  go_wp2_with fail
  go_ret
  exact ⟨ret_int HR.out.symm,Sh.of HB2.out,fun h=>by rw [HR.out] at h;cases h⟩
 have HE2:Hid (res=if t=n.name then 6 else if betw r 1 5000000=true then nte else 3):=HE.out.trans (by rw [hlab,hcp];rfl)
 obtain ⟨⟨mx,my,mz,mh,ms_⟩,hmq,hmv⟩:=HMV.out hcp
 rw [hcp]
 clear HE hcp HMV
 have HTN:Hid (betw r 1 5000000=true→TN={ n with p:=⟨mx,my,mz,mh,ms_⟩,wh:=Wh.hearL n.wh (trW t ⟨px,py,pz,ph,ps⟩) }):=fun h=>by rw [HTN0.out,hmq h]
 have HSP:=fun W hW=>HSP0.out ⟨mx,my,mz,mh,ms_⟩ W hW
 have HNT:=fun W hk=>HNT0.out ⟨mx,my,mz,mh,ms_⟩ W hk
 have HMC:Hid (∀ W,Calls Tryz.prog 130 #[.agg #[.int .i64 n.p.x,.int .i64 n.p.y,.int .i64 n.p.z,.int .i64 n.p.h,.int .i64 n.p.s],.agg #[.int .i64 px,.int .i64 py,.int .i64 pz,.int .i64 ph,.int .i64 ps],.int .i64 r] W fun e w'=>e=.returned (.tuple #[.agg #[.int .i64 mx,.int .i64 my,.int .i64 mz,.int .i64 mh,.int .i64 ms_],.int .i64 (if betw r 1 5000000=true then 0 else 3)])∧Below W.heap.size W w'):=hmv
 clear HTN0 HSP0 HNT0 hmq hmv
 simp only at HSP HNT
 obtain ⟨nnm,nct,nms,nrs,nsv,ngw,⟨ax,ay,az,ah,as_⟩,nwh⟩:=n
 simp only [ndA] at HX
 simp only at HE2 HMC HTN HSP HNT
 have HSPH:Hid _:=HSP
 have HNTH:Hid _:=HNT
 clear HSP HNT
 have HSP:=HSPH
 have HNT:=HNTH
 clear HSPH HNTH
 generalize (⟨nnm,nct,nms,nrs,nsv,ngw,⟨mx,my,mz,mh,ms_⟩,nwh⟩:Nd)=NN at *
 obtain ⟨h1q,_⟩:=HX.out w2 HB2.out hg2
 have HG2:Hid (w2.heap[w.heap.size]?=some (.cells #[.int .i64 px,.int .i64 py,.int .i64 pz,.int .i64 ph,.int .i64 ps] 27 (0,0))):=hg2
 have HPB:Hid (∀ W,Below w2.heap.size w2 W→W.heap[w.heap.size]?=some (.cells #[.int .i64 px,.int .i64 py,.int .i64 pz,.int .i64 ph,.int .i64 ps] 27 (0,0))):=fun W hW=>(hW.block _ (Array.getElem?_eq_some_iff.1 HG2.out).1).trans HG2.out
 have y0:w2.cell? ⟨b,0,none⟩=some (.string nnm):=cellsAt h1q 0
 obtain ⟨c0,c1,c2,c3,c4⟩:=cells5 hg2
 have d0:w2.cell? ⟨b,6,none⟩=some (.int .i64 ax):=cellsAt h1q 6
 have d1:w2.cell? ⟨b,7,none⟩=some (.int .i64 ay):=cellsAt h1q 7
 have d2:w2.cell? ⟨b,8,none⟩=some (.int .i64 az):=cellsAt h1q 8
 have d3:w2.cell? ⟨b,9,none⟩=some (.int .i64 ah):=cellsAt h1q 9
 have d4:w2.cell? ⟨b,10,none⟩=some (.int .i64 as_):=cellsAt h1q 10
 have hb2:b < w2.heap.size:=by have:=HB2.out.size;omega
 have hw2:w.heap.size < w2.heap.size:=(Array.getElem?_eq_some_iff.1 hg2).1
 clear hg2 h1q
 by_cases hnm:t=nnm
 ·have HR:Hid (res=6):=HE2.out.trans (if_pos hnm)
  have hq:(t.toList == nnm.toList)=true:=by rw [hnm];simp
  have hq2:t.toList=nnm.toList:=by rw [hnm]
  clear HE2 hnm
  go_wp2_with fail
  go_ret
  exact ⟨ret_int HR.out.symm,Sh.of HB2.out,fun h=>by rw [HR.out] at h;cases h⟩
 have hq:(t.toList == nnm.toList)=false:=by rw [beq_names,decide_eq_false hnm]
 have HE3:Hid (res=if betw r 1 5000000=true then nte else 3):=HE2.out.trans (if_neg hnm)
 clear HE2 hnm
 generalize betw r 1 5000000=bt at *
 have HBT:Hid ((bt=true→res=nte)∧(bt=false→res=3)):=⟨fun h=>by rw [HE3.out,h];rfl,fun h=>by rw [HE3.out,h];rfl⟩
 clear HE3
 obtain ⟨mE,hmE⟩:∃ mE:Int,mE=if bt=true then 0 else 3:=⟨_,rfl⟩
 rw [← hmE] at HMC
 have HME:Hid (mE=if bt=true then 0 else 3):=hmE
 clear hmE
 go_upto_region 8 with fail
 go_region_with (first | (go_at_call 130;refine (HMC.out _).mono ?_;rintro e w3 ⟨rfl,hb3⟩;first
  | (have HB3:Hid (Below w2.heap.size w2 w3):=(Below.refl w2.heap.size w2).drew.trans hb3;clear hb3)
  | (have HB3:Hid (Below w2.heap.size w2 w3):=by
      first
      | exact (((Below.refl w2.heap.size w2).alloc (Nat.le_refl _) _).drew).trans (hb3.mono (by simp))
      | exact (((Below.refl w2.heap.size w2).drew).alloc (Nat.le_refl _) _).trans (hb3.mono (by simp))
     have hz3:w3.heap[w2.heap.size]?=some (.cells #[.int .i64 0,.int .i64 0,.int .i64 0,.int .i64 0,.int .i64 0] 27 (0,0)):=(hb3.block _ (by simp)).trans (heap_alloc_new w2 _)
     obtain ⟨f0,f1,f2,f3,f4⟩:=cells5 hz3
     obtain ⟨g0,g1,g2,g3,g4⟩:=frz5 hz3
     clear hb3)))
 all_goals
  first
  | (obtain ⟨V,hV⟩:∃ V,V=w3.alloc (.cells #[.int .i64 mx,.int .i64 my,.int .i64 mz,.int .i64 mh,.int .i64 ms_] 27):=⟨_,rfl⟩
     rw [← hV]
     have hmq:V.heap[w3.heap.size]?=some (.cells #[.int .i64 mx,.int .i64 my,.int .i64 mz,.int .i64 mh,.int .i64 ms_] 27 (0,0)):=by rw [hV];exact heap_alloc_new w3 _
     have HBV:Hid (Below w2.heap.size w2 V):=by rw [hV];exact HB3.out.alloc HB3.out.size _
     clear hV
     generalize w3.heap.size=mb at hmq ⊢)
  | (obtain ⟨V,hV⟩:∃ V,V=(((((w3.setCell ⟨w2.heap.size,0,none⟩ (.int .i64 mx)).setCell ⟨w2.heap.size,1,none⟩ (.int .i64 my)).setCell ⟨w2.heap.size,2,none⟩ (.int .i64 mz)).setCell ⟨w2.heap.size,3,none⟩ (.int .i64 mh)).setCell ⟨w2.heap.size,4,none⟩ (.int .i64 ms_)):=⟨_,rfl⟩
     rw [← hV]
     have hmq:V.heap[w2.heap.size]?=some (.cells #[.int .i64 mx,.int .i64 my,.int .i64 mz,.int .i64 mh,.int .i64 ms_] 27 (0,0)):=by rw [hV];exact Joins.block_setCell (i:=4) (Joins.block_setCell (i:=3) (Joins.block_setCell (i:=2) (Joins.block_setCell (i:=1) (Joins.block_setCell (i:=0) hz3 _) _) _) _) _
     have HBV:Hid (Below w2.heap.size w2 V):=by rw [hV];exact ((((HB3.out.setCell (p:=⟨w2.heap.size,0,none⟩) (Nat.le_refl _) _).setCell (p:=⟨w2.heap.size,1,none⟩) (Nat.le_refl _) _).setCell (p:=⟨w2.heap.size,2,none⟩) (Nat.le_refl _) _).setCell (p:=⟨w2.heap.size,3,none⟩) (Nat.le_refl _) _).setCell (p:=⟨w2.heap.size,4,none⟩) (Nat.le_refl _) _
     clear hV f0 f1 f2 f3 f4 g0 g1 g2 g3 g4 hz3
     generalize w2.heap.size=mb at hmq ⊢)
  clear c0 c1 c2 c3 c4 d0 d1 d2 d3 d4 y0 hb2 hw2
  have HBW:Hid (Below w.heap.size w V):=HB2.out.trans (HBV.out.mono HB2.out.size)
  obtain ⟨h1q,hpq⟩:=HX.out V HBW.out (HPB.out V HBV.out)
  obtain ⟨c0,c1,c2,c3,c4⟩:=cells5 hpq
  obtain ⟨m0,m1,m2,m3,m4⟩:=cells5 hmq
  have d0:V.cell? ⟨b,6,none⟩=some (.int .i64 ax):=cellsAt h1q 6
  have dz0:V.frozen? ⟨b,6,none⟩=false:=frozen_of h1q 6
  have d1:V.cell? ⟨b,7,none⟩=some (.int .i64 ay):=cellsAt h1q 7
  have dz1:V.frozen? ⟨b,7,none⟩=false:=frozen_of h1q 7
  have d2:V.cell? ⟨b,8,none⟩=some (.int .i64 az):=cellsAt h1q 8
  have dz2:V.frozen? ⟨b,8,none⟩=false:=frozen_of h1q 8
  have d3:V.cell? ⟨b,9,none⟩=some (.int .i64 ah):=cellsAt h1q 9
  have dz3:V.frozen? ⟨b,9,none⟩=false:=frozen_of h1q 9
  have d4:V.cell? ⟨b,10,none⟩=some (.int .i64 as_):=cellsAt h1q 10
  have dz4:V.frozen? ⟨b,10,none⟩=false:=frozen_of h1q 10
  have hbV:b < V.heap.size:=by have:=HBW.out.size;omega
  have hwV:w.heap.size < V.heap.size:=(Array.getElem?_eq_some_iff.1 hpq).1
  have hne1:¬ w.heap.size=b:=by omega
  rcases hbt:bt with _ | _
  ·have hbtE:=HBT.out.2 hbt
   have HBE:Hid (res=3):=hbtE
   have hm:mE=3:=HME.out.trans (by rw [hbt];rfl)
   rw [hm]
   clear hm hbtE hbt
   go_wp2_with fail
   go_ret
   exact ⟨ret_int HBE.out.symm,Sh.of HBW.out,fun h=>by rw [HBE.out] at h;cases h⟩
  ·have hm:mE=0:=HME.out.trans (by rw [hbt];rfl)
   have HRE:Hid (res=nte):=HBT.out.1 hbt
   have HTE:Hid (TN=_):=HTN.out hbt
   rw [hm]
   clear hm hbt
   obtain ⟨W9,hW9⟩:∃ W9,W9=(((((V.setCell ⟨b,6,none⟩ (.int .i64 mx)).setCell ⟨b,7,none⟩ (.int .i64 my)).setCell ⟨b,8,none⟩ (.int .i64 mz)).setCell ⟨b,9,none⟩ (.int .i64 mh)).setCell ⟨b,10,none⟩ (.int .i64 ms_)):=⟨_,rfl⟩
   have HK9:Hid (Wk L W9 b NN):=by rw [hW9];exact HSP.out V HBW.out
   have HS9:Hid (Sh (fun k=>k=b) w W9):=by rw [hW9];exact set5_sh (Sh.of HBW.out) _ _ _ _ _ _ _ _ _ _
   have hp9:W9.heap[w.heap.size]?=some (.cells #[.int .i64 px,.int .i64 py,.int .i64 pz,.int .i64 ph,.int .i64 ps] 27 (0,0)):=by
    have e5:∀ (W:World) (j:Nat) (v:Value),(W.setCell ⟨b,j,none⟩ v).heap[w.heap.size]?=W.heap[w.heap.size]?:=fun W j v=>Below.heap_setCell _ _ _ _ (by simp only;omega)
    rw [hW9,e5,e5,e5,e5,e5]
    exact hpq
   go_upto_region 12 with fail
   rw [← hW9]
   clear hW9 c0 c1 c2 c3 c4 m0 m1 m2 m3 m4 d0 dz0 d1 dz1 d2 dz2 d3 dz3 d4 dz4 h1q hpq hmq
   obtain ⟨c0,c1,c2,c3,c4⟩:=cells5 hp9
   go_wp2_with fail
   refine (HNT.out W9 HK9.out).mono ?_
   rintro e w9 ⟨rfl,hs9,hk9⟩
   have HS10:Hid (Sh (fun k=>k=b) w w9):=HS9.out.trans hs9
   clear hs9
   go_wp2_with fail
   go_ret
   exact ⟨ret_int HRE.out.symm,HS10.out,fun _=>by rw [HTE.out];exact hk9.out⟩
set_option maxHeartbeats 3200000 in
theorem traceC_any (L b tb:Nat) (n:Nd) (t:ByteArray) (p:Pl) (r:Int) (w:World) (h:Wk L w b n) (hL:L≤b) (hf:Wh.Fine n.wh) (hnp:chkP n.p=0) (ht:t.size≤maxLen)
 (hc1:w.heap[tb+1]?=some (.cells #[.string t] 9 (0,0))) (hc2:w.heap[tb+2]?=some (.cells #[.int .i64 p.x,.int .i64 p.y,.int .i64 p.z,.int .i64 p.h,.int .i64 p.s] 27 (0,0))) (hc3:w.heap[tb+3]?=some (.cells #[.int .i64 r] 3 (0,0))) :
 Calls Tryz.prog 80 #[.pointer (some ⟨b,0,none⟩),.pointer (some ⟨tb+1,0,none⟩),.pointer (some ⟨tb+2,0,none⟩),.pointer (some ⟨tb+3,0,none⟩)] w fun e w'=>e=.returned (.int .i64 (trE n t p r))∧Sh (fun k=>k=b) w w'∧Hid (trE n t p r=0→Wk L w' b (trN n t p r)):=by
 have HC:Hid (Calls Tryz.prog 81 #[.pointer (some ⟨b,0,none⟩),.string t,.agg #[.int .i64 p.x,.int .i64 p.y,.int .i64 p.z,.int .i64 p.h,.int .i64 p.s],.int .i64 r] w fun e w'=>e=.returned (.int .i64 (trE n t p r))∧Sh (fun k=>k=b) w w'∧Hid (trE n t p r=0→Wk L w' b (trN n t p r))):=wtrace_any L b n t p r w h hL hf hnp ht
 have y0:w.cell? ⟨tb+1,0,none⟩=some (.string t):=cellsAt hc1 0
 have z0:w.cell? ⟨tb+3,0,none⟩=some (.int .i64 r):=cellsAt hc3 0
 obtain ⟨x0,x1,x2,x3,x4⟩:=cells5 hc2
 clear h hc1 hc2 hc3 hf hnp
 generalize trE n t p r=we at *
 generalize trN n t p r=wn at *
 obtain ⟨px,py,pz,ph,ps⟩:=p
 simp only at HC x0 x1 x2 x3 x4
 go_enter Tryz.func80,Tryz.ntmps80
 go_wp2_with fail
 refine HC.out.mono ?_
 rintro e w1 ⟨rfl,hs,hk⟩
 have HS:Hid (Sh (fun k=>k=b) w w1):=hs
 clear hs
 go_wp2_with fail
 go_ret
 exact ⟨rfl,HS.out,hk⟩
set_option maxHeartbeats 25600000 in
set_option maxRecDepth 100000 in
theorem Trace_any (n:Nd) (t:ByteArray) (p:Pl) (r:Int) (vm vr vs vg vw:Value) (w:World) (h:NdIs w n vm vr vs vg vw) (ht:t.size≤maxLen) :
 Calls Tryz.prog 31 #[.agg (ndA n vm vr vs vg vw),.string t,.agg #[.int .i64 p.x,.int .i64 p.y,.int .i64 p.z,.int .i64 p.h,.int .i64 p.s],.int .i64 r] w fun e w'=>OpSays n.e (trE n t p r) (trN n t p r) w e w':=by
 have HIS:Hid (NdIs w n vm vr vs vg vw):=h
 obtain ⟨W0,hW0⟩:∃ W0,W0=w.heap.size:=⟨_,rfl⟩
 clear hW0 W0
 have HWS:Hid (∀ W0,Below w.heap.size w W0→W0.heap.size=w.heap.size+5→W0.heap[w.heap.size+1]?=some (.cells #[.string t] 9 (0,0))→W0.heap[w.heap.size+2]?=some (.cells #[.int .i64 p.x,.int .i64 p.y,.int .i64 p.z,.int .i64 p.h,.int .i64 p.s] 27 (0,0))→W0.heap[w.heap.size+3]?=some (.cells #[.int .i64 r] 3 (0,0))→Calls Tryz.prog 54 #[.agg (ndA n vm vr vs vg vw),.func (.func 80) #[] #[.pointer (some ⟨w.heap.size+1,0,none⟩),.pointer (some ⟨w.heap.size+2,0,none⟩),.pointer (some ⟨w.heap.size+3,0,none⟩)]] W0 fun e w'=>WorkSays n.e (trE n t p r) (trN n t p r) (fun _=>False) (fun _=>True) W0 e w'):=fun W0 hb hs hc1 hc2 hc3=>
  work_any 80 #[.pointer (some ⟨w.heap.size+1,0,none⟩),.pointer (some ⟨w.heap.size+2,0,none⟩),.pointer (some ⟨w.heap.size+3,0,none⟩)] (enters_of Tryz.func80 (by kernel_rfl) rfl) n vm vr vs vg vw W0 (h.below hb) (fun _=>False) (trE n t p r) (trN n t p r) (fun _=>True)
   (fun he W b hW hb2 hk=>by
     refine (traceC_any (W0.heap.size+2) b (w.heap.size) n t p r W hk (by omega) (Wh.fine_chk (Nd.parts (Nd.e_zero he).1).wh h.ok.wh) (Nd.parts (Nd.e_zero he).1).p ht ((hW.block _ (by omega)).trans hc1) ((hW.block _ (by omega)).trans hc2) ((hW.block _ (by omega)).trans hc3)).mono ?_
     rintro e w' ⟨rfl,hs,hh⟩
     exact ⟨rfl,hs.mono (fun k hk=>.inl (by omega)),fun h=>⟨hh.out h,trivial⟩⟩
   ) (fun _ _ _ _=>trivial) (fun _ hk=>hk.elim)
 obtain ⟨nm,ct,ms,rs,sv,gw,⟨px,py,pz,ph,pq⟩,wh⟩:=n
 obtain ⟨⟨em,cm,rfl,_,_⟩,⟨er_,cr,rfl,_,_⟩,⟨es,cs_,rfl,_,_⟩,⟨eg_,cg,rfl,_,_⟩,⟨eh,ch,rfl,_,_⟩,_,_⟩:=h
 simp only [ndA] at HWS ⊢
 generalize ms.length=km at *
 generalize rs.length=kr at *
 generalize sv.length=ks at *
 generalize gw.length=kg at *
 generalize wh.length=kh at *
 generalize Nd.e ⟨nm,ct,ms,rs,sv,gw,⟨px,py,pz,ph,pq⟩,wh⟩=ne at *
 generalize trE ⟨nm,ct,ms,rs,sv,gw,⟨px,py,pz,ph,pq⟩,wh⟩ t p r=er at *
 generalize trN ⟨nm,ct,ms,rs,sv,gw,⟨px,py,pz,ph,pq⟩,wh⟩ t p r=n' at *
 obtain ⟨bx,by_,bz,bh,bs⟩:=p
 simp only at HWS ⊢
 obtain ⟨W0,hW0⟩:∃ W0,W0=(((((w.alloc (.cells #[.string nm,.string ct,.slice em km cm,.slice er_ kr cr,.slice es ks cs_,.slice eg_ kg cg,.int .i64 px,.int .i64 py,.int .i64 pz,.int .i64 ph,.int .i64 pq,.slice eh kh ch] 30)).alloc (.cells #[.string t] 9)).alloc (.cells #[.int .i64 bx,.int .i64 by_,.int .i64 bz,.int .i64 bh,.int .i64 bs] 27)).alloc (.cells #[.int .i64 r] 3)).alloc (.cells #[.string ⟨#[]⟩,.string ⟨#[]⟩,.slice none 0 0,.slice none 0 0,.slice none 0 0,.slice none 0 0,.int .i64 0,.int .i64 0,.int .i64 0,.int .i64 0,.int .i64 0,.slice none 0 0] 30)):=⟨_,rfl⟩
 have hb0:Below w.heap.size w W0:=by rw [hW0];exact (((((Below.refl _ _).alloc (Nat.le_refl _) _).alloc (by simp<;>omega) _).alloc (by simp<;>omega) _).alloc (by simp<;>omega) _).alloc (by simp<;>omega) _
 have hs0:W0.heap.size=w.heap.size+5:=by rw [hW0];simp
 have hc1:W0.heap[w.heap.size+1]?=some (.cells #[.string t] 9 (0,0)):=by
  have h:=heap_alloc_new (w.alloc (.cells #[.string nm,.string ct,.slice em km cm,.slice er_ kr cr,.slice es ks cs_,.slice eg_ kg cg,.int .i64 px,.int .i64 py,.int .i64 pz,.int .i64 ph,.int .i64 pq,.slice eh kh ch] 30)) (.cells #[.string t] 9)
  rw [hW0,Below.heap_alloc _ _ _ (by simp<;>omega),Below.heap_alloc _ _ _ (by simp<;>omega),Below.heap_alloc _ _ _ (by simp<;>omega)];simpa using h
 have hc2:W0.heap[w.heap.size+2]?=some (.cells #[.int .i64 bx,.int .i64 by_,.int .i64 bz,.int .i64 bh,.int .i64 bs] 27 (0,0)):=by
  have h:=heap_alloc_new ((w.alloc (.cells #[.string nm,.string ct,.slice em km cm,.slice er_ kr cr,.slice es ks cs_,.slice eg_ kg cg,.int .i64 px,.int .i64 py,.int .i64 pz,.int .i64 ph,.int .i64 pq,.slice eh kh ch] 30)).alloc (.cells #[.string t] 9)) (.cells #[.int .i64 bx,.int .i64 by_,.int .i64 bz,.int .i64 bh,.int .i64 bs] 27)
  rw [hW0,Below.heap_alloc _ _ _ (by simp<;>omega),Below.heap_alloc _ _ _ (by simp<;>omega)];simpa using h
 have hc3:W0.heap[w.heap.size+3]?=some (.cells #[.int .i64 r] 3 (0,0)):=by
  have h:=heap_alloc_new (((w.alloc (.cells #[.string nm,.string ct,.slice em km cm,.slice er_ kr cr,.slice es ks cs_,.slice eg_ kg cg,.int .i64 px,.int .i64 py,.int .i64 pz,.int .i64 ph,.int .i64 pq,.slice eh kh ch] 30)).alloc (.cells #[.string t] 9)).alloc (.cells #[.int .i64 bx,.int .i64 by_,.int .i64 bz,.int .i64 bh,.int .i64 bs] 27)) (.cells #[.int .i64 r] 3)
  rw [hW0,Below.heap_alloc _ _ _ (by simp<;>omega)];simpa using h
 have hz0:W0.heap[w.heap.size+4]?=some (.cells #[.string ⟨#[]⟩,.string ⟨#[]⟩,.slice none 0 0,.slice none 0 0,.slice none 0 0,.slice none 0 0,.int .i64 0,.int .i64 0,.int .i64 0,.int .i64 0,.int .i64 0,.slice none 0 0] 30 (0,0)):=by
  have h:=heap_alloc_new ((((w.alloc (.cells #[.string nm,.string ct,.slice em km cm,.slice er_ kr cr,.slice es ks cs_,.slice eg_ kg cg,.int .i64 px,.int .i64 py,.int .i64 pz,.int .i64 ph,.int .i64 pq,.slice eh kh ch] 30)).alloc (.cells #[.string t] 9)).alloc (.cells #[.int .i64 bx,.int .i64 by_,.int .i64 bz,.int .i64 bh,.int .i64 bs] 27)).alloc (.cells #[.int .i64 r] 3)) (.cells #[.string ⟨#[]⟩,.string ⟨#[]⟩,.slice none 0 0,.slice none 0 0,.slice none 0 0,.slice none 0 0,.int .i64 0,.int .i64 0,.int .i64 0,.int .i64 0,.int .i64 0,.slice none 0 0] 30)
  rw [hW0];simpa using h
 have HWC:=HWS.out W0 hb0 hs0 hc1 hc2 hc3
 have HB0:Hid (Below w.heap.size w W0):=hb0
 have HZ0:Hid (W0.heap[w.heap.size+4]?=some (.cells #[.string ⟨#[]⟩,.string ⟨#[]⟩,.slice none 0 0,.slice none 0 0,.slice none 0 0,.slice none 0 0,.int .i64 0,.int .i64 0,.int .i64 0,.int .i64 0,.int .i64 0,.slice none 0 0] 30 (0,0))):=hz0
 clear hb0 hz0 HWS hc1 hc2 hc3
 go_enter Tryz.func31,Tryz.ntmps31
 go_wp2_with fail
 rw [← hW0]
 refine HWC.mono ?_
 rintro e w1 ⟨hsh,hor⟩
 have hb1:Below W0.heap.size W0 w1:=hsh.below (Nat.le_refl _) (fun _ hk=>hk.elim)
 have hz1:w1.heap[w.heap.size+4]?=_:=(hb1.block _ (by omega)).trans HZ0.out
 have HB1:Hid (Below w.heap.size w w1):=HB0.out.trans (hb1.mono (by omega))
 have hs1:w.heap.size+4 < w1.heap.size:=(Array.getElem?_eq_some_iff.1 hz1).1
 obtain ⟨q0,q1,q2,q3,q4,q5,q6,q7,q8,q9,q10,q11⟩:=cells12 hz1
 obtain ⟨qz0,qz1,qz2,qz3,qz4,qz5,qz6,qz7,qz8,qz9,qz10,qz11⟩:=frz12 hz1
 clear hsh hb1 hz1 HWC hW0
 rcases hor with ⟨hne,rfl⟩ | ⟨hne,hee,rfl⟩ | ⟨hne,hee,um,ur,us,ug,uw,rfl,hown,hok,_⟩
 ·have HNE:Hid (ne≠0):=hne
  clear hne
  go_wp2_with fail
  refine bodyPost_ret (v:=.tuple #[.agg #[.string ⟨#[]⟩,.string ⟨#[]⟩,.slice none 0 0,.slice none 0 0,.slice none 0 0,.slice none 0 0,.int .i64 0,.int .i64 0,.int .i64 0,.int .i64 0,.int .i64 0,.slice none 0 0],.int .i64 ne]) ?_ rfl ?_
  ·simp [results,Tryz.results31,go_sem,q0,q1,q2,q3,q4,q5,q6,q7,q8,q9,q10,q11]
  ·unfold OpSays
   exact ⟨below_set12 HB1.out (by omega) _ _ _ _ _ _ _ _ _ _ _ _,.inl ⟨HNE.out,rfl⟩⟩
 ·have HNE:Hid (ne=0∧er≠0):=⟨hne,hee⟩
  clear hne hee
  go_wp2_with fail
  refine bodyPost_ret (v:=.tuple #[.agg #[.string ⟨#[]⟩,.string ⟨#[]⟩,.slice none 0 0,.slice none 0 0,.slice none 0 0,.slice none 0 0,.int .i64 0,.int .i64 0,.int .i64 0,.int .i64 0,.int .i64 0,.slice none 0 0],.int .i64 er]) ?_ rfl ?_
  ·simp [results,Tryz.results31,go_sem,q0,q1,q2,q3,q4,q5,q6,q7,q8,q9,q10,q11]
  ·unfold OpSays
   exact ⟨below_set12 HB1.out (by omega) _ _ _ _ _ _ _ _ _ _ _ _,.inr (.inl ⟨HNE.out.1,HNE.out.2,rfl⟩)⟩
 ·have HNE:Hid (ne=0∧er=0):=⟨hne,hee⟩
  have HOWN:Hid (NdOwn W0.heap.size w1 n' um ur us ug uw):=hown
  have HOK2:Hid (NdOk n'):=hok
  obtain ⟨im2,jm2,hvm,_⟩:=own_slice hown.ms
  obtain ⟨ir2,jr2,hvr,_⟩:=own_slice hown.rs
  obtain ⟨is2,js2,hvs,_⟩:=own_slice hown.sv
  obtain ⟨ig2,jg2,hvg,_⟩:=own_slice hown.gw
  obtain ⟨ih2,jh2,hvh,_⟩:=own_slice hown.wh
  subst hvm hvr hvs hvg hvh
  clear hown hok hne hee
  obtain ⟨n2,c2,ms2,rs2,sv2,gw2,⟨qx,qy,qz,qh,qq⟩,wh2⟩:=n'
  go_wp2_with fail
  refine bodyPost_ret (v:=.tuple #[.agg #[.string n2,.string c2,.slice im2 ms2.length jm2,.slice ir2 rs2.length jr2,.slice is2 sv2.length js2,.slice ig2 gw2.length jg2,.int .i64 qx,.int .i64 qy,.int .i64 qz,.int .i64 qh,.int .i64 qq,.slice ih2 wh2.length jh2],.int .i64 0]) ?_ rfl ?_
  ·simp [results,Tryz.results31,go_sem,q0,q1,q2,q3,q4,q5,q6,q7,q8,q9,q10,q11]
  ·unfold OpSays
   exact ⟨below_set12 HB1.out (by omega) _ _ _ _ _ _ _ _ _ _ _ _,.inr (.inr ⟨HNE.out.1,HNE.out.2,_,_,_,_,_,rfl,ndOwn_set12 HOWN.out (by omega) (by omega) _ _ _ _ _ _ _ _ _ _ _ _,HOK2.out⟩)⟩
end Go.Proofs.YtikgjgmgbfjcgaaGreat
