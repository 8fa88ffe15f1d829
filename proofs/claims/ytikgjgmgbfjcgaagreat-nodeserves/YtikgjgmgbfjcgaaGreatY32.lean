import Derived.Test.YtikgjgmgbfjcgaaGreatY31
namespace Go.Proofs.YtikgjgmgbfjcgaaGreat
open Go.RowKit
theorem Sh.grown {S:Nat→Prop} {a w w':World} {row:Option Nat} (h:Sh S a w) (hg:w.grownBy w' row) (hr:∀ k,row=some k→S k):Sh S a w':=
 h.trans ⟨hg.os,hg.tape,hg.output,hg.size,fun k hk hn=>hg.block k hk (fun e=>hn (hr k e.symm))⟩
set_option maxHeartbeats 25600000 in
set_option maxRecDepth 100000 in
theorem learn_any (L b:Nat) (n:Nd) (l:List Wh.Whe) (vx:Value) (w0 w:World) (h:Wk L w b n) (hL:L≤b) (hf:Wh.Fine n.wh) (hx:Wh.Sl w0 vx l) (hB:Below w0.heap.size w0 w) (hBL:w0.heap.size≤L) (hll:l.length≤1000) :
 Calls Tryz.prog 125 #[.pointer (some ⟨b,0,none⟩),vx] w fun e w'=>e=.returned (.tuple #[])∧Sh (fun k=>L≤k) w w'∧Wk L w' b { n with wh:=lrn n.wh l }:=by
 have HWK:Hid (Wk L w b n):=h
 have HB:Hid (Below w0.heap.size w0 w):=hB
 have HFI:Hid (Wh.Fine n.wh):=hf
 obtain ⟨px,cx,rfl,hxs,hxr⟩:=hx
 have HXR:Hid (l=[]∨∃ b off,px=some ⟨b,off,none⟩∧b < w0.heap.size∧Wh.Row w0 b off l):=hxr
 have HXS:Hid (∀ j,(l.getD j Wh.dm).ok):=hxs
 have HLO:Hid (∀ m∈l,m.ok):=Wh.ns_mem hxs
 clear h hB hf hxs hxr
 generalize hN:l.length=nl at *
 have HN:Hid (l.length=nl):=hN
 clear hN
 go_enter Tryz.func125,Tryz.ntmps125
 go_wp2_with fail
 go_loopw [10] (fun i wr=>∃ k:Nat,k≤nl∧i=.int .i64 k∧Hid (Sh (fun k=>L≤k) w wr)∧Hid (Wk L wr b { n with wh:=lrn n.wh (l.take k) })) (fun i _=>nl - (intOf i).toNat)
 case atStart=>exact ⟨0,Nat.zero_le _,rfl,Sh.refl _ _,HWK⟩
 case round=>
  obtain ⟨k,hk,rfl,HSH,HW⟩:=hrel
  by_cases hlt:k < nl
  ·obtain ⟨b2,o2,hp,hl2,hr⟩:∃ b off,px=some ⟨b,off,none⟩∧b < w0.heap.size∧Wh.Row w0 b off l:=by
    rcases HXR.out with h | h
    ·have:=HN.out;rw [h] at this;simp at this;omega
    ·exact h
   subst hp
   have HBR:Hid (Below w0.heap.size w0 wr):=HB.out.trans (HSH.out.below HB.out.size (fun k hk=>by omega))
   obtain ⟨c0,c1,c2,c3,c4,c5⟩:_∧_∧_∧_∧_∧_:=by
    have hk':k < l.length:=by rw [HN.out];exact hlt
    have hq:=hr k hk'
    have hc:∀ o,wr.cell? ⟨b2,o,none⟩=w0.cell? ⟨b2,o,none⟩:=fun o=>HBR.out.cell (p:=⟨b2,o,none⟩) hl2
    simp only [← hc] at hq
    exact hq
   clear hr
   have HFK:Hid (Wh.Fine (lrn n.wh (l.take k))):=fine_lrn HFI.out (fun m hm=>HLO.out m (List.mem_of_mem_take hm))
   have HST:Hid (lrn n.wh (l.take (k+1))=lrn1 (lrn n.wh (l.take k)) (l.getD k Wh.dm)):=lrn_take n.wh l k (by rw [HN.out];exact hlt)
   have hxo:=HXS.out k
   generalize l.getD k Wh.dm=x at *
   generalize hkn:lrn n.wh (l.take k)=known at *
   clear hkn
   obtain ⟨p,f,hat⟩:=Wh.at_any known HFK.out.rise x
   have HAT:Hid (Wh.At known x p f):=hat
   have HAN:Hid ((known.any fun y=>decide (y.node=x.node))=f):=any_at HFK.out.rise hat
   clear hat
   have hbr:=HW.out.lt
   obtain ⟨vm,vr,vs,vg,vw,h1,h2,h3,h4⟩:=HW.out
   have HOW:Hid (Wh.Own L wr vw known):=h2.wh
   have HH3:Hid (vm.ownBlock≠some b∧vr.ownBlock≠some b∧vs.ownBlock≠some b∧vg.ownBlock≠some b∧vw.ownBlock≠some b):=h3
   have HH4:Hid (NdOk { n with wh:=known }):=h4
   have HH2:Hid (NdOwn L wr { n with wh:=known } vm vr vs vg vw):=h2
   obtain ⟨aw,cw,hvw,hcw⟩:=own_slice h2.wh
   simp only at hvw hcw
   subst hvw
   have HSW:Hid (Wh.Sl wr (.slice aw known.length cw) known):=h2.wh.sl (Wh.ns_get HFK.out.ok)
   have HKL:Hid (known.length≤20):=HFK.out.len
   obtain ⟨W1,hW1⟩:∃ W1,W1=wr.alloc (.cells #[.string x.node,.int .i64 x.x,.int .i64 x.y,.int .i64 x.z,.int .i64 x.h,.int .i64 x.s] 104):=⟨_,rfl⟩
   have hb1:Below wr.heap.size wr W1:=by rw [hW1];exact (Below.refl _ _).alloc (Nat.le_refl _) _
   have hs1:W1.heap.size=wr.heap.size+1:=by rw [hW1];simp
   have hg1:W1.heap[wr.heap.size]?=some (.cells #[.string x.node,.int .i64 x.x,.int .i64 x.y,.int .i64 x.z,.int .i64 x.h,.int .i64 x.s] 104 (0,0)):=by rw [hW1];exact heap_alloc_new wr _
   have HG1:Hid (W1.heap[wr.heap.size]?=some (.cells #[.string x.node,.int .i64 x.x,.int .i64 x.y,.int .i64 x.z,.int .i64 x.h,.int .i64 x.s] 104 (0,0))):=hg1
   have HB1:Hid (Below wr.heap.size wr W1):=hb1
   have HX1:Hid (∀ W,Below wr.heap.size wr W→W.heap[b]?=some (.cells (ndA { n with wh:=known } vm vr vs vg (.slice aw known.length cw)) 72 (0,0))):=fun W hW=>(hW.block _ hbr).trans h1
   have x0:W1.cell? ⟨wr.heap.size,0,none⟩=some (.string x.node):=cellsAt hg1 0
   have x1:W1.cell? ⟨wr.heap.size,1,none⟩=some (.int .i64 x.x):=cellsAt hg1 1
   have x2:W1.cell? ⟨wr.heap.size,2,none⟩=some (.int .i64 x.y):=cellsAt hg1 2
   have x3:W1.cell? ⟨wr.heap.size,3,none⟩=some (.int .i64 x.z):=cellsAt hg1 3
   have x4:W1.cell? ⟨wr.heap.size,4,none⟩=some (.int .i64 x.h):=cellsAt hg1 4
   have x5:W1.cell? ⟨wr.heap.size,5,none⟩=some (.int .i64 x.s):=cellsAt hg1 5
   have y11:W1.cell? ⟨b,11,none⟩=some (.slice aw known.length cw):=cellsAt (HX1.out W1 hb1) 11
   have hFI:∀ d os,Calls Tryz.prog 169 #[.slice aw known.length cw,.agg #[.string x.node,.int .i64 x.x,.int .i64 x.y,.int .i64 x.z,.int .i64 x.h,.int .i64 x.s],.func (.func 170) #[] #[]] (Go.Sort.grow (redrawn W1 d) os) fun e w''=>e=.returned (.tuple #[.int .i64 p,.bool f])∧∃ q:Regrown,w''=Go.Sort.grow (redrawn W1 q.d) q.os:=fun d os=>Calls.regrown_of ((Wh.find_any known _ x _ (HSW.out.below (hb1.trans ((below_regrown W1 d os).mono (by omega)))) (by have:=HKL.out;omega) HFK.out.rise).mono (by
    rintro e w' ⟨p',f',rfl,hb,ha⟩
    obtain ⟨rfl,rfl⟩:=Wh.at_uniq ha HAT.out
    exact ⟨rfl,hb⟩))
   have F0:∀ d os,(Go.Sort.grow (redrawn W1 d) os).cell? ⟨wr.heap.size,0,none⟩=some (.string x.node):=cell_regrown x0
   have F1:∀ d os,(Go.Sort.grow (redrawn W1 d) os).cell? ⟨wr.heap.size,1,none⟩=some (.int .i64 x.x):=cell_regrown x1
   have F2:∀ d os,(Go.Sort.grow (redrawn W1 d) os).cell? ⟨wr.heap.size,2,none⟩=some (.int .i64 x.y):=cell_regrown x2
   have F3:∀ d os,(Go.Sort.grow (redrawn W1 d) os).cell? ⟨wr.heap.size,3,none⟩=some (.int .i64 x.z):=cell_regrown x3
   have F4:∀ d os,(Go.Sort.grow (redrawn W1 d) os).cell? ⟨wr.heap.size,4,none⟩=some (.int .i64 x.h):=cell_regrown x4
   have F5:∀ d os,(Go.Sort.grow (redrawn W1 d) os).cell? ⟨wr.heap.size,5,none⟩=some (.int .i64 x.s):=cell_regrown x5
   have G11:∀ d os,(Go.Sort.grow (redrawn W1 d) os).cell? ⟨b,11,none⟩=some (.slice aw known.length cw):=cell_regrown y11
   clear h1 h2 h3 h4 hg1 hb1 x0 x1 x2 x3 x4 x5 y11
   generalize hkl:known.length=kl at *
   have HKE:Hid (known.length=kl):=hkl
   clear hkl
   have hkl20:kl≤20:=HKL.out
   go_upto_region 3 with fail
   rw [← hW1]
   clear hW1 c0 c1 c2 c3 c4 c5
   refine wp_region_quiet_below (by kernel_rfl) (by kernel_rfl) ?_
   repeat (quiet_step (exact hFI _ _))
   refine wpQuiet_nil ?_
   intro _ hw'
   obtain ⟨⟨dq,osq⟩,hw''⟩:=hw'
   subst hw''
   have HB2:Hid (Below wr.heap.size wr (Go.Sort.grow (redrawn W1 dq) osq)):=HB1.out.trans ((below_regrown W1 dq osq).mono (by omega))
   have HG2:Hid ((Go.Sort.grow (redrawn W1 dq) osq).heap[wr.heap.size]?=some (.cells #[.string x.node,.int .i64 x.x,.int .i64 x.y,.int .i64 x.z,.int .i64 x.h,.int .i64 x.s] 104 (0,0))):=((below_regrown W1 dq osq).block _ (by omega)).trans HG1.out
   clear hFI F0 F1 F2 F3 F4 F5 G11 HG1 HB1
   generalize Go.Sort.grow (redrawn W1 dq) osq=W2 at *
   have y11:W2.cell? ⟨b,11,none⟩=some (.slice aw kl cw):=cellsAt (HX1.out W2 HB2.out) 11
   have HSH2:Hid (Sh (fun k=>L≤k) w W2):=HSH.out.next HB2.out
   have HWK2:Hid (Wk L W2 b { n with wh:=known }):=HW.out.below HB2.out
   cases f
   rotate_left
   ·have HEQ:Hid (lrn n.wh (l.take (k+1))=known):=HST.out.trans (by unfold lrn1;rw [if_pos (.inl HAN.out)])
    go_wp2_with fail
    go_roundw
    case rel=>exact ⟨k+1,by omega,by go_num,HSH2,by rw [HEQ.out];exact HWK2⟩
    case measure=>simp [intOf];omega
   ·by_cases hk20:kl < 20
    rotate_left
    ·have HEQ:Hid (lrn n.wh (l.take (k+1))=known):=HST.out.trans (by unfold lrn1;rw [if_pos (.inr (by rw [HKE.out];omega))])
     go_wp2_with fail
     go_roundw
     case rel=>exact ⟨k+1,by omega,by go_num,HSH2,by rw [HEQ.out];exact HWK2⟩
     case measure=>simp [intOf];omega
    ·have HEQ:Hid (lrn n.wh (l.take (k+1))=known.take p++x :: known.drop p):=HST.out.trans (by
      unfold lrn1
      rw [if_neg (by rw [HAN.out,HKE.out];intro h;rcases h with h | h;· cases h
                     ·omega),Wh.hearL_at known x p false HAT.out,if_neg (by simp)])
     have HOKN:Hid (∀ m∈known.take p++x :: known.drop p,m.ok):=fun m hm=>by
      rcases List.mem_append.1 hm with hm | hm
      ·exact HFK.out.ok m (List.mem_of_mem_take hm)
      ·rcases List.mem_cons.1 hm with rfl | hm
       ·exact hxo
       ·exact HFK.out.ok m (List.mem_of_mem_drop hm)
     have hpl:p≤kl:=by have:=HAT.out.le;rw [HKE.out] at this;exact this
     have v0:W2.cell? ⟨wr.heap.size,0,none⟩=some (.string x.node):=cellsAt HG2.out 0
     have v1:W2.cell? ⟨wr.heap.size,1,none⟩=some (.int .i64 x.x):=cellsAt HG2.out 1
     have v2:W2.cell? ⟨wr.heap.size,2,none⟩=some (.int .i64 x.y):=cellsAt HG2.out 2
     have v3:W2.cell? ⟨wr.heap.size,3,none⟩=some (.int .i64 x.z):=cellsAt HG2.out 3
     have v4:W2.cell? ⟨wr.heap.size,4,none⟩=some (.int .i64 x.h):=cellsAt HG2.out 4
     have v5:W2.cell? ⟨wr.heap.size,5,none⟩=some (.int .i64 x.s):=cellsAt HG2.out 5
     obtain ⟨W3,hW3⟩:∃ W3,W3=(W2.alloc (.cells #[.string x.node,.int .i64 x.x,.int .i64 x.y,.int .i64 x.z,.int .i64 x.h,.int .i64 x.s] 104)).drew:=⟨_,rfl⟩
     have hb3:Below wr.heap.size wr W3:=by rw [hW3];exact (HB2.out.alloc HB2.out.size _).drew
     have hs23:W3.heap.size=W2.heap.size+1:=by rw [hW3];simp
     have hsr2:wr.heap.size≤W2.heap.size:=HB2.out.size
     have hg3:W3.heap[W2.heap.size]?=some (.cells x.cs.toArray 104 (0,0)):=by rw [hW3];exact heap_alloc_new W2 _
     have HI:Hid (Calls Tryz.prog 171 #[.slice aw kl cw,.int .i64 p,.slice (some ⟨W2.heap.size,0,none⟩) 1 1] W3 fun e w'=>∃ a q c,e=.returned (.slice a q c)∧Wh.Own L w' (.slice a q c) (known.take p++x :: known.drop p)∧W3.grownBy w' (Value.slice aw kl cw).ownBlock):=by
      refine (Wh.insert_any L p W2.heap.size _ known x W3 (HOW.out.below hb3) HAT.out.le (by rw [HKE.out];omega) (by omega) hg3 (fun e=>by have:=((HOW.out.below HB2.out).lt _ e).2;omega)).mono ?_
      rintro e w' ⟨v',rfl,ho,hg⟩
      obtain ⟨a,c,rfl,_⟩:=own_slice ho
      exact ⟨a,_,c,rfl,ho,hg⟩
     have HG3:Hid (∀ w5 a q c,Wh.Own L w5 (.slice a q c) (known.take p++x :: known.drop p)→W3.grownBy w5 (Value.slice aw kl cw).ownBlock→Wk L (w5.setCell ⟨b,11,none⟩ (.slice a q c)) b { n with wh:=known.take p++x :: known.drop p }∧Sh (fun k=>L≤k) w (w5.setCell ⟨b,11,none⟩ (.slice a q c))∧w5.heap[b]?=some (.cells (ndA { n with wh:=known } vm vr vs vg (.slice aw kl cw)) 72 (0,0))):=fun w5 a q c ho hg=>
      ⟨Wk.ins (n:={ n with wh:=known }) (HX1.out W3 hb3) (HH2.out.below hb3) HH3.out HH4.out hg ho HOKN.out,
       ((HSH.out.next hb3).grown hg (fun g hgg=>((HOW.out.below hb3).lt g hgg).1)).setCell (S:=fun k=>L≤k) hL _,
       (hg.block b (by have:=hb3.size;omega) (fun e=>HH3.out.2.2.2.2 e.symm)).trans (HX1.out W3 hb3)⟩
     have hbW2:b < W2.heap.size:=by omega
     have hrW2:wr.heap.size < W2.heap.size:=(Array.getElem?_eq_some_iff.1 HG2.out).1
     have hne1:¬ b=W2.heap.size:=by omega
     have hne2:¬ wr.heap.size=W2.heap.size:=by omega
     clear hg3 hb3
     go_upto_region 5 with fail
     go_region_with (first | (go_at_call 171;refine (show Calls _ _ _ _ _ by first | (rw [← hW3];exact HI.out) | (have h:=HI.out;rw [hW3] at h;exact h)).mono ?_;rintro e w5 ⟨a,q,c,rfl,ho5,hg5⟩;obtain ⟨i1,i2,i3⟩:=HG3.out w5 a q c ho5 hg5;have HI1:Hid (Wk L (w5.setCell ⟨b,11,none⟩ (.slice a q c)) b { n with wh:=known.take p++x :: known.drop p }):=i1;have HI2:Hid (Sh (fun k=>L≤k) w (w5.setCell ⟨b,11,none⟩ (.slice a q c))):=i2;have z11:w5.cell? ⟨b,11,none⟩=some (.slice aw kl cw):=cellsAt i3 11;have zf:w5.frozen? ⟨b,11,none⟩=false:=frozen_of i3 11;clear ho5 hg5 i1 i2 i3))
     all_goals
      go_wp2_with fail
      go_roundw
      case rel=>exact ⟨k+1,by omega,by go_num,HI2,by rw [HEQ.out];exact HI1⟩
      case measure=>simp [intOf];omega
  ·have hkn:k=nl:=by omega
   subst hkn
   have HWE:Hid (Wk L wr b { n with wh:=lrn n.wh l }):=by
    have h:=HW.out
    rw [List.take_of_length_le (by rw [HN.out];exact Nat.le_refl _)] at h
    exact h
   go_wp2_with fail
   simp only [bodyPost,results,Tryz.results125]
   exact ⟨trivial,.tuple #[],by simp,rfl,HSH.out,HWE.out⟩
end Go.Proofs.YtikgjgmgbfjcgaaGreat
