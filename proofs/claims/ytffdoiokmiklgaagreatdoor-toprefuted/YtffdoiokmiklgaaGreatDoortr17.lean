import Derived.Test.YtffdoiokmiklgaaGreatDoortr16
namespace Go.Proofs.YtffdoiokmiklgaaGreatDoor
open Go.RowKit
theorem shLow {S:Nat→Prop} {w w':World} (h:Sh (fun k=>S k∨w.heap.size≤k) w w'):Sh S w w':=by
 refine ⟨h.os,h.tape,h.output,h.size,fun k hk hn=>h.block k hk ?_⟩
 rintro (e | e)
 ·exact hn e
 ·omega
theorem Sh.setNew {S:Nat→Prop} {L:Nat} {a w:World} (h:Sh (fun k=>S k∨L≤k) a w) {b i:Nat} (hb:L≤b) (x:Value):Sh (fun k=>S k∨L≤k) a (w.setCell ⟨b,i,none⟩ x):=h.setCell (S:=fun k=>S k∨L≤k) (.inr hb) x
theorem ndOwn_set12 {B C b:Nat} {w:World} {n:Nd} {v1 v2 v3 v4 v5:Value} (h:NdOwn B w n v1 v2 v3 v4 v5) (hb:b < B) (hC:C≤B) (x0 x1 x2 x3 x4 x5 x6 x7 x8 x9 x10 x11:Value):NdOwn C ((((((((((((w.setCell ⟨b,0,none⟩ x0).setCell ⟨b,1,none⟩ x1).setCell ⟨b,2,none⟩ x2).setCell ⟨b,3,none⟩ x3).setCell ⟨b,4,none⟩ x4).setCell ⟨b,5,none⟩ x5).setCell ⟨b,6,none⟩ x6).setCell ⟨b,7,none⟩ x7).setCell ⟨b,8,none⟩ x8).setCell ⟨b,9,none⟩ x9).setCell ⟨b,10,none⟩ x10).setCell ⟨b,11,none⟩ x11) n v1 v2 v3 v4 v5:=
 ⟨Own.mono (owns_set12 h.ms hb _ _ _ _ _ _ _ _ _ _ _ _) hC,ROwn.base (owns_set12 h.rs hb _ _ _ _ _ _ _ _ _ _ _ _) hC,Sv.Own.mono (owns_set12 h.sv hb _ _ _ _ _ _ _ _ _ _ _ _) hC,Gw.Own.mono (owns_set12 h.gw hb _ _ _ _ _ _ _ _ _ _ _ _) hC,Wh.Own.mono (owns_set12 h.wh hb _ _ _ _ _ _ _ _ _ _ _ _) hC⟩
theorem Sh.setNew12 {S:Nat→Prop} {L:Nat} {a w:World} (h:Sh (fun k=>S k∨L≤k) a w) {b:Nat} (hb:L≤b) (x0 x1 x2 x3 x4 x5 x6 x7 x8 x9 x10 x11:Value):Sh (fun k=>S k∨L≤k) a ((((((((((((w.setCell ⟨b,0,none⟩ x0).setCell ⟨b,1,none⟩ x1).setCell ⟨b,2,none⟩ x2).setCell ⟨b,3,none⟩ x3).setCell ⟨b,4,none⟩ x4).setCell ⟨b,5,none⟩ x5).setCell ⟨b,6,none⟩ x6).setCell ⟨b,7,none⟩ x7).setCell ⟨b,8,none⟩ x8).setCell ⟨b,9,none⟩ x9).setCell ⟨b,10,none⟩ x10).setCell ⟨b,11,none⟩ x11):=((((((((((((h).setNew (i:=0) hb _).setNew (i:=1) hb _).setNew (i:=2) hb _).setNew (i:=3) hb _).setNew (i:=4) hb _).setNew (i:=5) hb _).setNew (i:=6) hb _).setNew (i:=7) hb _).setNew (i:=8) hb _).setNew (i:=9) hb _).setNew (i:=10) hb _).setNew (i:=11) hb _
def WorkSaysN (ne er:Int) (S:Nat→Prop) (R:Nd→World→Prop) (w:World) (e:Ending) (w':World):Prop:=Sh S w w' ∧
 ((ne≠0∧Below w.heap.size w w'∧e=.returned (.tuple #[.agg #[.string ⟨#[]⟩,.string ⟨#[]⟩,.slice none 0 0,.slice none 0 0,.slice none 0 0,.slice none 0 0,.int .i64 0,.int .i64 0,.int .i64 0,.int .i64 0,.int .i64 0,.slice none 0 0],.int .i64 ne]))∨(ne=0∧er≠0∧e=.returned (.tuple #[.agg #[.string ⟨#[]⟩,.string ⟨#[]⟩,.slice none 0 0,.slice none 0 0,.slice none 0 0,.slice none 0 0,.int .i64 0,.int .i64 0,.int .i64 0,.int .i64 0,.int .i64 0,.slice none 0 0],.int .i64 er])) ∨
 (ne=0∧er=0∧∃ n' um ur us ug uw,e=.returned (.tuple #[.agg (ndA n' um ur us ug uw),.int .i64 0])∧NdOwn w.heap.size w' n' um ur us ug uw∧NdOk n'∧R n' w'))
set_option maxHeartbeats 25600000 in
set_option maxRecDepth 100000 in
theorem workN_any (kf:Nat) (cs:Array Value) (eg:∀ args w,(callFunc kf args).run Tryz.prog w=.ok (.enter kf args) w) (n:Nd) (vm vr vs vg vw:Value) (w:World) (h:NdIs w n vm vr vs vg vw) (S:Nat→Prop) (er:Int) (R:Nd→World→Prop)
 (hF:n.e=0→∀ W b,Below w.heap.size w W→w.heap.size+2≤b→Wk (w.heap.size+2) W b n→Calls Tryz.prog kf (#[.pointer (some ⟨b,0,none⟩)]++cs) W fun e w'=>e=.returned (.int .i64 er)∧Sh (fun k=>w.heap.size+2≤k∨S k) W w'∧(er=0→∃ n',Wk (w.heap.size+2) w' b n'∧R n' w'))
 (hR:∀ n' W j x,R n' W→R n' (W.setCell ⟨w.heap.size+1,j,none⟩ x)) (hS:∀ k,S k→k < w.heap.size) :
 Calls Tryz.prog 61 #[.agg (ndA n vm vr vs vg vw),.func (.func kf) #[] cs] w fun e w'=>WorkSaysN n.e er S R w e w':=by
 have HIS:Hid (NdIs w n vm vr vs vg vw):=h
 have HOK:Hid (NdOk n):=h.ok
 have HCK:Hid (∀ W,Below w.heap.size w W→Calls Tryz.prog 60 #[.agg (ndA n vm vr vs vg vw)] W fun e w'=>e=.returned (.int .i64 n.e)∧Below W.heap.size W w'):=fun W hW=>ncheck_any n vm vr vs vg vw W (h.below hW)
 have HFR:Hid (n.e=0→∀ W,Below w.heap.size w W→Calls Tryz.prog 36 #[.agg (ndA n vm vr vs vg vw)] W fun e w'=>∃ um ur us ug uw,e=.returned (.agg (ndA n um ur us ug uw))∧NdOwn W.heap.size w' n um ur us ug uw∧Below W.heap.size W w'):=fun he W hW=>by
  have hp:=Nd.parts (Nd.e_zero he).1
  have l1:=(chk_zero hp.ms).1
  have l2:=(chkR_e0 hp.rs).1
  have l3:=(Sv.chk_zero hp.sv).1
  have l4:=(Gw.chk_zero hp.gw).1
  have l5:=(Wh.chk_zero hp.wh).1
  exact fresh_any n vm vr vs vg vw W (h.below hW) (by omega) (by omega) (by omega) (by omega) (by omega)
 have HF:Hid (n.e=0→∀ W b,Below w.heap.size w W→w.heap.size+2≤b→Wk (w.heap.size+2) W b n→Calls Tryz.prog kf (#[.pointer (some ⟨b,0,none⟩)]++cs) W fun e w'=>e=.returned (.int .i64 er)∧Sh (fun k=>w.heap.size+2≤k∨S k) W w'∧(er=0→∃ n',Wk (w.heap.size+2) w' b n'∧R n' w')):=hF
 have HR:Hid (∀ n' W j x,R n' W→R n' (W.setCell ⟨w.heap.size+1,j,none⟩ x)):=hR
 have HSL:Hid (∀ k,S k→k < w.heap.size):=hS
 clear hF hR hS
 obtain ⟨nm,ct,ms,rs,sv,gw,⟨px,py,pz,ph,pq⟩,wh⟩:=n
 obtain ⟨⟨em,cm,rfl,_,_⟩,⟨er_,cr,rfl,_,_⟩,⟨es,cs_,rfl,_,_⟩,⟨eg_,cg,rfl,_,_⟩,⟨eh,ch,rfl,_,_⟩,_,_⟩:=h
 simp only [ndA] at HCK HFR ⊢
 generalize hkm:ms.length=km at *
 have Hkm:Hid (ms.length=km):=hkm
 generalize hkr:rs.length=kr at *
 have Hkr:Hid (rs.length=kr):=hkr
 generalize hks:sv.length=ks at *
 have Hks:Hid (sv.length=ks):=hks
 generalize hkg:gw.length=kg at *
 have Hkg:Hid (gw.length=kg):=hkg
 generalize hkh:wh.length=kh at *
 have Hkh:Hid (wh.length=kh):=hkh
 clear hkm hkr hks hkg hkh
 have HNE:Hid (∃ ne,ne=Nd.e ⟨nm,ct,ms,rs,sv,gw,⟨px,py,pz,ph,pq⟩,wh⟩):=⟨_,rfl⟩
 generalize Nd.e ⟨nm,ct,ms,rs,sv,gw,⟨px,py,pz,ph,pq⟩,wh⟩=ne at *
 obtain ⟨W0,hW0⟩:∃ W0,W0=(w.alloc (.cells #[.string nm,.string ct,.slice em km cm,.slice er_ kr cr,.slice es ks cs_,.slice eg_ kg cg,.int .i64 px,.int .i64 py,.int .i64 pz,.int .i64 ph,.int .i64 pq,.slice eh kh ch] 51)).alloc (.cells #[.string ⟨#[]⟩,.string ⟨#[]⟩,.slice none 0 0,.slice none 0 0,.slice none 0 0,.slice none 0 0,.int .i64 0,.int .i64 0,.int .i64 0,.int .i64 0,.int .i64 0,.slice none 0 0] 51):=⟨_,rfl⟩
 have hb0:Below w.heap.size w W0:=by rw [hW0];exact ((Below.refl _ _).alloc (Nat.le_refl _) _).alloc (by simp) _
 have hg0:W0.heap[w.heap.size]?=some (.cells #[.string nm,.string ct,.slice em km cm,.slice er_ kr cr,.slice es ks cs_,.slice eg_ kg cg,.int .i64 px,.int .i64 py,.int .i64 pz,.int .i64 ph,.int .i64 pq,.slice eh kh ch] 51 (0,0)):=by
  rw [hW0,Below.heap_alloc _ _ _ (by simp)];exact heap_alloc_new w _
 have hz0:W0.heap[w.heap.size+1]?=some (.cells #[.string ⟨#[]⟩,.string ⟨#[]⟩,.slice none 0 0,.slice none 0 0,.slice none 0 0,.slice none 0 0,.int .i64 0,.int .i64 0,.int .i64 0,.int .i64 0,.int .i64 0,.slice none 0 0] 51 (0,0)):=by
  have h:=heap_alloc_new (w.alloc (.cells #[.string nm,.string ct,.slice em km cm,.slice er_ kr cr,.slice es ks cs_,.slice eg_ kg cg,.int .i64 px,.int .i64 py,.int .i64 pz,.int .i64 ph,.int .i64 pq,.slice eh kh ch] 51)) (.cells #[.string ⟨#[]⟩,.string ⟨#[]⟩,.slice none 0 0,.slice none 0 0,.slice none 0 0,.slice none 0 0,.int .i64 0,.int .i64 0,.int .i64 0,.int .i64 0,.int .i64 0,.slice none 0 0] 51)
  rw [hW0];simpa using h
 have hs0:W0.heap.size=w.heap.size+2:=by rw [hW0];simp
 have HB0:Hid (Below w.heap.size w W0):=hb0
 have HG0:Hid (W0.heap[w.heap.size]?=some (.cells #[.string nm,.string ct,.slice em km cm,.slice er_ kr cr,.slice es ks cs_,.slice eg_ kg cg,.int .i64 px,.int .i64 py,.int .i64 pz,.int .i64 ph,.int .i64 pq,.slice eh kh ch] 51 (0,0))):=hg0
 have HZ0:Hid (W0.heap[w.heap.size+1]?=some (.cells #[.string ⟨#[]⟩,.string ⟨#[]⟩,.slice none 0 0,.slice none 0 0,.slice none 0 0,.slice none 0 0,.int .i64 0,.int .i64 0,.int .i64 0,.int .i64 0,.int .i64 0,.slice none 0 0] 51 (0,0))):=hz0
 clear hb0 hg0 hz0
 go_enter Tryz.func61,Tryz.ntmps61
 go_wp2_with fail
 rw [← hW0]
 clear hW0
 refine (HCK.out W0 HB0.out).mono ?_
 rintro e w1 ⟨rfl,hb1⟩
 have hg1:w1.heap[w.heap.size]?=_:=(hb1.block _ (by omega)).trans HG0.out
 have hz1:w1.heap[w.heap.size+1]?=_:=(hb1.block _ (by omega)).trans HZ0.out
 have HB1:Hid (Below w.heap.size w w1):=HB0.out.trans (hb1.mono (by omega))
 have hs1:w.heap.size+1 < w1.heap.size:=(Array.getElem?_eq_some_iff.1 hz1).1
 have q0:w1.cell? ⟨w.heap.size+1,0,none⟩=_:=cellsAt hz1 0
 have qz0:w1.frozen? ⟨w.heap.size+1,0,none⟩=false:=by simp [World.frozen?,hz1]
 have q1:w1.cell? ⟨w.heap.size+1,1,none⟩=_:=cellsAt hz1 1
 have qz1:w1.frozen? ⟨w.heap.size+1,1,none⟩=false:=by simp [World.frozen?,hz1]
 have q2:w1.cell? ⟨w.heap.size+1,2,none⟩=_:=cellsAt hz1 2
 have qz2:w1.frozen? ⟨w.heap.size+1,2,none⟩=false:=by simp [World.frozen?,hz1]
 have q3:w1.cell? ⟨w.heap.size+1,3,none⟩=_:=cellsAt hz1 3
 have qz3:w1.frozen? ⟨w.heap.size+1,3,none⟩=false:=by simp [World.frozen?,hz1]
 have q4:w1.cell? ⟨w.heap.size+1,4,none⟩=_:=cellsAt hz1 4
 have qz4:w1.frozen? ⟨w.heap.size+1,4,none⟩=false:=by simp [World.frozen?,hz1]
 have q5:w1.cell? ⟨w.heap.size+1,5,none⟩=_:=cellsAt hz1 5
 have qz5:w1.frozen? ⟨w.heap.size+1,5,none⟩=false:=by simp [World.frozen?,hz1]
 have q6:w1.cell? ⟨w.heap.size+1,6,none⟩=_:=cellsAt hz1 6
 have qz6:w1.frozen? ⟨w.heap.size+1,6,none⟩=false:=by simp [World.frozen?,hz1]
 have q7:w1.cell? ⟨w.heap.size+1,7,none⟩=_:=cellsAt hz1 7
 have qz7:w1.frozen? ⟨w.heap.size+1,7,none⟩=false:=by simp [World.frozen?,hz1]
 have q8:w1.cell? ⟨w.heap.size+1,8,none⟩=_:=cellsAt hz1 8
 have qz8:w1.frozen? ⟨w.heap.size+1,8,none⟩=false:=by simp [World.frozen?,hz1]
 have q9:w1.cell? ⟨w.heap.size+1,9,none⟩=_:=cellsAt hz1 9
 have qz9:w1.frozen? ⟨w.heap.size+1,9,none⟩=false:=by simp [World.frozen?,hz1]
 have q10:w1.cell? ⟨w.heap.size+1,10,none⟩=_:=cellsAt hz1 10
 have qz10:w1.frozen? ⟨w.heap.size+1,10,none⟩=false:=by simp [World.frozen?,hz1]
 have q11:w1.cell? ⟨w.heap.size+1,11,none⟩=_:=cellsAt hz1 11
 have qz11:w1.frozen? ⟨w.heap.size+1,11,none⟩=false:=by simp [World.frozen?,hz1]
 obtain ⟨p0,p1,p2,p3,p4,p5,p6,p7,p8,p9,p10,p11⟩:=cells12 hg1
 have HZ1:Hid (w1.heap[w.heap.size+1]?=some (.cells #[.string ⟨#[]⟩,.string ⟨#[]⟩,.slice none 0 0,.slice none 0 0,.slice none 0 0,.slice none 0 0,.int .i64 0,.int .i64 0,.int .i64 0,.int .i64 0,.int .i64 0,.slice none 0 0] 51 (0,0))):=hz1
 clear hb1 hg1 hz1
 by_cases hne:ne=0
 rotate_left
 ·have hne':(ne != 0)=true:=by simpa using hne
  have HNZ:Hid (ne≠0):=hne
  have HSH:Hid (Sh (fun k=>S k∨w.heap.size≤k) w w1):=.of HB1.out
  clear hne
  go_wp2_with fail
  refine bodyPost_ret (v:=.tuple #[.agg #[.string ⟨#[]⟩,.string ⟨#[]⟩,.slice none 0 0,.slice none 0 0,.slice none 0 0,.slice none 0 0,.int .i64 0,.int .i64 0,.int .i64 0,.int .i64 0,.int .i64 0,.slice none 0 0],.int .i64 ne]) ?_ rfl ?_
  ·simp [results,Tryz.results61,go_sem,q0,q1,q2,q3,q4,q5,q6,q7,q8,q9,q10,q11]
  ·unfold WorkSaysN
   refine ⟨?_,.inl ⟨HNZ.out,?_,rfl⟩⟩
   ·exact shLow (HSH.out.setNew12 (Nat.le_succ _) _ _ _ _ _ _ _ _ _ _ _ _)
   ·exact below_set12 HB1.out (by simp) _ _ _ _ _ _ _ _ _ _ _ _
 subst hne
 have HFK:=HFR.out rfl w1 HB1.out
 have HF2:Hid (∀ W b,Below w.heap.size w W→w.heap.size+2≤b→Wk (w.heap.size+2) W b ⟨nm,ct,ms,rs,sv,gw,⟨px,py,pz,ph,pq⟩,wh⟩→Calls Tryz.prog kf (#[.pointer (some ⟨b,0,none⟩)]++cs) W fun e w'=>e=.returned (.int .i64 er)∧Sh (fun k=>w.heap.size+2≤k∨S k) W w'∧(er=0→∃ n',Wk (w.heap.size+2) w' b n'∧R n' w')):=HF.out rfl
 clear HF HFR
 go_wp2_with fail
 refine HFK.mono ?_
 rintro e w2 ⟨um,ur,us,ug,uw,rfl,ho2,hb2⟩
 obtain ⟨im,jm,hvm,_⟩:=own_slice ho2.ms
 obtain ⟨ir,jr,hvr,_⟩:=own_slice ho2.rs
 obtain ⟨is_,js,hvs,_⟩:=own_slice ho2.sv
 obtain ⟨ig,jg,hvg,_⟩:=own_slice ho2.gw
 obtain ⟨ih,jh,hvh,_⟩:=own_slice ho2.wh
 simp only at hvm hvr hvs hvg hvh
 rw [Hkm.out] at hvm
 rw [Hkr.out] at hvr
 rw [Hks.out] at hvs
 rw [Hkg.out] at hvg
 rw [Hkh.out] at hvh
 subst hvm hvr hvs hvg hvh
 obtain ⟨W3,hW3⟩:∃ W3,W3=w2.alloc (.cells #[.string nm,.string ct,.slice im km jm,.slice ir kr jr,.slice is_ ks js,.slice ig kg jg,.int .i64 px,.int .i64 py,.int .i64 pz,.int .i64 ph,.int .i64 pq,.slice ih kh jh] 133):=⟨_,rfl⟩
 have HB2:Hid (Below w.heap.size w w2):=HB1.out.trans (hb2.mono (by omega))
 have HB3:Hid (Below w.heap.size w W3):=by rw [hW3];exact HB2.out.alloc HB2.out.size _
 have hs2:w1.heap.size≤w2.heap.size:=hb2.size
 have hs3:W3.heap.size=w2.heap.size+1:=by rw [hW3];simp
 have hb23:Below w2.heap.size w2 W3:=by rw [hW3];exact (Below.refl _ _).alloc (Nat.le_refl _) _
 have HZ3:Hid (W3.heap[w.heap.size+1]?=some (.cells #[.string ⟨#[]⟩,.string ⟨#[]⟩,.slice none 0 0,.slice none 0 0,.slice none 0 0,.slice none 0 0,.int .i64 0,.int .i64 0,.int .i64 0,.int .i64 0,.int .i64 0,.slice none 0 0] 51 (0,0))):=(hb23.block _ (by omega)).trans ((hb2.block _ (by omega)).trans HZ1.out)
 have hlt:∀ {v:Value} {k:Nat},v.ownBlock=some k→k < w2.heap.size→v.ownBlock≠some w2.heap.size:=fun h hk e=>by rw [h] at e;cases e;omega
 have HWK:Hid (Wk (w.heap.size+2) W3 w2.heap.size ⟨nm,ct,ms,rs,sv,gw,⟨px,py,pz,ph,pq⟩,wh⟩):=by
  refine ⟨_,_,_,_,_,?_,⟨(ho2.ms.below hb23).mono (by omega),(ho2.rs.below hb23).base (by omega),(ho2.sv.below hb23).mono (by omega),(ho2.gw.below hb23).mono (by omega),(ho2.wh.below hb23).mono (by omega)⟩,⟨fun e=>?_,fun e=>?_,fun e=>?_,fun e=>?_,fun e=>?_⟩,HOK.out⟩
  ·rw [hW3];exact heap_alloc_new w2 _
  ·have:=(ho2.ms.lt _ e).2;omega
  ·have:=(ho2.rs.lt _ e).2;omega
  ·have:=(ho2.sv.lt _ e).2;omega
  ·have:=(ho2.gw.lt _ e).2;omega
  ·have:=(ho2.wh.lt _ e).2;omega
 have HFC:=HF2.out W3 w2.heap.size HB3.out (by omega) HWK.out
 clear ho2 hb2 hb23 hlt q0 qz0 q1 qz1 q2 qz2 q3 qz3 q4 qz4 q5 qz5 q6 qz6 q7 qz7 q8 qz8 q9 qz9 q10 qz10 q11 qz11 p0 p1 p2 p3 p4 p5 p6 p7 p8 p9 p10 p11
 go_wp2_with fail
 rw [← hW3]
 refine HFC.mono ?_
 rintro e w4 ⟨rfl,hsh,hres⟩
 have HSH:Hid (Sh (fun k=>S k∨w.heap.size≤k) w w4):=(Sh.of HB3.out).trans (hsh.mono (fun k hk=>hk.elim (fun h=>.inr (by omega)) (fun h=>.inl h)))
 have hz4:w4.heap[w.heap.size+1]?=some (.cells #[.string ⟨#[]⟩,.string ⟨#[]⟩,.slice none 0 0,.slice none 0 0,.slice none 0 0,.slice none 0 0,.int .i64 0,.int .i64 0,.int .i64 0,.int .i64 0,.int .i64 0,.slice none 0 0] 51 (0,0)):=(hsh.block _ (by omega) (fun hk=>hk.elim (fun h=>by omega) (fun h=>by have:=HSL.out _ h;omega))).trans HZ3.out
 have HRES:Hid (er=0→∃ n',Wk (w.heap.size+2) w4 w2.heap.size n'∧R n' w4):=hres
 have hs4:w.heap.size+1 < w4.heap.size:=(Array.getElem?_eq_some_iff.1 hz4).1
 have q0:w4.cell? ⟨w.heap.size+1,0,none⟩=_:=cellsAt hz4 0
 have qz0:w4.frozen? ⟨w.heap.size+1,0,none⟩=false:=by simp [World.frozen?,hz4]
 have q1:w4.cell? ⟨w.heap.size+1,1,none⟩=_:=cellsAt hz4 1
 have qz1:w4.frozen? ⟨w.heap.size+1,1,none⟩=false:=by simp [World.frozen?,hz4]
 have q2:w4.cell? ⟨w.heap.size+1,2,none⟩=_:=cellsAt hz4 2
 have qz2:w4.frozen? ⟨w.heap.size+1,2,none⟩=false:=by simp [World.frozen?,hz4]
 have q3:w4.cell? ⟨w.heap.size+1,3,none⟩=_:=cellsAt hz4 3
 have qz3:w4.frozen? ⟨w.heap.size+1,3,none⟩=false:=by simp [World.frozen?,hz4]
 have q4:w4.cell? ⟨w.heap.size+1,4,none⟩=_:=cellsAt hz4 4
 have qz4:w4.frozen? ⟨w.heap.size+1,4,none⟩=false:=by simp [World.frozen?,hz4]
 have q5:w4.cell? ⟨w.heap.size+1,5,none⟩=_:=cellsAt hz4 5
 have qz5:w4.frozen? ⟨w.heap.size+1,5,none⟩=false:=by simp [World.frozen?,hz4]
 have q6:w4.cell? ⟨w.heap.size+1,6,none⟩=_:=cellsAt hz4 6
 have qz6:w4.frozen? ⟨w.heap.size+1,6,none⟩=false:=by simp [World.frozen?,hz4]
 have q7:w4.cell? ⟨w.heap.size+1,7,none⟩=_:=cellsAt hz4 7
 have qz7:w4.frozen? ⟨w.heap.size+1,7,none⟩=false:=by simp [World.frozen?,hz4]
 have q8:w4.cell? ⟨w.heap.size+1,8,none⟩=_:=cellsAt hz4 8
 have qz8:w4.frozen? ⟨w.heap.size+1,8,none⟩=false:=by simp [World.frozen?,hz4]
 have q9:w4.cell? ⟨w.heap.size+1,9,none⟩=_:=cellsAt hz4 9
 have qz9:w4.frozen? ⟨w.heap.size+1,9,none⟩=false:=by simp [World.frozen?,hz4]
 have q10:w4.cell? ⟨w.heap.size+1,10,none⟩=_:=cellsAt hz4 10
 have qz10:w4.frozen? ⟨w.heap.size+1,10,none⟩=false:=by simp [World.frozen?,hz4]
 have q11:w4.cell? ⟨w.heap.size+1,11,none⟩=_:=cellsAt hz4 11
 have qz11:w4.frozen? ⟨w.heap.size+1,11,none⟩=false:=by simp [World.frozen?,hz4]
 clear hsh hz4 hres hW3 HFC HFK
 by_cases hee:er=0
 rotate_left
 ·have hee':(er != 0)=true:=by simpa using hee
  have HEZ:Hid (er≠0):=hee
  clear hee
  go_wp2_with fail
  refine bodyPost_ret (v:=.tuple #[.agg #[.string ⟨#[]⟩,.string ⟨#[]⟩,.slice none 0 0,.slice none 0 0,.slice none 0 0,.slice none 0 0,.int .i64 0,.int .i64 0,.int .i64 0,.int .i64 0,.int .i64 0,.slice none 0 0],.int .i64 er]) ?_ rfl ?_
  ·simp [results,Tryz.results61,go_sem,q0,q1,q2,q3,q4,q5,q6,q7,q8,q9,q10,q11]
  ·unfold WorkSaysN
   refine ⟨?_,.inr (.inl ⟨rfl,HEZ.out,rfl⟩)⟩
   exact shLow (HSH.out.setNew12 (Nat.le_succ _) _ _ _ _ _ _ _ _ _ _ _ _)
 obtain ⟨n',⟨xm,xr,xs,xg,xw,hgk,hown,hne5,hok⟩,hRR⟩:=HRES.out hee
 subst hee
 have HOWN:Hid (NdOwn (w.heap.size+2) w4 n' xm xr xs xg xw):=hown
 have HRR:Hid (R n' w4):=hRR
 have HOK2:Hid (NdOk n'):=hok
 obtain ⟨im2,jm2,hvm,_⟩:=own_slice hown.ms
 obtain ⟨ir2,jr2,hvr,_⟩:=own_slice hown.rs
 obtain ⟨is2,js2,hvs,_⟩:=own_slice hown.sv
 obtain ⟨ig2,jg2,hvg,_⟩:=own_slice hown.gw
 obtain ⟨ih2,jh2,hvh,_⟩:=own_slice hown.wh
 subst hvm hvr hvs hvg hvh
 obtain ⟨p0,p1,p2,p3,p4,p5,p6,p7,p8,p9,p10,p11⟩:=cells12 hgk
 clear hown hRR hok hne5 hgk HRES
 obtain ⟨n2,c2,ms2,rs2,sv2,gw2,⟨qx,qy,qz,qh,qq⟩,wh2⟩:=n'
 simp only at p0 p1 p2 p3 p4 p5 p6 p7 p8 p9 p10 p11
 go_wp2_with fail
 refine bodyPost_ret (v:=.tuple #[.agg #[.string n2,.string c2,.slice im2 ms2.length jm2,.slice ir2 rs2.length jr2,.slice is2 sv2.length js2,.slice ig2 gw2.length jg2,.int .i64 qx,.int .i64 qy,.int .i64 qz,.int .i64 qh,.int .i64 qq,.slice ih2 wh2.length jh2],.int .i64 0]) ?_ rfl ?_
 ·simp [results,Tryz.results61,go_sem,q0,q1,q2,q3,q4,q5,q6,q7,q8,q9,q10,q11]
 unfold WorkSaysN
 refine ⟨?_,.inr (.inr ⟨rfl,rfl,⟨n2,c2,ms2,rs2,sv2,gw2,⟨qx,qy,qz,qh,qq⟩,wh2⟩,_,_,_,_,_,rfl,⟨?_,?_,?_,?_,?_⟩,HOK2.out,?_⟩)⟩
 ·exact shLow (HSH.out.setNew12 (Nat.le_succ _) _ _ _ _ _ _ _ _ _ _ _ _)
 ·exact Own.mono (owns_set12 (HOWN.out.ms) (by simp) _ _ _ _ _ _ _ _ _ _ _ _) (by omega)
 ·exact ROwn.base (owns_set12 (HOWN.out.rs) (by simp) _ _ _ _ _ _ _ _ _ _ _ _) (by omega)
 ·exact Sv.Own.mono (owns_set12 (HOWN.out.sv) (by simp) _ _ _ _ _ _ _ _ _ _ _ _) (by omega)
 ·exact Gw.Own.mono (owns_set12 (HOWN.out.gw) (by simp) _ _ _ _ _ _ _ _ _ _ _ _) (by omega)
 ·exact Wh.Own.mono (owns_set12 (HOWN.out.wh) (by simp) _ _ _ _ _ _ _ _ _ _ _ _) (by omega)
 ·exact HR.out _ _ 11 _ (HR.out _ _ 10 _ (HR.out _ _ 9 _ (HR.out _ _ 8 _ (HR.out _ _ 7 _ (HR.out _ _ 6 _ (HR.out _ _ 5 _ (HR.out _ _ 4 _ (HR.out _ _ 3 _ (HR.out _ _ 2 _ (HR.out _ _ 1 _ (HR.out _ _ 0 _ (HRR.out))))))))))))
def WorkSays (ne er:Int) (n':Nd) (S:Nat→Prop) (R:World→Prop) (w:World) (e:Ending) (w':World):Prop:=Sh S w w' ∧
 ((ne≠0∧e=.returned (.tuple #[.agg #[.string ⟨#[]⟩,.string ⟨#[]⟩,.slice none 0 0,.slice none 0 0,.slice none 0 0,.slice none 0 0,.int .i64 0,.int .i64 0,.int .i64 0,.int .i64 0,.int .i64 0,.slice none 0 0],.int .i64 ne]))∨(ne=0∧er≠0∧e=.returned (.tuple #[.agg #[.string ⟨#[]⟩,.string ⟨#[]⟩,.slice none 0 0,.slice none 0 0,.slice none 0 0,.slice none 0 0,.int .i64 0,.int .i64 0,.int .i64 0,.int .i64 0,.int .i64 0,.slice none 0 0],.int .i64 er])) ∨
 (ne=0∧er=0∧∃ um ur us ug uw,e=.returned (.tuple #[.agg (ndA n' um ur us ug uw),.int .i64 0])∧NdOwn w.heap.size w' n' um ur us ug uw∧NdOk n'∧R w'))
theorem work_any (kf:Nat) (cs:Array Value) (eg:∀ args w,(callFunc kf args).run Tryz.prog w=.ok (.enter kf args) w) (n:Nd) (vm vr vs vg vw:Value) (w:World) (h:NdIs w n vm vr vs vg vw) (S:Nat→Prop) (er:Int) (n':Nd) (R:World→Prop)
 (hF:n.e=0→∀ W b,Below w.heap.size w W→w.heap.size+2≤b→Wk (w.heap.size+2) W b n→Calls Tryz.prog kf (#[.pointer (some ⟨b,0,none⟩)]++cs) W fun e w'=>e=.returned (.int .i64 er)∧Sh (fun k=>w.heap.size+2≤k∨S k) W w'∧(er=0→Wk (w.heap.size+2) w' b n'∧R w'))
 (hR:∀ W j x,R W→R (W.setCell ⟨w.heap.size+1,j,none⟩ x)) (hS:∀ k,S k→k < w.heap.size) :
 Calls Tryz.prog 61 #[.agg (ndA n vm vr vs vg vw),.func (.func kf) #[] cs] w fun e w'=>WorkSays n.e er n' S R w e w':=by
 refine (workN_any kf cs eg n vm vr vs vg vw w h S er (fun k W=>k=n'∧R W) (fun he W b h1 h2 h3=>(hF he W b h1 h2 h3).mono ?_) (fun k W j x h=>⟨h.1,hR W j x h.2⟩) hS).mono ?_
 ·rintro e w' ⟨h4,h5,h6⟩
  exact ⟨h4,h5,fun h=>⟨n',(h6 h).1,rfl,(h6 h).2⟩⟩
 ·rintro e w' ⟨hsh,hor⟩
  refine ⟨hsh,?_⟩
  rcases hor with ⟨h1,_,h2⟩ | h1 | ⟨h1,h2,k,um,ur,us,ug,uw,h3,h4,h5,rfl,h6⟩
  ·exact .inl ⟨h1,h2⟩
  ·exact .inr (.inl h1)
  ·exact .inr (.inr ⟨h1,h2,um,ur,us,ug,uw,h3,h4,h5,h6⟩)
end Go.Proofs.YtffdoiokmiklgaaGreatDoor
