import Derived.Test.YtffdoiokmiklgaaGreatDoortr30
import Derived.Test.YtffdoiokmiklgaaGreatDoortr39
import Derived.Test.YtffdoiokmiklgaaGreatDoortr21
namespace Go.Proofs.YtffdoiokmiklgaaGreatDoor
open Go.RowKit
set_option maxHeartbeats 1600000 in
theorem buryC_any (L b tb:Nat) (n:Nd) (t:ByteArray) (w:World) (h:Wk L w b n) (hL:L≤b) (hsp:Sp n) (ht:t.size≤maxLen) (hc:w.heap[tb]?=some (.cells #[.string t] 9 (0,0))) :
 Calls Tryz.prog 153 #[.pointer (some ⟨b,0,none⟩),.pointer (some ⟨tb,0,none⟩)] w fun e w'=>e=.returned (.int .i64 (wsE n t 2 3))∧Sh (fun k=>k=b) w w'∧Hid (wsE n t 2 3=0→Wk L w' b (wsN n t 3)):=by
 have HC:Hid (Calls Tryz.prog 65 #[.pointer (some ⟨b,0,none⟩),.string t,.int .i64 2,.int .i64 3] w fun e w'=>e=.returned (.int .i64 (wsE n t 2 3))∧Sh (fun k=>k=b) w w'∧Hid (wsE n t 2 3=0→Wk L w' b (wsN n t 3))):=worsen_any L b n t 2 3 w h hL hsp.ms hsp.rs hsp.name ht rfl
 have y0:w.cell? ⟨tb,0,none⟩=some (.string t):=cellsAt hc 0
 clear h hsp hc
 generalize wsE n t 2 3=we at *
 go_enter Tryz.func153,Tryz.ntmps153
 go_wp2_with fail
 refine HC.out.mono ?_
 rintro e w1 ⟨rfl,hs,hk⟩
 have HS:Hid (Sh (fun k=>k=b) w w1):=hs
 clear hs
 go_wp2_with fail
 go_ret
 exact ⟨rfl,HS.out,hk⟩
set_option maxHeartbeats 25600000 in
set_option maxRecDepth 100000 in
theorem Bury_any (n:Nd) (t:ByteArray) (vm vr vs vg vw:Value) (w:World) (h:NdIs w n vm vr vs vg vw) (ht:t.size≤maxLen) :
 Calls Tryz.prog 109 #[.agg (ndA n vm vr vs vg vw),.string t] w fun e w'=>OpSays n.e (wsE n t 2 3) (wsN n t 3) w e w':=by
 have HIS:Hid (NdIs w n vm vr vs vg vw):=h
 obtain ⟨W0,hW0⟩:∃ W0,W0=w.heap.size:=⟨_,rfl⟩
 clear hW0 W0
 have HWS:Hid (∀ W0,Below w.heap.size w W0→W0.heap.size=w.heap.size+3→W0.heap[w.heap.size+1]?=some (.cells #[.string t] 9 (0,0))→Calls Tryz.prog 61 #[.agg (ndA n vm vr vs vg vw),.func (.func 153) #[] #[.pointer (some ⟨w.heap.size+1,0,none⟩)]] W0 fun e w'=>WorkSays n.e (wsE n t 2 3) (wsN n t 3) (fun _=>False) (fun _=>True) W0 e w'):=fun W0 hb hs hc1=>
  work_any 153 #[.pointer (some ⟨w.heap.size+1,0,none⟩)] (enters_of Tryz.func153 (by kernel_rfl) rfl) n vm vr vs vg vw W0 (h.below hb) (fun _=>False) (wsE n t 2 3) (wsN n t 3) (fun _=>True)
   (fun he W b hW hb2 hk=>by
     refine (buryC_any (W0.heap.size+2) b (w.heap.size+1) n t W hk (by omega) (Nd.sp he) ht ((hW.block _ (by omega)).trans hc1)).mono ?_
     rintro e w' ⟨rfl,hs,hh⟩
     exact ⟨rfl,hs.mono (fun k hk=>.inl (by omega)),fun h=>⟨hh.out h,trivial⟩⟩
   ) (fun _ _ _ _=>trivial) (fun _ hk=>hk.elim)
 obtain ⟨nm,ct,ms,rs,sv,gw,⟨px,py,pz,ph,pq⟩,wh⟩:=n
 obtain ⟨⟨em,cm,rfl,_,_⟩,⟨er_,cr,rfl,_,_⟩,⟨es,cs_,rfl,_,_⟩,⟨eg_,cg,rfl,_,_⟩,⟨eh,ch,rfl,_,_⟩,_,_⟩:=h
 simp only [ndA] at HWS ⊢
 generalize ms.length=km at *
 generalize rs.length=kr at *
 generalize sv.length=ks at *
 generalize gw.length=kg at *
 generalize wh.length=kh at *
 generalize Nd.e ⟨nm,ct,ms,rs,sv,gw,⟨px,py,pz,ph,pq⟩,wh⟩=ne at *
 generalize wsE ⟨nm,ct,ms,rs,sv,gw,⟨px,py,pz,ph,pq⟩,wh⟩ t 2 3=er at *
 generalize wsN ⟨nm,ct,ms,rs,sv,gw,⟨px,py,pz,ph,pq⟩,wh⟩ t 3=n' at *
 obtain ⟨W0,hW0⟩:∃ W0,W0=(((w.alloc (.cells #[.string nm,.string ct,.slice em km cm,.slice er_ kr cr,.slice es ks cs_,.slice eg_ kg cg,.int .i64 px,.int .i64 py,.int .i64 pz,.int .i64 ph,.int .i64 pq,.slice eh kh ch] 51)).alloc (.cells #[.string t] 9)).alloc (.cells #[.string ⟨#[]⟩,.string ⟨#[]⟩,.slice none 0 0,.slice none 0 0,.slice none 0 0,.slice none 0 0,.int .i64 0,.int .i64 0,.int .i64 0,.int .i64 0,.int .i64 0,.slice none 0 0] 51)):=⟨_,rfl⟩
 have hb0:Below w.heap.size w W0:=by rw [hW0];exact (((Below.refl _ _).alloc (Nat.le_refl _) _).alloc (by simp<;>omega) _).alloc (by simp<;>omega) _
 have hs0:W0.heap.size=w.heap.size+3:=by rw [hW0];simp
 have hc1:W0.heap[w.heap.size+1]?=some (.cells #[.string t] 9 (0,0)):=by
  have h:=heap_alloc_new (w.alloc (.cells #[.string nm,.string ct,.slice em km cm,.slice er_ kr cr,.slice es ks cs_,.slice eg_ kg cg,.int .i64 px,.int .i64 py,.int .i64 pz,.int .i64 ph,.int .i64 pq,.slice eh kh ch] 51)) (.cells #[.string t] 9)
  rw [hW0,Below.heap_alloc _ _ _ (by simp<;>omega)];simpa using h
 have hz0:W0.heap[w.heap.size+2]?=some (.cells #[.string ⟨#[]⟩,.string ⟨#[]⟩,.slice none 0 0,.slice none 0 0,.slice none 0 0,.slice none 0 0,.int .i64 0,.int .i64 0,.int .i64 0,.int .i64 0,.int .i64 0,.slice none 0 0] 51 (0,0)):=by
  have h:=heap_alloc_new ((w.alloc (.cells #[.string nm,.string ct,.slice em km cm,.slice er_ kr cr,.slice es ks cs_,.slice eg_ kg cg,.int .i64 px,.int .i64 py,.int .i64 pz,.int .i64 ph,.int .i64 pq,.slice eh kh ch] 51)).alloc (.cells #[.string t] 9)) (.cells #[.string ⟨#[]⟩,.string ⟨#[]⟩,.slice none 0 0,.slice none 0 0,.slice none 0 0,.slice none 0 0,.int .i64 0,.int .i64 0,.int .i64 0,.int .i64 0,.int .i64 0,.slice none 0 0] 51)
  rw [hW0];simpa using h
 have HWC:=HWS.out W0 hb0 hs0 hc1
 have HB0:Hid (Below w.heap.size w W0):=hb0
 have HZ0:Hid (W0.heap[w.heap.size+2]?=some (.cells #[.string ⟨#[]⟩,.string ⟨#[]⟩,.slice none 0 0,.slice none 0 0,.slice none 0 0,.slice none 0 0,.int .i64 0,.int .i64 0,.int .i64 0,.int .i64 0,.int .i64 0,.slice none 0 0] 51 (0,0))):=hz0
 clear hb0 hz0 HWS hc1
 go_enter Tryz.func109,Tryz.ntmps109
 go_wp2_with fail
 rw [← hW0]
 refine HWC.mono ?_
 rintro e w1 ⟨hsh,hor⟩
 have hb1:Below W0.heap.size W0 w1:=hsh.below (Nat.le_refl _) (fun _ hk=>hk.elim)
 have hz1:w1.heap[w.heap.size+2]?=_:=(hb1.block _ (by omega)).trans HZ0.out
 have HB1:Hid (Below w.heap.size w w1):=HB0.out.trans (hb1.mono (by omega))
 have hs1:w.heap.size+2 < w1.heap.size:=(Array.getElem?_eq_some_iff.1 hz1).1
 obtain ⟨q0,q1,q2,q3,q4,q5,q6,q7,q8,q9,q10,q11⟩:=cells12 hz1
 obtain ⟨qz0,qz1,qz2,qz3,qz4,qz5,qz6,qz7,qz8,qz9,qz10,qz11⟩:=frz12 hz1
 clear hsh hb1 hz1 HWC hW0
 rcases hor with ⟨hne,rfl⟩ | ⟨hne,hee,rfl⟩ | ⟨hne,hee,um,ur,us,ug,uw,rfl,hown,hok,_⟩
 ·have HNE:Hid (ne≠0):=hne
  clear hne
  go_wp2_with fail
  refine bodyPost_ret (v:=.tuple #[.agg #[.string ⟨#[]⟩,.string ⟨#[]⟩,.slice none 0 0,.slice none 0 0,.slice none 0 0,.slice none 0 0,.int .i64 0,.int .i64 0,.int .i64 0,.int .i64 0,.int .i64 0,.slice none 0 0],.int .i64 ne]) ?_ rfl ?_
  ·simp [results,Tryz.results109,go_sem,q0,q1,q2,q3,q4,q5,q6,q7,q8,q9,q10,q11]
  ·unfold OpSays
   exact ⟨below_set12 HB1.out (by omega) _ _ _ _ _ _ _ _ _ _ _ _,.inl ⟨HNE.out,rfl⟩⟩
 ·have HNE:Hid (ne=0∧er≠0):=⟨hne,hee⟩
  clear hne hee
  go_wp2_with fail
  refine bodyPost_ret (v:=.tuple #[.agg #[.string ⟨#[]⟩,.string ⟨#[]⟩,.slice none 0 0,.slice none 0 0,.slice none 0 0,.slice none 0 0,.int .i64 0,.int .i64 0,.int .i64 0,.int .i64 0,.int .i64 0,.slice none 0 0],.int .i64 er]) ?_ rfl ?_
  ·simp [results,Tryz.results109,go_sem,q0,q1,q2,q3,q4,q5,q6,q7,q8,q9,q10,q11]
  ·unfold OpSays
   exact ⟨below_set12 HB1.out (by omega) _ _ _ _ _ _ _ _ _ _ _ _,.inr (.inl ⟨HNE.out.1,HNE.out.2,rfl⟩)⟩
 ·have HNE:Hid (ne=0∧er=0):=⟨hne,hee⟩
  have HOWN:Hid (NdOwn W0.heap.size w1 n' um ur us ug uw):=hown
  have HOK2:Hid (NdOk n'):=hok
  obtain ⟨im2,jm2,hvm,_⟩:=own_slice hown.ms
  obtain ⟨ir2,jr2,hvr,_⟩:=own_slice hown.rs
  obtain ⟨is2,js2,hvs,_⟩:=own_slice hown.sv
  obtain ⟨ig2,jg2,hvg,_⟩:=own_slice hown.gw
  obtain ⟨ih2,jh2,hvh,_⟩:=own_slice hown.wh
  subst hvm hvr hvs hvg hvh
  clear hown hok hne hee
  obtain ⟨n2,c2,ms2,rs2,sv2,gw2,⟨qx,qy,qz,qh,qq⟩,wh2⟩:=n'
  go_wp2_with fail
  refine bodyPost_ret (v:=.tuple #[.agg #[.string n2,.string c2,.slice im2 ms2.length jm2,.slice ir2 rs2.length jr2,.slice is2 sv2.length js2,.slice ig2 gw2.length jg2,.int .i64 qx,.int .i64 qy,.int .i64 qz,.int .i64 qh,.int .i64 qq,.slice ih2 wh2.length jh2],.int .i64 0]) ?_ rfl ?_
  ·simp [results,Tryz.results109,go_sem,q0,q1,q2,q3,q4,q5,q6,q7,q8,q9,q10,q11]
  ·unfold OpSays
   exact ⟨below_set12 HB1.out (by omega) _ _ _ _ _ _ _ _ _ _ _ _,.inr (.inr ⟨HNE.out.1,HNE.out.2,_,_,_,_,_,rfl,ndOwn_set12 HOWN.out (by omega) (by omega) _ _ _ _ _ _ _ _ _ _ _ _,HOK2.out⟩)⟩
end Go.Proofs.YtffdoiokmiklgaaGreatDoor
