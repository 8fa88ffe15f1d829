import Derived.Test.YtffdoiokmiklgaaGreatDoorW31
import Derived.Test.YtffdoiokmiklgaaGreatDoorW33
namespace Go.Proofs.YtffdoiokmiklgaaGreatDoor
open Go.RowKit
def OpSays (ne er:Int) (n':Nd) (w:World) (e:Ending) (w':World):Prop:=Below w.heap.size w w' ∧
 ((ne≠0∧e=.returned (.tuple #[.agg #[.string ⟨#[]⟩,.string ⟨#[]⟩,.slice none 0 0,.slice none 0 0,.slice none 0 0,.slice none 0 0,.int .i64 0,.int .i64 0,.int .i64 0,.int .i64 0,.int .i64 0,.slice none 0 0],.int .i64 ne]))∨(ne=0∧er≠0∧e=.returned (.tuple #[.agg #[.string ⟨#[]⟩,.string ⟨#[]⟩,.slice none 0 0,.slice none 0 0,.slice none 0 0,.slice none 0 0,.int .i64 0,.int .i64 0,.int .i64 0,.int .i64 0,.int .i64 0,.slice none 0 0],.int .i64 er])) ∨
 (ne=0∧er=0∧∃ um ur us ug uw,e=.returned (.tuple #[.agg (ndA n' um ur us ug uw),.int .i64 0])∧NdOwn w.heap.size w' n' um ur us ug uw∧NdOk n'))
theorem Nd.sp {n:Nd} (h:n.e=0):Sp n:=⟨(Nd.parts (Nd.e_zero h).1).ms,(Nd.parts (Nd.e_zero h).1).rs,(Nd.parts (Nd.e_zero h).1).name⟩
theorem Wh.fine_chk {wh:List Wh.Whe} (h:Wh.chk wh=0) (hk:∀ m∈wh,m.ok):Wh.Fine wh:=⟨(Wh.chk_zero h).2.1,(Wh.chk_zero h).1,hk⟩
set_option maxHeartbeats 3200000 in
theorem hearC_any (L b tb:Nat) (n:Nd) (frm:ByteArray) (whole:Bool) (pms:List Mem) (psv:List Sv.Svc) (pgw:List Gw.Gwy) (pwh:List Wh.Whe) (am aS aG aH:Option Addr) (bm bS bG bH:Nat) (w0 w:World) (h:Wk L w b n) (hL:L≤b) (he:n.e=0) (hok:NdOk n) (hx:PkIs w0 ⟨frm,whole,pms,psv,pgw,pwh⟩ (.slice am pms.length bm) (.slice aS psv.length bS) (.slice aG pgw.length bG) (.slice aH pwh.length bH)) (hB:Below w0.heap.size w0 w) (hBL:w0.heap.size≤L) (hlen:whole=true∨psv.length+pgw.length+pwh.length≤4611686018427387904)
 (hc:w.heap[tb]?=some (.cells #[.string frm,.bool whole,.slice am pms.length bm,.slice aS psv.length bS,.slice aG pgw.length bG,.slice aH pwh.length bH] 67 (0,0))) :
 Calls Tryz.prog 62 #[.pointer (some ⟨b,0,none⟩),.pointer (some ⟨tb,0,none⟩)] w fun e w'=>e=.returned (.int .i64 (hrE n ⟨frm,whole,pms,psv,pgw,pwh⟩))∧Sh (fun k=>L≤k) w w'∧Hid (hrE n ⟨frm,whole,pms,psv,pgw,pwh⟩=0→Wk L w' b (hrN n ⟨frm,whole,pms,psv,pgw,pwh⟩)):=by
 have hp:=Nd.parts (Nd.e_zero he).1
 have HC:Hid (Calls Tryz.prog 63 #[.pointer (some ⟨b,0,none⟩),.agg #[.string frm,.bool whole,.slice am pms.length bm,.slice aS psv.length bS,.slice aG pgw.length bG,.slice aH pwh.length bH]] w fun e w'=>e=.returned (.int .i64 (hrE n ⟨frm,whole,pms,psv,pgw,pwh⟩))∧Sh (fun k=>L≤k) w w'∧Hid (hrE n ⟨frm,whole,pms,psv,pgw,pwh⟩=0→Wk L w' b (hrN n ⟨frm,whole,pms,psv,pgw,pwh⟩))):=
  whear_any L b n ⟨frm,whole,pms,psv,pgw,pwh⟩ _ _ _ _ w0 w h hL (Nd.sp he) hp.sv hp.gw (Wh.fine_chk hp.wh hok.wh) hx hB hBL hlen
 obtain ⟨y0,y1,y2,y3,y4,y5⟩:=cells6 hc
 clear h hp hc hx
 generalize hrE n ⟨frm,whole,pms,psv,pgw,pwh⟩=we at *
 generalize hrN n ⟨frm,whole,pms,psv,pgw,pwh⟩=nn at *
 generalize pms.length=k1 at *
 generalize psv.length=k2 at *
 generalize pgw.length=k3 at *
 generalize pwh.length=k4 at *
 go_enter Tryz.func62,Tryz.ntmps62
 go_wp2_with fail
 refine HC.out.mono ?_
 rintro e w1 ⟨rfl,hs,hk⟩
 have HS:Hid (Sh (fun k=>L≤k) w w1):=hs
 clear hs
 go_wp2_with fail
 go_ret
 exact ⟨rfl,HS.out,hk⟩
set_option maxHeartbeats 25600000 in
set_option maxRecDepth 100000 in
theorem Hear_any (n:Nd) (p:Pk) (zm zs zg zw:Value) (vm vr vs vg vw:Value) (w:World) (h:NdIs w n vm vr vs vg vw) (hx:PkIs w p zm zs zg zw) (hlen:p.whole=true∨p.sv.length+p.gw.length+p.wh.length≤4611686018427387904) :
 Calls Tryz.prog 32 #[.agg (ndA n vm vr vs vg vw),.agg #[.string p.frm,.bool p.whole,zm,zs,zg,zw]] w fun e w'=>OpSays n.e (hrE n p) (hrN n p) w e w':=by
 have HIS:Hid (NdIs w n vm vr vs vg vw):=h
 have HX:Hid (PkIs w p zm zs zg zw):=hx
 obtain ⟨frm,whole,pms,psv,pgw,pwh⟩:=p
 obtain ⟨⟨am,bm,rfl,_,_⟩,⟨aS,bS,rfl,_,_⟩,⟨aG,bG,rfl,_,_⟩,⟨aH,bH,rfl,_,_⟩,_,_⟩:=hx
 simp only at hlen HX ⊢
 obtain ⟨W0,hW0⟩:∃ W0,W0=w.heap.size:=⟨_,rfl⟩
 clear hW0 W0
 have HWS:Hid (∀ W0,Below w.heap.size w W0→W0.heap.size=w.heap.size+3→W0.heap[w.heap.size+1]?=some (.cells #[.string frm,.bool whole,.slice am pms.length bm,.slice aS psv.length bS,.slice aG pgw.length bG,.slice aH pwh.length bH] 67 (0,0))→Calls Tryz.prog 61 #[.agg (ndA n vm vr vs vg vw),.func (.func 62) #[] #[.pointer (some ⟨w.heap.size+1,0,none⟩)]] W0 fun e w'=>WorkSays n.e (hrE n ⟨frm,whole,pms,psv,pgw,pwh⟩) (hrN n ⟨frm,whole,pms,psv,pgw,pwh⟩) (fun _=>False) (fun _=>True) W0 e w'):=fun W0 hb hs hc1=>
  work_any 62 #[.pointer (some ⟨w.heap.size+1,0,none⟩)] (enters_of Tryz.func62 (by kernel_rfl) rfl) n vm vr vs vg vw W0 (h.below hb) (fun _=>False) (hrE n ⟨frm,whole,pms,psv,pgw,pwh⟩) (hrN n ⟨frm,whole,pms,psv,pgw,pwh⟩) (fun _=>True)
   (fun he W b hW hb2 hk=>by
     refine (hearC_any (W0.heap.size+2) b (w.heap.size+1) n frm whole pms psv pgw pwh am aS aG aH bm bS bG bH W0 W hk (by omega) he h.ok (HX.out.below hb) hW (by omega) hlen ((hW.block _ (by omega)).trans hc1)).mono ?_
     rintro e w' ⟨rfl,hs,hh⟩
     exact ⟨rfl,hs.mono (fun k hk=>.inl hk),fun h=>⟨hh.out h,trivial⟩⟩
   ) (fun _ _ _ _=>trivial) (fun _ hk=>hk.elim)
 obtain ⟨nm,ct,ms,rs,sv,gw,⟨px,py,pz,ph,pq⟩,wh⟩:=n
 obtain ⟨⟨em,cm,rfl,_,_⟩,⟨er_,cr,rfl,_,_⟩,⟨es,cs_,rfl,_,_⟩,⟨eg_,cg,rfl,_,_⟩,⟨eh,ch,rfl,_,_⟩,_,_⟩:=h
 simp only [ndA] at HWS ⊢
 generalize ms.length=km at *
 generalize rs.length=kr at *
 generalize sv.length=ks at *
 generalize gw.length=kg at *
 generalize wh.length=kh at *
 generalize pms.length=k1 at *
 generalize psv.length=k2 at *
 generalize pgw.length=k3 at *
 generalize pwh.length=k4 at *
 generalize Nd.e ⟨nm,ct,ms,rs,sv,gw,⟨px,py,pz,ph,pq⟩,wh⟩=ne at *
 generalize hrE ⟨nm,ct,ms,rs,sv,gw,⟨px,py,pz,ph,pq⟩,wh⟩ ⟨frm,whole,pms,psv,pgw,pwh⟩=er at *
 generalize hrN ⟨nm,ct,ms,rs,sv,gw,⟨px,py,pz,ph,pq⟩,wh⟩ ⟨frm,whole,pms,psv,pgw,pwh⟩=n' at *
 obtain ⟨W0,hW0⟩:∃ W0,W0=(((w.alloc (.cells #[.string nm,.string ct,.slice em km cm,.slice er_ kr cr,.slice es ks cs_,.slice eg_ kg cg,.int .i64 px,.int .i64 py,.int .i64 pz,.int .i64 ph,.int .i64 pq,.slice eh kh ch] 51)).alloc (.cells #[.string frm,.bool whole,.slice am k1 bm,.slice aS k2 bS,.slice aG k3 bG,.slice aH k4 bH] 67)).alloc (.cells #[.string ⟨#[]⟩,.string ⟨#[]⟩,.slice none 0 0,.slice none 0 0,.slice none 0 0,.slice none 0 0,.int .i64 0,.int .i64 0,.int .i64 0,.int .i64 0,.int .i64 0,.slice none 0 0] 51)):=⟨_,rfl⟩
 have hb0:Below w.heap.size w W0:=by rw [hW0];exact (((Below.refl _ _).alloc (Nat.le_refl _) _).alloc (by simp<;>omega) _).alloc (by simp<;>omega) _
 have hs0:W0.heap.size=w.heap.size+3:=by rw [hW0];simp
 have hc1:W0.heap[w.heap.size+1]?=some (.cells #[.string frm,.bool whole,.slice am k1 bm,.slice aS k2 bS,.slice aG k3 bG,.slice aH k4 bH] 67 (0,0)):=by
  have h:=heap_alloc_new (w.alloc (.cells #[.string nm,.string ct,.slice em km cm,.slice er_ kr cr,.slice es ks cs_,.slice eg_ kg cg,.int .i64 px,.int .i64 py,.int .i64 pz,.int .i64 ph,.int .i64 pq,.slice eh kh ch] 51)) (.cells #[.string frm,.bool whole,.slice am k1 bm,.slice aS k2 bS,.slice aG k3 bG,.slice aH k4 bH] 67)
  rw [hW0,Below.heap_alloc _ _ _ (by simp<;>omega)];simpa using h
 have hz0:W0.heap[w.heap.size+2]?=some (.cells #[.string ⟨#[]⟩,.string ⟨#[]⟩,.slice none 0 0,.slice none 0 0,.slice none 0 0,.slice none 0 0,.int .i64 0,.int .i64 0,.int .i64 0,.int .i64 0,.int .i64 0,.slice none 0 0] 51 (0,0)):=by
  have h:=heap_alloc_new ((w.alloc (.cells #[.string nm,.string ct,.slice em km cm,.slice er_ kr cr,.slice es ks cs_,.slice eg_ kg cg,.int .i64 px,.int .i64 py,.int .i64 pz,.int .i64 ph,.int .i64 pq,.slice eh kh ch] 51)).alloc (.cells #[.string frm,.bool whole,.slice am k1 bm,.slice aS k2 bS,.slice aG k3 bG,.slice aH k4 bH] 67)) (.cells #[.string ⟨#[]⟩,.string ⟨#[]⟩,.slice none 0 0,.slice none 0 0,.slice none 0 0,.slice none 0 0,.int .i64 0,.int .i64 0,.int .i64 0,.int .i64 0,.int .i64 0,.slice none 0 0] 51)
  rw [hW0];simpa using h
 have HWC:=HWS.out W0 hb0 hs0 hc1
 have HB0:Hid (Below w.heap.size w W0):=hb0
 have HZ0:Hid (W0.heap[w.heap.size+2]?=some (.cells #[.string ⟨#[]⟩,.string ⟨#[]⟩,.slice none 0 0,.slice none 0 0,.slice none 0 0,.slice none 0 0,.int .i64 0,.int .i64 0,.int .i64 0,.int .i64 0,.int .i64 0,.slice none 0 0] 51 (0,0))):=hz0
 clear hb0 hz0 HWS hc1
 go_enter Tryz.func32,Tryz.ntmps32
 go_wp2_with fail
 rw [← hW0]
 refine HWC.mono ?_
 rintro e w1 ⟨hsh,hor⟩
 have hb1:Below W0.heap.size W0 w1:=hsh.below (Nat.le_refl _) (fun _ hk=>hk.elim)
 have hz1:w1.heap[w.heap.size+2]?=_:=(hb1.block _ (by omega)).trans HZ0.out
 have HB1:Hid (Below w.heap.size w w1):=HB0.out.trans (hb1.mono (by omega))
 have hs1:w.heap.size+2 < w1.heap.size:=(Array.getElem?_eq_some_iff.1 hz1).1
 obtain ⟨q0,q1,q2,q3,q4,q5,q6,q7,q8,q9,q10,q11⟩:=cells12 hz1
 obtain ⟨qz0,qz1,qz2,qz3,qz4,qz5,qz6,qz7,qz8,qz9,qz10,qz11⟩:=frz12 hz1
 clear hsh hb1 hz1 HWC hW0
 rcases hor with ⟨hne,rfl⟩ | ⟨hne,hee,rfl⟩ | ⟨hne,hee,um,ur,us,ug,uw,rfl,hown,hok,_⟩
 ·have HNE:Hid (ne≠0):=hne
  clear hne
  go_wp2_with fail
  refine bodyPost_ret (v:=.tuple #[.agg #[.string ⟨#[]⟩,.string ⟨#[]⟩,.slice none 0 0,.slice none 0 0,.slice none 0 0,.slice none 0 0,.int .i64 0,.int .i64 0,.int .i64 0,.int .i64 0,.int .i64 0,.slice none 0 0],.int .i64 ne]) ?_ rfl ?_
  ·simp [results,Tryz.results32,go_sem,q0,q1,q2,q3,q4,q5,q6,q7,q8,q9,q10,q11]
  ·unfold OpSays
   exact ⟨below_set12 HB1.out (by omega) _ _ _ _ _ _ _ _ _ _ _ _,.inl ⟨HNE.out,rfl⟩⟩
 ·have HNE:Hid (ne=0∧er≠0):=⟨hne,hee⟩
  clear hne hee
  go_wp2_with fail
  refine bodyPost_ret (v:=.tuple #[.agg #[.string ⟨#[]⟩,.string ⟨#[]⟩,.slice none 0 0,.slice none 0 0,.slice none 0 0,.slice none 0 0,.int .i64 0,.int .i64 0,.int .i64 0,.int .i64 0,.int .i64 0,.slice none 0 0],.int .i64 er]) ?_ rfl ?_
  ·simp [results,Tryz.results32,go_sem,q0,q1,q2,q3,q4,q5,q6,q7,q8,q9,q10,q11]
  ·unfold OpSays
   exact ⟨below_set12 HB1.out (by omega) _ _ _ _ _ _ _ _ _ _ _ _,.inr (.inl ⟨HNE.out.1,HNE.out.2,rfl⟩)⟩
 ·have HNE:Hid (ne=0∧er=0):=⟨hne,hee⟩
  have HOWN:Hid (NdOwn W0.heap.size w1 n' um ur us ug uw):=hown
  have HOK2:Hid (NdOk n'):=hok
  obtain ⟨im2,jm2,hvm,_⟩:=own_slice hown.ms
  obtain ⟨ir2,jr2,hvr,_⟩:=own_slice hown.rs
  obtain ⟨is2,js2,hvs,_⟩:=own_slice hown.sv
  obtain ⟨ig2,jg2,hvg,_⟩:=own_slice hown.gw
  obtain ⟨ih2,jh2,hvh,_⟩:=own_slice hown.wh
  subst hvm hvr hvs hvg hvh
  clear hown hok hne hee
  obtain ⟨n2,c2,ms2,rs2,sv2,gw2,⟨qx,qy,qz,qh,qq⟩,wh2⟩:=n'
  go_wp2_with fail
  refine bodyPost_ret (v:=.tuple #[.agg #[.string n2,.string c2,.slice im2 ms2.length jm2,.slice ir2 rs2.length jr2,.slice is2 sv2.length js2,.slice ig2 gw2.length jg2,.int .i64 qx,.int .i64 qy,.int .i64 qz,.int .i64 qh,.int .i64 qq,.slice ih2 wh2.length jh2],.int .i64 0]) ?_ rfl ?_
  ·simp [results,Tryz.results32,go_sem,q0,q1,q2,q3,q4,q5,q6,q7,q8,q9,q10,q11]
  ·unfold OpSays
   refine ⟨below_set12 HB1.out (by omega) _ _ _ _ _ _ _ _ _ _ _ _,.inr (.inr ⟨HNE.out.1,HNE.out.2,_,_,_,_,_,rfl,⟨?_,?_,?_,?_,?_⟩,HOK2.out⟩)⟩
   ·exact Own.mono (owns_set12 (HOWN.out.ms) (by omega) _ _ _ _ _ _ _ _ _ _ _ _) (by omega)
   ·exact ROwn.base (owns_set12 (HOWN.out.rs) (by omega) _ _ _ _ _ _ _ _ _ _ _ _) (by omega)
   ·exact Sv.Own.mono (owns_set12 (HOWN.out.sv) (by omega) _ _ _ _ _ _ _ _ _ _ _ _) (by omega)
   ·exact Gw.Own.mono (owns_set12 (HOWN.out.gw) (by omega) _ _ _ _ _ _ _ _ _ _ _ _) (by omega)
   ·exact Wh.Own.mono (owns_set12 (HOWN.out.wh) (by omega) _ _ _ _ _ _ _ _ _ _ _ _) (by omega)
def nwE (nm ct:ByteArray) (ad:Int):Int:=if (labB nm && labB ct)=true then (if within ad 0 4294967295=true then 0 else 3) else 1
def nwN (nm ct:ByteArray) (ad:Int) (sv:Bool):Nd:=⟨nm,ct,[⟨nm,1,1,ad,sv⟩],[],[],[],⟨0,0,0,0,1000⟩,[]⟩
set_option maxHeartbeats 12800000 in
set_option maxRecDepth 100000 in
theorem New_any (nm ct:ByteArray) (ad:Int) (sv:Bool) (w:World) (hn:nm.size≤maxLen) (hc:ct.size≤maxLen) :
 Calls Tryz.prog 19 #[.string nm,.string ct,.int .i64 ad,.bool sv] w fun e w'=>OpSays (nwE nm ct ad) 0 (nwN nm ct ad sv) w e w':=by
 have HE:Hid (nwE nm ct ad=if (labB nm && labB ct)=true then (if within ad 0 4294967295=true then 0 else 3) else 1):=rfl
 obtain ⟨W1,hW1⟩:∃ W1,W1=(w.alloc (.cells #[.string ⟨#[]⟩,.string ⟨#[]⟩,.slice none 0 0,.slice none 0 0,.slice none 0 0,.slice none 0 0,.int .i64 0,.int .i64 0,.int .i64 0,.int .i64 0,.int .i64 0,.slice none 0 0] 51)).alloc (.cells #[.string nm,.string ct] 9):=⟨_,rfl⟩
 have hg1:W1.heap[w.heap.size+1]?=some (.cells #[.string nm,.string ct] 9 (0,0)):=by
  have h:=heap_alloc_new (w.alloc (.cells #[.string ⟨#[]⟩,.string ⟨#[]⟩,.slice none 0 0,.slice none 0 0,.slice none 0 0,.slice none 0 0,.int .i64 0,.int .i64 0,.int .i64 0,.int .i64 0,.int .i64 0,.slice none 0 0] 51)) (.cells #[.string nm,.string ct] 9)
  rw [hW1];simpa using h
 have hz1:W1.heap[w.heap.size]?=some (.cells #[.string ⟨#[]⟩,.string ⟨#[]⟩,.slice none 0 0,.slice none 0 0,.slice none 0 0,.slice none 0 0,.int .i64 0,.int .i64 0,.int .i64 0,.int .i64 0,.int .i64 0,.slice none 0 0] 51 (0,0)):=by
  rw [hW1,Below.heap_alloc _ _ _ (by simp)];exact heap_alloc_new w _
 have hs1:W1.heap.size=w.heap.size+2:=by rw [hW1];simp
 have HB1:Hid (Below w.heap.size w W1):=by rw [hW1];exact ((Below.refl _ _).alloc (Nat.le_refl _) _).alloc (by simp) _
 have HL:Hid (Calls Tryz.prog 38 #[.slice (some ⟨w.heap.size+1,0,none⟩) 2 2] W1 fun e w'=>e=.returned (.bool (labB nm && labB ct))∧w'=W1):=lab2_any nm ct hn hc _ 2 W1 (cellsAt hg1 0) (cellsAt hg1 1)
 obtain ⟨q0,q1,q2,q3,q4,q5,q6,q7,q8,q9,q10,q11⟩:=cells12 hz1
 obtain ⟨qz0,qz1,qz2,qz3,qz4,qz5,qz6,qz7,qz8,qz9,qz10,qz11⟩:=frz12 hz1
 have HZ1:Hid (W1.heap[w.heap.size]?=some (.cells #[.string ⟨#[]⟩,.string ⟨#[]⟩,.slice none 0 0,.slice none 0 0,.slice none 0 0,.slice none 0 0,.int .i64 0,.int .i64 0,.int .i64 0,.int .i64 0,.int .i64 0,.slice none 0 0] 51 (0,0))):=hz1
 have HS1:Hid (W1.heap.size=w.heap.size+2):=hs1
 have hlt1:w.heap.size < W1.heap.size:=by omega
 clear hg1 hz1 hs1
 generalize nwE nm ct ad=ne at *
 generalize (labB nm && labB ct)=lb at *
 go_enter Tryz.func19,Tryz.ntmps19
 go_wp2_with fail
 rw [← hW1]
 refine HL.out.mono ?_
 rintro e w1 ⟨rfl,hww⟩
 have hwq:=hww.symm
 subst hwq
 clear hW1 HL hww
 cases lb
 ·have HR:Hid (ne=1):=HE.out.trans (by simp)
  go_wp2_with fail
  refine bodyPost_ret (v:=.tuple #[.agg #[.string ⟨#[]⟩,.string ⟨#[]⟩,.slice none 0 0,.slice none 0 0,.slice none 0 0,.slice none 0 0,.int .i64 0,.int .i64 0,.int .i64 0,.int .i64 0,.int .i64 0,.slice none 0 0],.int .i64 1]) ?_ rfl ?_
  ·simp [results,Tryz.results19,go_sem,q0,q1,q2,q3,q4,q5,q6,q7,q8,q9,q10,q11]
  ·unfold OpSays
   exact ⟨((((((((((((HB1.out).setCell (p:=⟨w.heap.size,0,none⟩) (by simp) _).setCell (p:=⟨w.heap.size,1,none⟩) (by simp) _).setCell (p:=⟨w.heap.size,2,none⟩) (by simp) _).setCell (p:=⟨w.heap.size,3,none⟩) (by simp) _).setCell (p:=⟨w.heap.size,4,none⟩) (by simp) _).setCell (p:=⟨w.heap.size,5,none⟩) (by simp) _).setCell (p:=⟨w.heap.size,6,none⟩) (by simp) _).setCell (p:=⟨w.heap.size,7,none⟩) (by simp) _).setCell (p:=⟨w.heap.size,8,none⟩) (by simp) _).setCell (p:=⟨w.heap.size,9,none⟩) (by simp) _).setCell (p:=⟨w.heap.size,10,none⟩) (by simp) _).setCell (p:=⟨w.heap.size,11,none⟩) (by simp) _,.inl ⟨by rw [HR.out];simp,by rw [HR.out]⟩⟩
 rcases ha:within ad 0 4294967295 with _ | _
 ·have HR:Hid (ne=3):=HE.out.trans (by simp [ha])
  go_wp2_with (go_at_call 39;refine (address_any _ _).mono ?_;rintro e w' ⟨rfl,hx⟩;have hy:=hx.symm;subst hy;rw [ha])
  refine bodyPost_ret (v:=.tuple #[.agg #[.string ⟨#[]⟩,.string ⟨#[]⟩,.slice none 0 0,.slice none 0 0,.slice none 0 0,.slice none 0 0,.int .i64 0,.int .i64 0,.int .i64 0,.int .i64 0,.int .i64 0,.slice none 0 0],.int .i64 3]) ?_ rfl ?_
  ·simp [results,Tryz.results19,go_sem,q0,q1,q2,q3,q4,q5,q6,q7,q8,q9,q10,q11]
  ·unfold OpSays
   exact ⟨((((((((((((HB1.out).setCell (p:=⟨w.heap.size,0,none⟩) (by simp) _).setCell (p:=⟨w.heap.size,1,none⟩) (by simp) _).setCell (p:=⟨w.heap.size,2,none⟩) (by simp) _).setCell (p:=⟨w.heap.size,3,none⟩) (by simp) _).setCell (p:=⟨w.heap.size,4,none⟩) (by simp) _).setCell (p:=⟨w.heap.size,5,none⟩) (by simp) _).setCell (p:=⟨w.heap.size,6,none⟩) (by simp) _).setCell (p:=⟨w.heap.size,7,none⟩) (by simp) _).setCell (p:=⟨w.heap.size,8,none⟩) (by simp) _).setCell (p:=⟨w.heap.size,9,none⟩) (by simp) _).setCell (p:=⟨w.heap.size,10,none⟩) (by simp) _).setCell (p:=⟨w.heap.size,11,none⟩) (by simp) _,.inl ⟨by rw [HR.out];simp,by rw [HR.out]⟩⟩
 have HR:Hid (ne=0):=HE.out.trans (by simp [ha])
 have HEV:Hid (∀ V:World,V.heap.size=W1.heap.size→((V.alloc (.cells #[.string nm,.int .i64 1,.int .i64 1,.int .i64 ad,.bool sv] 56)).alloc (.cells #[.string nm,.int .i64 1,.int .i64 1,.int .i64 ad,.bool sv] 56)).heap[W1.heap.size+1]?=some (.cells #[.string nm,.int .i64 1,.int .i64 1,.int .i64 ad,.bool sv] 56 (0,0))):=fun V hV=>by
  have h:=heap_alloc_new (V.alloc (.cells #[.string nm,.int .i64 1,.int .i64 1,.int .i64 ad,.bool sv] 56)) (.cells #[.string nm,.int .i64 1,.int .i64 1,.int .i64 ad,.bool sv] 56)
  rw [show (V.alloc (.cells #[.string nm,.int .i64 1,.int .i64 1,.int .i64 ad,.bool sv] 56)).heap.size=W1.heap.size+1 by simp [hV]] at h
  exact h
 go_wp2_with (go_at_call 39;refine (address_any _ _).mono ?_;rintro e w' ⟨rfl,hx⟩;have hy:=hx.symm;subst hy;rw [ha])
 refine bodyPost_ret (v:=.tuple #[.agg #[.string nm,.string ct,.slice (some ⟨W1.heap.size+1,0,none⟩) 1 1,.slice none 0 0,.slice none 0 0,.slice none 0 0,.int .i64 0,.int .i64 0,.int .i64 0,.int .i64 0,.int .i64 1000,.slice none 0 0],.int .i64 0]) ?_ rfl ?_
 ·simp [results,Tryz.results19,go_sem,hlt1,q0,q1,q2,q3,q4,q5,q6,q7,q8,q9,q10,q11]
 ·unfold OpSays
  refine ⟨((((((((((((((HB1.out).setCell (p:=⟨w.heap.size,0,none⟩) (by simp) _).setCell (p:=⟨w.heap.size,1,none⟩) (by simp) _).setCell (p:=⟨w.heap.size,2,none⟩) (by simp) _).setCell (p:=⟨w.heap.size,3,none⟩) (by simp) _).setCell (p:=⟨w.heap.size,4,none⟩) (by simp) _).setCell (p:=⟨w.heap.size,5,none⟩) (by simp) _).setCell (p:=⟨w.heap.size,6,none⟩) (by simp) _).setCell (p:=⟨w.heap.size,7,none⟩) (by simp) _).setCell (p:=⟨w.heap.size,8,none⟩) (by simp) _).setCell (p:=⟨w.heap.size,9,none⟩) (by simp) _).setCell (p:=⟨w.heap.size,10,none⟩) (by simp) _).setCell (p:=⟨w.heap.size,11,none⟩) (by simp) _).alloc (by simp [World.setCell];omega) _).alloc (by simp [World.setCell];omega) _,.inr (.inr ⟨HR.out,rfl,_,_,_,_,_,rfl,⟨?_,rown_nil _ _,Sv.own_nil _ _,Gw.own_nil _ _,Wh.own_nil _ _⟩,?_⟩)⟩
  ·exact own_of (ms:=[⟨nm,1,1,ad,sv⟩]) (G:=1) (cur:=#[.string nm,.int .i64 1,.int .i64 1,.int .i64 ad,.bool sv]) (by omega) (HEV.out _ (by simp [World.setCell])) rfl (by simp) (by unfold maxLen;omega) rfl
  ·exact ⟨fun m hm=>by simp [nwN] at hm;subst hm;exact hn,fun r hr=>by simp [nwN] at hr,fun r hr=>by simp [nwN] at hr,fun r hr=>by simp [nwN] at hr,fun r hr=>by simp [nwN] at hr,hn,hc⟩
end Go.Proofs.YtffdoiokmiklgaaGreatDoor
