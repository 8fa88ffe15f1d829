import Derived.Test.YtffdoiokmiklgaaGreatDoortr39
namespace Go.Proofs.YtffdoiokmiklgaaGreatDoor
open Go.RowKit
def nwE (nm ct:ByteArray) (ad:Int):Int:=if (labB nm && labB ct)=true then (if within ad 0 4294967295=true then 0 else 3) else 1
def nwN (nm ct:ByteArray) (ad:Int) (sv:Bool):Nd:=⟨nm,ct,[⟨nm,1,1,ad,sv⟩],[],[],[],⟨0,0,0,0,1000⟩,[]⟩
set_option maxHeartbeats 12800000 in
set_option maxRecDepth 100000 in
theorem New_any (nm ct:ByteArray) (ad:Int) (sv:Bool) (w:World) (hn:nm.size≤maxLen) (hc:ct.size≤maxLen) :
 Calls Tryz.prog 19 #[.string nm,.string ct,.int .i64 ad,.bool sv] w fun e w'=>OpSays (nwE nm ct ad) 0 (nwN nm ct ad sv) w e w':=by
 have HE:Hid (nwE nm ct ad=if (labB nm && labB ct)=true then (if within ad 0 4294967295=true then 0 else 3) else 1):=rfl
 obtain ⟨W1,hW1⟩:∃ W1,W1=(w.alloc (.cells #[.string ⟨#[]⟩,.string ⟨#[]⟩,.slice none 0 0,.slice none 0 0,.slice none 0 0,.slice none 0 0,.int .i64 0,.int .i64 0,.int .i64 0,.int .i64 0,.int .i64 0,.slice none 0 0] 51)).alloc (.cells #[.string nm,.string ct] 9):=⟨_,rfl⟩
 have hg1:W1.heap[w.heap.size+1]?=some (.cells #[.string nm,.string ct] 9 (0,0)):=by
  have h:=heap_alloc_new (w.alloc (.cells #[.string ⟨#[]⟩,.string ⟨#[]⟩,.slice none 0 0,.slice none 0 0,.slice none 0 0,.slice none 0 0,.int .i64 0,.int .i64 0,.int .i64 0,.int .i64 0,.int .i64 0,.slice none 0 0] 51)) (.cells #[.string nm,.string ct] 9)
  rw [hW1];simpa using h
 have hz1:W1.heap[w.heap.size]?=some (.cells #[.string ⟨#[]⟩,.string ⟨#[]⟩,.slice none 0 0,.slice none 0 0,.slice none 0 0,.slice none 0 0,.int .i64 0,.int .i64 0,.int .i64 0,.int .i64 0,.int .i64 0,.slice none 0 0] 51 (0,0)):=by
  rw [hW1,Below.heap_alloc _ _ _ (by simp)];exact heap_alloc_new w _
 have hs1:W1.heap.size=w.heap.size+2:=by rw [hW1];simp
 have HB1:Hid (Below w.heap.size w W1):=by rw [hW1];exact ((Below.refl _ _).alloc (Nat.le_refl _) _).alloc (by simp) _
 have HL:Hid (Calls Tryz.prog 38 #[.slice (some ⟨w.heap.size+1,0,none⟩) 2 2] W1 fun e w'=>e=.returned (.bool (labB nm && labB ct))∧w'=W1):=lab2_any nm ct hn hc _ 2 W1 (cellsAt hg1 0) (cellsAt hg1 1)
 obtain ⟨q0,q1,q2,q3,q4,q5,q6,q7,q8,q9,q10,q11⟩:=cells12 hz1
 obtain ⟨qz0,qz1,qz2,qz3,qz4,qz5,qz6,qz7,qz8,qz9,qz10,qz11⟩:=frz12 hz1
 have HZ1:Hid (W1.heap[w.heap.size]?=some (.cells #[.string ⟨#[]⟩,.string ⟨#[]⟩,.slice none 0 0,.slice none 0 0,.slice none 0 0,.slice none 0 0,.int .i64 0,.int .i64 0,.int .i64 0,.int .i64 0,.int .i64 0,.slice none 0 0] 51 (0,0))):=hz1
 have HS1:Hid (W1.heap.size=w.heap.size+2):=hs1
 have hlt1:w.heap.size < W1.heap.size:=by omega
 clear hg1 hz1 hs1
 generalize nwE nm ct ad=ne at *
 generalize (labB nm && labB ct)=lb at *
 go_enter Tryz.func19,Tryz.ntmps19
 go_wp2_with fail
 rw [← hW1]
 refine HL.out.mono ?_
 rintro e w1 ⟨rfl,hww⟩
 have hwq:=hww.symm
 subst hwq
 clear hW1 HL hww
 cases lb
 ·have HR:Hid (ne=1):=HE.out.trans (by simp)
  go_wp2_with fail
  refine bodyPost_ret (v:=.tuple #[.agg #[.string ⟨#[]⟩,.string ⟨#[]⟩,.slice none 0 0,.slice none 0 0,.slice none 0 0,.slice none 0 0,.int .i64 0,.int .i64 0,.int .i64 0,.int .i64 0,.int .i64 0,.slice none 0 0],.int .i64 1]) ?_ rfl ?_
  ·simp [results,Tryz.results19,go_sem,q0,q1,q2,q3,q4,q5,q6,q7,q8,q9,q10,q11]
  ·unfold OpSays
   exact ⟨((((((((((((HB1.out).setCell (p:=⟨w.heap.size,0,none⟩) (by simp) _).setCell (p:=⟨w.heap.size,1,none⟩) (by simp) _).setCell (p:=⟨w.heap.size,2,none⟩) (by simp) _).setCell (p:=⟨w.heap.size,3,none⟩) (by simp) _).setCell (p:=⟨w.heap.size,4,none⟩) (by simp) _).setCell (p:=⟨w.heap.size,5,none⟩) (by simp) _).setCell (p:=⟨w.heap.size,6,none⟩) (by simp) _).setCell (p:=⟨w.heap.size,7,none⟩) (by simp) _).setCell (p:=⟨w.heap.size,8,none⟩) (by simp) _).setCell (p:=⟨w.heap.size,9,none⟩) (by simp) _).setCell (p:=⟨w.heap.size,10,none⟩) (by simp) _).setCell (p:=⟨w.heap.size,11,none⟩) (by simp) _,.inl ⟨by rw [HR.out];simp,by rw [HR.out]⟩⟩
 rcases ha:within ad 0 4294967295 with _ | _
 ·have HR:Hid (ne=3):=HE.out.trans (by simp [ha])
  go_wp2_with (go_at_call 39;refine (address_any _ _).mono ?_;rintro e w' ⟨rfl,hx⟩;have hy:=hx.symm;subst hy;rw [ha])
  refine bodyPost_ret (v:=.tuple #[.agg #[.string ⟨#[]⟩,.string ⟨#[]⟩,.slice none 0 0,.slice none 0 0,.slice none 0 0,.slice none 0 0,.int .i64 0,.int .i64 0,.int .i64 0,.int .i64 0,.int .i64 0,.slice none 0 0],.int .i64 3]) ?_ rfl ?_
  ·simp [results,Tryz.results19,go_sem,q0,q1,q2,q3,q4,q5,q6,q7,q8,q9,q10,q11]
  ·unfold OpSays
   exact ⟨((((((((((((HB1.out).setCell (p:=⟨w.heap.size,0,none⟩) (by simp) _).setCell (p:=⟨w.heap.size,1,none⟩) (by simp) _).setCell (p:=⟨w.heap.size,2,none⟩) (by simp) _).setCell (p:=⟨w.heap.size,3,none⟩) (by simp) _).setCell (p:=⟨w.heap.size,4,none⟩) (by simp) _).setCell (p:=⟨w.heap.size,5,none⟩) (by simp) _).setCell (p:=⟨w.heap.size,6,none⟩) (by simp) _).setCell (p:=⟨w.heap.size,7,none⟩) (by simp) _).setCell (p:=⟨w.heap.size,8,none⟩) (by simp) _).setCell (p:=⟨w.heap.size,9,none⟩) (by simp) _).setCell (p:=⟨w.heap.size,10,none⟩) (by simp) _).setCell (p:=⟨w.heap.size,11,none⟩) (by simp) _,.inl ⟨by rw [HR.out];simp,by rw [HR.out]⟩⟩
 have HR:Hid (ne=0):=HE.out.trans (by simp [ha])
 have HEV:Hid (∀ V:World,V.heap.size=W1.heap.size→((V.alloc (.cells #[.string nm,.int .i64 1,.int .i64 1,.int .i64 ad,.bool sv] 56)).alloc (.cells #[.string nm,.int .i64 1,.int .i64 1,.int .i64 ad,.bool sv] 56)).heap[W1.heap.size+1]?=some (.cells #[.string nm,.int .i64 1,.int .i64 1,.int .i64 ad,.bool sv] 56 (0,0))):=fun V hV=>by
  have h:=heap_alloc_new (V.alloc (.cells #[.string nm,.int .i64 1,.int .i64 1,.int .i64 ad,.bool sv] 56)) (.cells #[.string nm,.int .i64 1,.int .i64 1,.int .i64 ad,.bool sv] 56)
  rw [show (V.alloc (.cells #[.string nm,.int .i64 1,.int .i64 1,.int .i64 ad,.bool sv] 56)).heap.size=W1.heap.size+1 by simp [hV]] at h
  exact h
 go_wp2_with (go_at_call 39;refine (address_any _ _).mono ?_;rintro e w' ⟨rfl,hx⟩;have hy:=hx.symm;subst hy;rw [ha])
 refine bodyPost_ret (v:=.tuple #[.agg #[.string nm,.string ct,.slice (some ⟨W1.heap.size+1,0,none⟩) 1 1,.slice none 0 0,.slice none 0 0,.slice none 0 0,.int .i64 0,.int .i64 0,.int .i64 0,.int .i64 0,.int .i64 1000,.slice none 0 0],.int .i64 0]) ?_ rfl ?_
 ·simp [results,Tryz.results19,go_sem,hlt1,q0,q1,q2,q3,q4,q5,q6,q7,q8,q9,q10,q11]
 ·unfold OpSays
  refine ⟨((((((((((((((HB1.out).setCell (p:=⟨w.heap.size,0,none⟩) (by simp) _).setCell (p:=⟨w.heap.size,1,none⟩) (by simp) _).setCell (p:=⟨w.heap.size,2,none⟩) (by simp) _).setCell (p:=⟨w.heap.size,3,none⟩) (by simp) _).setCell (p:=⟨w.heap.size,4,none⟩) (by simp) _).setCell (p:=⟨w.heap.size,5,none⟩) (by simp) _).setCell (p:=⟨w.heap.size,6,none⟩) (by simp) _).setCell (p:=⟨w.heap.size,7,none⟩) (by simp) _).setCell (p:=⟨w.heap.size,8,none⟩) (by simp) _).setCell (p:=⟨w.heap.size,9,none⟩) (by simp) _).setCell (p:=⟨w.heap.size,10,none⟩) (by simp) _).setCell (p:=⟨w.heap.size,11,none⟩) (by simp) _).alloc (by simp [World.setCell];omega) _).alloc (by simp [World.setCell];omega) _,.inr (.inr ⟨HR.out,rfl,_,_,_,_,_,rfl,⟨?_,rown_nil _ _,Sv.own_nil _ _,Gw.own_nil _ _,Wh.own_nil _ _⟩,?_⟩)⟩
  ·exact own_of (ms:=[⟨nm,1,1,ad,sv⟩]) (G:=1) (cur:=#[.string nm,.int .i64 1,.int .i64 1,.int .i64 ad,.bool sv]) (by omega) (HEV.out _ (by simp [World.setCell])) rfl (by simp) (by unfold maxLen;omega) rfl
  ·exact ⟨fun m hm=>by simp [nwN] at hm;subst hm;exact hn,fun r hr=>by simp [nwN] at hr,fun r hr=>by simp [nwN] at hr,fun r hr=>by simp [nwN] at hr,fun r hr=>by simp [nwN] at hr,hn,hc⟩
def WholeSays (n:Nd) (ne:Int) (w:World) (e:Ending) (w':World):Prop:=Below w.heap.size w w' ∧
 ((ne≠0∧e=.returned (.tuple #[.agg #[.string ⟨#[]⟩,.bool false,.slice none 0 0,.slice none 0 0,.slice none 0 0,.slice none 0 0],.int .i64 ne])) ∨
 (ne=0∧∃ um us ug uw,e=.returned (.tuple #[.agg #[.string n.name,.bool true,um,us,ug,uw],.int .i64 0])∧Own w.heap.size w' um n.ms∧Sv.Own w.heap.size w' us n.sv∧Gw.Own w.heap.size w' ug n.gw∧Wh.Own w.heap.size w' uw n.wh))
set_option maxHeartbeats 25600000 in
set_option maxRecDepth 100000 in
theorem Whole_any (n:Nd) (vm vr vs vg vw:Value) (w:World) (h:NdIs w n vm vr vs vg vw) :
 Calls Tryz.prog 31 #[.agg (ndA n vm vr vs vg vw)] w fun e w'=>WholeSays n n.e w e w':=by
 have HCK:Hid (∀ W,Below w.heap.size w W→Calls Tryz.prog 60 #[.agg (ndA n vm vr vs vg vw)] W fun e w'=>e=.returned (.int .i64 n.e)∧Below W.heap.size W w'):=fun W hW=>ncheck_any n vm vr vs vg vw W (h.below hW)
 have HFR:Hid (n.e=0→∀ W,Below w.heap.size w W→Calls Tryz.prog 36 #[.agg (ndA n vm vr vs vg vw)] W fun e w'=>∃ um ur us ug uw,e=.returned (.agg (ndA n um ur us ug uw))∧NdOwn W.heap.size w' n um ur us ug uw∧Below W.heap.size W w'):=fun he W hW=>by
  have hp:=Nd.parts (Nd.e_zero he).1
  have l1:=(chk_zero hp.ms).1
  have l2:=(chkR_e0 hp.rs).1
  have l3:=(Sv.chk_zero hp.sv).1
  have l4:=(Gw.chk_zero hp.gw).1
  have l5:=(Wh.chk_zero hp.wh).1
  exact fresh_any n vm vr vs vg vw W (h.below hW) (by omega) (by omega) (by omega) (by omega) (by omega)
 obtain ⟨nm,ct,ms,rs,sv,gw,⟨px,py,pz,ph,pq⟩,wh⟩:=n
 obtain ⟨⟨em,cm,rfl,_,_⟩,⟨er_,cr,rfl,_,_⟩,⟨es,cs_,rfl,_,_⟩,⟨eg_,cg,rfl,_,_⟩,⟨eh,ch,rfl,_,_⟩,_,_⟩:=h
 simp only [ndA] at HCK HFR ⊢
 generalize hkm:ms.length=km at *
 have Hkm:Hid (ms.length=km):=hkm
 generalize hkr:rs.length=kr at *
 have Hkr:Hid (rs.length=kr):=hkr
 generalize hks:sv.length=ks at *
 have Hks:Hid (sv.length=ks):=hks
 generalize hkg:gw.length=kg at *
 have Hkg:Hid (gw.length=kg):=hkg
 generalize hkh:wh.length=kh at *
 have Hkh:Hid (wh.length=kh):=hkh
 clear hkm hkr hks hkg hkh
 generalize Nd.e ⟨nm,ct,ms,rs,sv,gw,⟨px,py,pz,ph,pq⟩,wh⟩=ne at *
 obtain ⟨W0,hW0⟩:∃ W0,W0=(w.alloc (.cells #[.string nm,.string ct,.slice em km cm,.slice er_ kr cr,.slice es ks cs_,.slice eg_ kg cg,.int .i64 px,.int .i64 py,.int .i64 pz,.int .i64 ph,.int .i64 pq,.slice eh kh ch] 51)).alloc (.cells #[.string ⟨#[]⟩,.bool false,.slice none 0 0,.slice none 0 0,.slice none 0 0,.slice none 0 0] 67):=⟨_,rfl⟩
 have hb0:Below w.heap.size w W0:=by rw [hW0];exact ((Below.refl _ _).alloc (Nat.le_refl _) _).alloc (by simp) _
 have hg0:W0.heap[w.heap.size]?=some (.cells #[.string nm,.string ct,.slice em km cm,.slice er_ kr cr,.slice es ks cs_,.slice eg_ kg cg,.int .i64 px,.int .i64 py,.int .i64 pz,.int .i64 ph,.int .i64 pq,.slice eh kh ch] 51 (0,0)):=by
  rw [hW0,Below.heap_alloc _ _ _ (by simp)];exact heap_alloc_new w _
 have hz0:W0.heap[w.heap.size+1]?=some (.cells #[.string ⟨#[]⟩,.bool false,.slice none 0 0,.slice none 0 0,.slice none 0 0,.slice none 0 0] 67 (0,0)):=by
  have h:=heap_alloc_new (w.alloc (.cells #[.string nm,.string ct,.slice em km cm,.slice er_ kr cr,.slice es ks cs_,.slice eg_ kg cg,.int .i64 px,.int .i64 py,.int .i64 pz,.int .i64 ph,.int .i64 pq,.slice eh kh ch] 51)) (.cells #[.string ⟨#[]⟩,.bool false,.slice none 0 0,.slice none 0 0,.slice none 0 0,.slice none 0 0] 67)
  rw [hW0];simpa using h
 have hs0:W0.heap.size=w.heap.size+2:=by rw [hW0];simp
 have HB0:Hid (Below w.heap.size w W0):=hb0
 have HG0:Hid (W0.heap[w.heap.size]?=some (.cells #[.string nm,.string ct,.slice em km cm,.slice er_ kr cr,.slice es ks cs_,.slice eg_ kg cg,.int .i64 px,.int .i64 py,.int .i64 pz,.int .i64 ph,.int .i64 pq,.slice eh kh ch] 51 (0,0))):=hg0
 have HZ0:Hid (W0.heap[w.heap.size+1]?=some (.cells #[.string ⟨#[]⟩,.bool false,.slice none 0 0,.slice none 0 0,.slice none 0 0,.slice none 0 0] 67 (0,0))):=hz0
 clear hb0 hg0 hz0
 go_enter Tryz.func31,Tryz.ntmps31
 go_wp2_with fail
 rw [← hW0]
 clear hW0
 refine (HCK.out W0 HB0.out).mono ?_
 rintro e w1 ⟨rfl,hb1⟩
 have hg1:w1.heap[w.heap.size]?=some (.cells #[.string nm,.string ct,.slice em km cm,.slice er_ kr cr,.slice es ks cs_,.slice eg_ kg cg,.int .i64 px,.int .i64 py,.int .i64 pz,.int .i64 ph,.int .i64 pq,.slice eh kh ch] 51 (0,0)):=(hb1.block _ (by omega)).trans HG0.out
 have hz1:w1.heap[w.heap.size+1]?=some (.cells #[.string ⟨#[]⟩,.bool false,.slice none 0 0,.slice none 0 0,.slice none 0 0,.slice none 0 0] 67 (0,0)):=(hb1.block _ (by omega)).trans HZ0.out
 have HB1:Hid (Below w.heap.size w w1):=HB0.out.trans (hb1.mono (by omega))
 have hs1:w.heap.size+1 < w1.heap.size:=(Array.getElem?_eq_some_iff.1 hz1).1
 obtain ⟨q0,q1,q2,q3,q4,q5⟩:=cells6 hz1
 obtain ⟨qz0,qz1,qz2,qz3,qz4,qz5⟩:=frz6 hz1
 obtain ⟨p0,p1,p2,p3,p4,p5,p6,p7,p8,p9,p10,p11⟩:=cells12 hg1
 have HZ1:Hid (w1.heap[w.heap.size+1]?=some (.cells #[.string ⟨#[]⟩,.bool false,.slice none 0 0,.slice none 0 0,.slice none 0 0,.slice none 0 0] 67 (0,0))):=hz1
 have HG1:Hid (w1.heap[w.heap.size]?=some (.cells #[.string nm,.string ct,.slice em km cm,.slice er_ kr cr,.slice es ks cs_,.slice eg_ kg cg,.int .i64 px,.int .i64 py,.int .i64 pz,.int .i64 ph,.int .i64 pq,.slice eh kh ch] 51 (0,0))):=hg1
 clear hb1 hg1 hz1
 by_cases hne:ne=0
 rotate_left
 ·have hne':(ne != 0)=true:=by simpa using hne
  have HNZ:Hid (ne≠0):=hne
  clear hne
  go_wp2_with fail
  refine bodyPost_ret (v:=.tuple #[.agg #[.string ⟨#[]⟩,.bool false,.slice none 0 0,.slice none 0 0,.slice none 0 0,.slice none 0 0],.int .i64 ne]) ?_ rfl ?_
  ·simp [results,Tryz.results31,go_sem,q0,q1,q2,q3,q4,q5]
  ·unfold WholeSays
   exact ⟨((((((HB1.out).setCell (p:=⟨w.heap.size+1,0,none⟩) (by simp) _).setCell (p:=⟨w.heap.size+1,1,none⟩) (by simp) _).setCell (p:=⟨w.heap.size+1,2,none⟩) (by simp) _).setCell (p:=⟨w.heap.size+1,3,none⟩) (by simp) _).setCell (p:=⟨w.heap.size+1,4,none⟩) (by simp) _).setCell (p:=⟨w.heap.size+1,5,none⟩) (by simp) _,.inl ⟨HNZ.out,rfl⟩⟩
 subst hne
 have HFK:=HFR.out rfl w1 HB1.out
 clear HFR HCK
 go_wp2_with fail
 refine HFK.mono ?_
 rintro e w2 ⟨um,ur,us,ug,uw,rfl,ho2,hb2⟩
 obtain ⟨im,jm,hvm,_⟩:=own_slice ho2.ms
 obtain ⟨ir,jr,hvr,_⟩:=own_slice ho2.rs
 obtain ⟨is_,js,hvs,_⟩:=own_slice ho2.sv
 obtain ⟨ig,jg,hvg,_⟩:=own_slice ho2.gw
 obtain ⟨ih,jh,hvh,_⟩:=own_slice ho2.wh
 simp only at hvm hvr hvs hvg hvh
 rw [Hkm.out] at hvm
 rw [Hkr.out] at hvr
 rw [Hks.out] at hvs
 rw [Hkg.out] at hvg
 rw [Hkh.out] at hvh
 subst hvm hvr hvs hvg hvh
 have hs2:w1.heap.size≤w2.heap.size:=hb2.size
 have hg2:w2.heap[w.heap.size]?=some (.cells #[.string nm,.string ct,.slice em km cm,.slice er_ kr cr,.slice es ks cs_,.slice eg_ kg cg,.int .i64 px,.int .i64 py,.int .i64 pz,.int .i64 ph,.int .i64 pq,.slice eh kh ch] 51 (0,0)):=(hb2.block _ (by omega)).trans HG1.out
 have HZ2:Hid (w2.heap[w.heap.size+1]?=some (.cells #[.string ⟨#[]⟩,.bool false,.slice none 0 0,.slice none 0 0,.slice none 0 0,.slice none 0 0] 67 (0,0))):=(hb2.block _ (by omega)).trans HZ1.out
 have HB2:Hid (Below w.heap.size w w2):=HB1.out.trans (hb2.mono (by omega))
 clear p0 p1 p2 p3 p4 p5 p6 p7 p8 p9 p10 p11 q0 qz0 q1 qz1 q2 qz2 q3 qz3 q4 qz4 q5 qz5
 obtain ⟨p0,p1,p2,p3,p4,p5,p6,p7,p8,p9,p10,p11⟩:=cells12 hg2
 obtain ⟨pz0,pz1,pz2,pz3,pz4,pz5,pz6,pz7,pz8,pz9,pz10,pz11⟩:=frz12 hg2
 have hlt2:w.heap.size < w2.heap.size:=by omega
 have hz2:=HZ2.out
 obtain ⟨q0,q1,q2,q3,q4,q5⟩:=cells6 hz2
 obtain ⟨qz0,qz1,qz2,qz3,qz4,qz5⟩:=frz6 hz2
 have hlt3:w.heap.size+1 < w2.heap.size:=by omega
 have HOm:Hid (Own (w.heap.size+2) w2 (.slice im km jm) ms):=ho2.ms.mono (by omega)
 have HOs:Hid (Sv.Own (w.heap.size+2) w2 (.slice is_ ks js) sv):=ho2.sv.mono (by omega)
 have HOg:Hid (Gw.Own (w.heap.size+2) w2 (.slice ig kg jg) gw):=ho2.gw.mono (by omega)
 have HOh:Hid (Wh.Own (w.heap.size+2) w2 (.slice ih kh jh) wh):=ho2.wh.mono (by omega)
 clear ho2 hb2 hg2 hz2 HFK
 go_wp2_with fail
 refine bodyPost_ret (v:=.tuple #[.agg #[.string nm,.bool true,.slice im km jm,.slice is_ ks js,.slice ig kg jg,.slice ih kh jh],.int .i64 0]) ?_ rfl ?_
 ·simp [results,Tryz.results31,go_sem,q0,q1,q2,q3,q4,q5]
 ·unfold WholeSays
  refine ⟨((((((below_set12 HB2.out (by omega) _ _ _ _ _ _ _ _ _ _ _ _).setCell (p:=⟨w.heap.size+1,0,none⟩) (by simp) _).setCell (p:=⟨w.heap.size+1,1,none⟩) (by simp) _).setCell (p:=⟨w.heap.size+1,2,none⟩) (by simp) _).setCell (p:=⟨w.heap.size+1,3,none⟩) (by simp) _).setCell (p:=⟨w.heap.size+1,4,none⟩) (by simp) _).setCell (p:=⟨w.heap.size+1,5,none⟩) (by simp) _,.inr ⟨rfl,_,_,_,_,rfl,?_,?_,?_,?_⟩⟩
  ·exact Own.mono (ownsRow_setCell_below (ownsRow_setCell_below (ownsRow_setCell_below (ownsRow_setCell_below (ownsRow_setCell_below (ownsRow_setCell_below (owns_set12 (HOm.out) (by omega) _ _ _ _ _ _ _ _ _ _ _ _) (a:=⟨w.heap.size+1,0,none⟩) (by simp only;omega) _) (a:=⟨w.heap.size+1,1,none⟩) (by simp only;omega) _) (a:=⟨w.heap.size+1,2,none⟩) (by simp only;omega) _) (a:=⟨w.heap.size+1,3,none⟩) (by simp only;omega) _) (a:=⟨w.heap.size+1,4,none⟩) (by simp only;omega) _) (a:=⟨w.heap.size+1,5,none⟩) (by simp only;omega) _) (by omega)
  ·exact Sv.Own.mono (ownsRow_setCell_below (ownsRow_setCell_below (ownsRow_setCell_below (ownsRow_setCell_below (ownsRow_setCell_below (ownsRow_setCell_below (owns_set12 (HOs.out) (by omega) _ _ _ _ _ _ _ _ _ _ _ _) (a:=⟨w.heap.size+1,0,none⟩) (by simp only;omega) _) (a:=⟨w.heap.size+1,1,none⟩) (by simp only;omega) _) (a:=⟨w.heap.size+1,2,none⟩) (by simp only;omega) _) (a:=⟨w.heap.size+1,3,none⟩) (by simp only;omega) _) (a:=⟨w.heap.size+1,4,none⟩) (by simp only;omega) _) (a:=⟨w.heap.size+1,5,none⟩) (by simp only;omega) _) (by omega)
  ·exact Gw.Own.mono (ownsRow_setCell_below (ownsRow_setCell_below (ownsRow_setCell_below (ownsRow_setCell_below (ownsRow_setCell_below (ownsRow_setCell_below (owns_set12 (HOg.out) (by omega) _ _ _ _ _ _ _ _ _ _ _ _) (a:=⟨w.heap.size+1,0,none⟩) (by simp only;omega) _) (a:=⟨w.heap.size+1,1,none⟩) (by simp only;omega) _) (a:=⟨w.heap.size+1,2,none⟩) (by simp only;omega) _) (a:=⟨w.heap.size+1,3,none⟩) (by simp only;omega) _) (a:=⟨w.heap.size+1,4,none⟩) (by simp only;omega) _) (a:=⟨w.heap.size+1,5,none⟩) (by simp only;omega) _) (by omega)
  ·exact Wh.Own.mono (ownsRow_setCell_below (ownsRow_setCell_below (ownsRow_setCell_below (ownsRow_setCell_below (ownsRow_setCell_below (ownsRow_setCell_below (owns_set12 (HOh.out) (by omega) _ _ _ _ _ _ _ _ _ _ _ _) (a:=⟨w.heap.size+1,0,none⟩) (by simp only;omega) _) (a:=⟨w.heap.size+1,1,none⟩) (by simp only;omega) _) (a:=⟨w.heap.size+1,2,none⟩) (by simp only;omega) _) (a:=⟨w.heap.size+1,3,none⟩) (by simp only;omega) _) (a:=⟨w.heap.size+1,4,none⟩) (by simp only;omega) _) (a:=⟨w.heap.size+1,5,none⟩) (by simp only;omega) _) (by omega)
end Go.Proofs.YtffdoiokmiklgaaGreatDoor
