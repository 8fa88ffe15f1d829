import Derived.Test.YtffdoiokmiklgaaGreatDoorX29
import Derived.Test.YtffdoiokmiklgaaGreatDoorX27
import Derived.Deep.RegionHeld3
import Derived.Deep.Cut
import Derived.Test.YtffdoiokmiklgaaGreatDoorX35
import Derived.Test.YtffdoiokmiklgaaGreatDoorX37
namespace Go.Proofs.YtffdoiokmiklgaaGreatDoor
open Go.RowKit
set_option maxHeartbeats 12800000 in
set_option maxRecDepth 100000 in
theorem who_at (g nb o n cap j:Nat) (x0 x1:ByteArray) (a2 a3 a4 a5 a11:Option Addr) (n2 k2 n3 k3 n4 k4 n5 k5 n11 k11:Nat) (x6 x7 x8 x9 x10:Int) (w:World) (g0:w.cell? ⟨g,0,none⟩=some (.slice (some ⟨nb,o,none⟩) n cap)) (g3:w.cell? ⟨g,3,none⟩=some (.int .i64 (j:Int))) (hj:j < n)
 (c0:w.cell? ⟨nb,o+j * 12,none⟩=some (.string x0)) (c1:w.cell? ⟨nb,o+j * 12+1,none⟩=some (.string x1)) (c2:w.cell? ⟨nb,o+j * 12+2,none⟩=some (.slice a2 n2 k2)) (c3:w.cell? ⟨nb,o+j * 12+3,none⟩=some (.slice a3 n3 k3)) (c4:w.cell? ⟨nb,o+j * 12+4,none⟩=some (.slice a4 n4 k4)) (c5:w.cell? ⟨nb,o+j * 12+5,none⟩=some (.slice a5 n5 k5)) (c6:w.cell? ⟨nb,o+j * 12+6,none⟩=some (.int .i64 x6)) (c7:w.cell? ⟨nb,o+j * 12+7,none⟩=some (.int .i64 x7)) (c8:w.cell? ⟨nb,o+j * 12+8,none⟩=some (.int .i64 x8)) (c9:w.cell? ⟨nb,o+j * 12+9,none⟩=some (.int .i64 x9)) (c10:w.cell? ⟨nb,o+j * 12+10,none⟩=some (.int .i64 x10)) (c11:w.cell? ⟨nb,o+j * 12+11,none⟩=some (.slice a11 n11 k11)) :
 Calls Tryz.prog 107 #[.pointer (some ⟨g,0,none⟩)] w fun e w'=>e=.returned (.agg #[.string x0,.string x1,.slice a2 n2 k2,.slice a3 n3 k3,.slice a4 n4 k4,.slice a5 n5 k5,.int .i64 x6,.int .i64 x7,.int .i64 x8,.int .i64 x9,.int .i64 x10,.slice a11 n11 k11])∧Below w.heap.size w w':=by
 have hgl:g < w.heap.size:=World.block_lt_of_cell? w _ g0
 have hbl:nb < w.heap.size:=World.block_lt_of_cell? w _ c0
 obtain ⟨W0,hW0⟩:∃ W0,W0=w.alloc (.cells #[.string ⟨#[]⟩,.string ⟨#[]⟩,.slice none 0 0,.slice none 0 0,.slice none 0 0,.slice none 0 0,.int .i64 0,.int .i64 0,.int .i64 0,.int .i64 0,.int .i64 0,.slice none 0 0] 51):=⟨_,rfl⟩
 have hb0:Below w.heap.size w W0:=by rw [hW0];exact (Below.refl _ _).alloc (Nat.le_refl _) _
 have hg0:W0.heap[w.heap.size]?=some (.cells #[.string ⟨#[]⟩,.string ⟨#[]⟩,.slice none 0 0,.slice none 0 0,.slice none 0 0,.slice none 0 0,.int .i64 0,.int .i64 0,.int .i64 0,.int .i64 0,.int .i64 0,.slice none 0 0] 51 (0,0)):=by rw [hW0];exact heap_alloc_new w _
 have ne1:w.heap.size≠g:=by omega
 have ne2:w.heap.size≠nb:=by omega
 have hlt:(j:Int) < (n:Int):=by omega
 have hge:(0:Int)≤(j:Int):=by omega
 have htn:((j:Int)).toNat=j:=by omega
 have e0:W0.cell? ⟨g,0,none⟩=some (.slice (some ⟨nb,o,none⟩) n cap):=(hb0.cell (p:=⟨g,0,none⟩) hgl).trans g0
 have e3:W0.cell? ⟨g,3,none⟩=some (.int .i64 (j:Int)):=(hb0.cell (p:=⟨g,3,none⟩) hgl).trans g3
 have d0:W0.cell? ⟨nb,o+j * 12,none⟩=some (.string x0):=(hb0.cell (p:=⟨nb,o+j * 12,none⟩) hbl).trans c0
 have d1:W0.cell? ⟨nb,o+j * 12+1,none⟩=some (.string x1):=(hb0.cell (p:=⟨nb,o+j * 12+1,none⟩) hbl).trans c1
 have d2:W0.cell? ⟨nb,o+j * 12+2,none⟩=some (.slice a2 n2 k2):=(hb0.cell (p:=⟨nb,o+j * 12+2,none⟩) hbl).trans c2
 have d3:W0.cell? ⟨nb,o+j * 12+3,none⟩=some (.slice a3 n3 k3):=(hb0.cell (p:=⟨nb,o+j * 12+3,none⟩) hbl).trans c3
 have d4:W0.cell? ⟨nb,o+j * 12+4,none⟩=some (.slice a4 n4 k4):=(hb0.cell (p:=⟨nb,o+j * 12+4,none⟩) hbl).trans c4
 have d5:W0.cell? ⟨nb,o+j * 12+5,none⟩=some (.slice a5 n5 k5):=(hb0.cell (p:=⟨nb,o+j * 12+5,none⟩) hbl).trans c5
 have d6:W0.cell? ⟨nb,o+j * 12+6,none⟩=some (.int .i64 x6):=(hb0.cell (p:=⟨nb,o+j * 12+6,none⟩) hbl).trans c6
 have d7:W0.cell? ⟨nb,o+j * 12+7,none⟩=some (.int .i64 x7):=(hb0.cell (p:=⟨nb,o+j * 12+7,none⟩) hbl).trans c7
 have d8:W0.cell? ⟨nb,o+j * 12+8,none⟩=some (.int .i64 x8):=(hb0.cell (p:=⟨nb,o+j * 12+8,none⟩) hbl).trans c8
 have d9:W0.cell? ⟨nb,o+j * 12+9,none⟩=some (.int .i64 x9):=(hb0.cell (p:=⟨nb,o+j * 12+9,none⟩) hbl).trans c9
 have d10:W0.cell? ⟨nb,o+j * 12+10,none⟩=some (.int .i64 x10):=(hb0.cell (p:=⟨nb,o+j * 12+10,none⟩) hbl).trans c10
 have d11:W0.cell? ⟨nb,o+j * 12+11,none⟩=some (.slice a11 n11 k11):=(hb0.cell (p:=⟨nb,o+j * 12+11,none⟩) hbl).trans c11
 obtain ⟨q0,q1,q2,q3,q4,q5,q6,q7,q8,q9,q10,q11⟩:=cells12 hg0
 obtain ⟨qz0,qz1,qz2,qz3,qz4,qz5,qz6,qz7,qz8,qz9,qz10,qz11⟩:=frz12 hg0
 obtain ⟨W1,hW1⟩:∃ W1,W1=World.drew (setAll w.heap.size [.string x0,.string x1,.slice a2 n2 k2,.slice a3 n3 k3,.slice a4 n4 k4,.slice a5 n5 k5,.int .i64 x6,.int .i64 x7,.int .i64 x8,.int .i64 x9,.int .i64 x10,.slice a11 n11 k11] 0 W0):=⟨_,rfl⟩
 have hb1:Below w.heap.size w W1:=by rw [hW1];exact drew_below (setAll_below (Nat.le_refl _) _ _ hb0)
 have hg1:W1.heap[w.heap.size]?=some (.cells #[.string x0,.string x1,.slice a2 n2 k2,.slice a3 n3 k3,.slice a4 n4 k4,.slice a5 n5 k5,.int .i64 x6,.int .i64 x7,.int .i64 x8,.int .i64 x9,.int .i64 x10,.slice a11 n11 k11] 51 (0,0)):=by rw [hW1,drew_heap];exact setAll12 hg0 _ _ _ _ _ _ _ _ _ _ _ _
 obtain ⟨r0,r1,r2,r3,r4,r5,r6,r7,r8,r9,r10,r11⟩:=cells12 hg1
 have HB1:Hid (Below w.heap.size w W1):=hb1
 clear hb0 hg0 hb1 hg1 hgl hbl g0 g3 c0 c1 c2 c3 c4 c5 c6 c7 c8 c9 c10 c11
 go_enter Tryz.func107,Tryz.ntmps107
 go_upto_region 1 with fail
 rw [← hW0]
 clear hW0
 go_region_held3 (fun w'=>w'.cell? ⟨g,0,none⟩=some (.slice (some ⟨nb,o,none⟩) n cap)∧w'.cell? ⟨g,3,none⟩=some (.int .i64 (j:Int))∧w'.cell? ⟨nb,o+j * 12,none⟩=some (.string x0)∧w'.cell? ⟨nb,o+j * 12+1,none⟩=some (.string x1)∧w'.cell? ⟨nb,o+j * 12+2,none⟩=some (.slice a2 n2 k2)∧w'.cell? ⟨nb,o+j * 12+3,none⟩=some (.slice a3 n3 k3)∧w'.cell? ⟨nb,o+j * 12+4,none⟩=some (.slice a4 n4 k4)∧w'.cell? ⟨nb,o+j * 12+5,none⟩=some (.slice a5 n5 k5)∧w'.cell? ⟨nb,o+j * 12+6,none⟩=some (.int .i64 x6)∧w'.cell? ⟨nb,o+j * 12+7,none⟩=some (.int .i64 x7)∧w'.cell? ⟨nb,o+j * 12+8,none⟩=some (.int .i64 x8)∧w'.cell? ⟨nb,o+j * 12+9,none⟩=some (.int .i64 x9)∧w'.cell? ⟨nb,o+j * 12+10,none⟩=some (.int .i64 x10)∧w'.cell? ⟨nb,o+j * 12+11,none⟩=some (.slice a11 n11 k11)) (simp only [World.cell?_setCell_far,World.cell?_drew,ne_eq,ne1,ne2,not_false_eq_true,e0,e3,d0,d1,d2,d3,d4,d5,d6,d7,d8,d9,d10,d11,and_self]) (fail)
 go_wp2_with fail
 simp only [setAll,Nat.zero_add,Nat.reduceAdd] at hW1
 rw [← hW1]
 clear hW1
 exact bodyPost_ret (v:=.agg #[.string x0,.string x1,.slice a2 n2 k2,.slice a3 n3 k3,.slice a4 n4 k4,.slice a5 n5 k5,.int .i64 x6,.int .i64 x7,.int .i64 x8,.int .i64 x9,.int .i64 x10,.slice a11 n11 k11]) (by simp [results,Tryz.results107,go_sem,r0,r1,r2,r3,r4,r5,r6,r7,r8,r9,r10,r11]) rfl ⟨rfl,HB1.out⟩
def nwE (nm ct:ByteArray) (ad:Int):Int:=if (labB nm && labB ct)=true then (if within ad 0 4294967295=true then 0 else 3) else 1
def nwN (nm ct:ByteArray) (ad:Int) (sv:Bool):Nd:=⟨nm,ct,[⟨nm,1,1,ad,sv⟩],[],[],[],⟨0,0,0,0,1000⟩,[]⟩
set_option maxHeartbeats 12800000 in
set_option maxRecDepth 100000 in
theorem New_any (nm ct:ByteArray) (ad:Int) (sv:Bool) (w:World) (hn:nm.size≤maxLen) (hc:ct.size≤maxLen) :
 Calls Tryz.prog 19 #[.string nm,.string ct,.int .i64 ad,.bool sv] w fun e w'=>OpSays (nwE nm ct ad) 0 (nwN nm ct ad sv) w e w':=by
 have HE:Hid (nwE nm ct ad=if (labB nm && labB ct)=true then (if within ad 0 4294967295=true then 0 else 3) else 1):=rfl
 obtain ⟨W1,hW1⟩:∃ W1,W1=(w.alloc (.cells #[.string ⟨#[]⟩,.string ⟨#[]⟩,.slice none 0 0,.slice none 0 0,.slice none 0 0,.slice none 0 0,.int .i64 0,.int .i64 0,.int .i64 0,.int .i64 0,.int .i64 0,.slice none 0 0] 51)).alloc (.cells #[.string nm,.string ct] 9):=⟨_,rfl⟩
 have hg1:W1.heap[w.heap.size+1]?=some (.cells #[.string nm,.string ct] 9 (0,0)):=by
  have h:=heap_alloc_new (w.alloc (.cells #[.string ⟨#[]⟩,.string ⟨#[]⟩,.slice none 0 0,.slice none 0 0,.slice none 0 0,.slice none 0 0,.int .i64 0,.int .i64 0,.int .i64 0,.int .i64 0,.int .i64 0,.slice none 0 0] 51)) (.cells #[.string nm,.string ct] 9)
  rw [hW1];simpa using h
 have hz1:W1.heap[w.heap.size]?=some (.cells #[.string ⟨#[]⟩,.string ⟨#[]⟩,.slice none 0 0,.slice none 0 0,.slice none 0 0,.slice none 0 0,.int .i64 0,.int .i64 0,.int .i64 0,.int .i64 0,.int .i64 0,.slice none 0 0] 51 (0,0)):=by
  rw [hW1,Below.heap_alloc _ _ _ (by simp)];exact heap_alloc_new w _
 have hs1:W1.heap.size=w.heap.size+2:=by rw [hW1];simp
 have HB1:Hid (Below w.heap.size w W1):=by rw [hW1];exact ((Below.refl _ _).alloc (Nat.le_refl _) _).alloc (by simp) _
 have HL:Hid (Calls Tryz.prog 38 #[.slice (some ⟨w.heap.size+1,0,none⟩) 2 2] W1 fun e w'=>e=.returned (.bool (labB nm && labB ct))∧w'=W1):=lab2_any nm ct hn hc _ 2 W1 (cellsAt hg1 0) (cellsAt hg1 1)
 obtain ⟨q0,q1,q2,q3,q4,q5,q6,q7,q8,q9,q10,q11⟩:=cells12 hz1
 obtain ⟨qz0,qz1,qz2,qz3,qz4,qz5,qz6,qz7,qz8,qz9,qz10,qz11⟩:=frz12 hz1
 have HZ1:Hid (W1.heap[w.heap.size]?=some (.cells #[.string ⟨#[]⟩,.string ⟨#[]⟩,.slice none 0 0,.slice none 0 0,.slice none 0 0,.slice none 0 0,.int .i64 0,.int .i64 0,.int .i64 0,.int .i64 0,.int .i64 0,.slice none 0 0] 51 (0,0))):=hz1
 have HS1:Hid (W1.heap.size=w.heap.size+2):=hs1
 have hlt1:w.heap.size < W1.heap.size:=by omega
 clear hg1 hz1 hs1
 generalize nwE nm ct ad=ne at *
 generalize (labB nm && labB ct)=lb at *
 go_enter Tryz.func19,Tryz.ntmps19
 go_wp2_with fail
 rw [← hW1]
 refine HL.out.mono ?_
 rintro e w1 ⟨rfl,hww⟩
 have hwq:=hww.symm
 subst hwq
 clear hW1 HL hww
 cases lb
 ·have HR:Hid (ne=1):=HE.out.trans (by simp)
  go_wp2_with fail
  refine bodyPost_ret (v:=.tuple #[.agg #[.string ⟨#[]⟩,.string ⟨#[]⟩,.slice none 0 0,.slice none 0 0,.slice none 0 0,.slice none 0 0,.int .i64 0,.int .i64 0,.int .i64 0,.int .i64 0,.int .i64 0,.slice none 0 0],.int .i64 1]) ?_ rfl ?_
  ·simp [results,Tryz.results19,go_sem,q0,q1,q2,q3,q4,q5,q6,q7,q8,q9,q10,q11]
  ·unfold OpSays
   exact ⟨((((((((((((HB1.out).setCell (p:=⟨w.heap.size,0,none⟩) (by simp) _).setCell (p:=⟨w.heap.size,1,none⟩) (by simp) _).setCell (p:=⟨w.heap.size,2,none⟩) (by simp) _).setCell (p:=⟨w.heap.size,3,none⟩) (by simp) _).setCell (p:=⟨w.heap.size,4,none⟩) (by simp) _).setCell (p:=⟨w.heap.size,5,none⟩) (by simp) _).setCell (p:=⟨w.heap.size,6,none⟩) (by simp) _).setCell (p:=⟨w.heap.size,7,none⟩) (by simp) _).setCell (p:=⟨w.heap.size,8,none⟩) (by simp) _).setCell (p:=⟨w.heap.size,9,none⟩) (by simp) _).setCell (p:=⟨w.heap.size,10,none⟩) (by simp) _).setCell (p:=⟨w.heap.size,11,none⟩) (by simp) _,.inl ⟨by rw [HR.out];simp,by rw [HR.out]⟩⟩
 rcases ha:within ad 0 4294967295 with _ | _
 ·have HR:Hid (ne=3):=HE.out.trans (by simp [ha])
  go_wp2_with (go_at_call 39;refine (address_any _ _).mono ?_;rintro e w' ⟨rfl,hx⟩;have hy:=hx.symm;subst hy;rw [ha])
  refine bodyPost_ret (v:=.tuple #[.agg #[.string ⟨#[]⟩,.string ⟨#[]⟩,.slice none 0 0,.slice none 0 0,.slice none 0 0,.slice none 0 0,.int .i64 0,.int .i64 0,.int .i64 0,.int .i64 0,.int .i64 0,.slice none 0 0],.int .i64 3]) ?_ rfl ?_
  ·simp [results,Tryz.results19,go_sem,q0,q1,q2,q3,q4,q5,q6,q7,q8,q9,q10,q11]
  ·unfold OpSays
   exact ⟨((((((((((((HB1.out).setCell (p:=⟨w.heap.size,0,none⟩) (by simp) _).setCell (p:=⟨w.heap.size,1,none⟩) (by simp) _).setCell (p:=⟨w.heap.size,2,none⟩) (by simp) _).setCell (p:=⟨w.heap.size,3,none⟩) (by simp) _).setCell (p:=⟨w.heap.size,4,none⟩) (by simp) _).setCell (p:=⟨w.heap.size,5,none⟩) (by simp) _).setCell (p:=⟨w.heap.size,6,none⟩) (by simp) _).setCell (p:=⟨w.heap.size,7,none⟩) (by simp) _).setCell (p:=⟨w.heap.size,8,none⟩) (by simp) _).setCell (p:=⟨w.heap.size,9,none⟩) (by simp) _).setCell (p:=⟨w.heap.size,10,none⟩) (by simp) _).setCell (p:=⟨w.heap.size,11,none⟩) (by simp) _,.inl ⟨by rw [HR.out];simp,by rw [HR.out]⟩⟩
 have HR:Hid (ne=0):=HE.out.trans (by simp [ha])
 have HEV:Hid (∀ V:World,V.heap.size=W1.heap.size→((V.alloc (.cells #[.string nm,.int .i64 1,.int .i64 1,.int .i64 ad,.bool sv] 56)).alloc (.cells #[.string nm,.int .i64 1,.int .i64 1,.int .i64 ad,.bool sv] 56)).heap[W1.heap.size+1]?=some (.cells #[.string nm,.int .i64 1,.int .i64 1,.int .i64 ad,.bool sv] 56 (0,0))):=fun V hV=>by
  have h:=heap_alloc_new (V.alloc (.cells #[.string nm,.int .i64 1,.int .i64 1,.int .i64 ad,.bool sv] 56)) (.cells #[.string nm,.int .i64 1,.int .i64 1,.int .i64 ad,.bool sv] 56)
  rw [show (V.alloc (.cells #[.string nm,.int .i64 1,.int .i64 1,.int .i64 ad,.bool sv] 56)).heap.size=W1.heap.size+1 by simp [hV]] at h
  exact h
 go_wp2_with (go_at_call 39;refine (address_any _ _).mono ?_;rintro e w' ⟨rfl,hx⟩;have hy:=hx.symm;subst hy;rw [ha])
 refine bodyPost_ret (v:=.tuple #[.agg #[.string nm,.string ct,.slice (some ⟨W1.heap.size+1,0,none⟩) 1 1,.slice none 0 0,.slice none 0 0,.slice none 0 0,.int .i64 0,.int .i64 0,.int .i64 0,.int .i64 0,.int .i64 1000,.slice none 0 0],.int .i64 0]) ?_ rfl ?_
 ·simp [results,Tryz.results19,go_sem,hlt1,q0,q1,q2,q3,q4,q5,q6,q7,q8,q9,q10,q11]
 ·unfold OpSays
  refine ⟨((((((((((((((HB1.out).setCell (p:=⟨w.heap.size,0,none⟩) (by simp) _).setCell (p:=⟨w.heap.size,1,none⟩) (by simp) _).setCell (p:=⟨w.heap.size,2,none⟩) (by simp) _).setCell (p:=⟨w.heap.size,3,none⟩) (by simp) _).setCell (p:=⟨w.heap.size,4,none⟩) (by simp) _).setCell (p:=⟨w.heap.size,5,none⟩) (by simp) _).setCell (p:=⟨w.heap.size,6,none⟩) (by simp) _).setCell (p:=⟨w.heap.size,7,none⟩) (by simp) _).setCell (p:=⟨w.heap.size,8,none⟩) (by simp) _).setCell (p:=⟨w.heap.size,9,none⟩) (by simp) _).setCell (p:=⟨w.heap.size,10,none⟩) (by simp) _).setCell (p:=⟨w.heap.size,11,none⟩) (by simp) _).alloc (by simp [World.setCell];omega) _).alloc (by simp [World.setCell];omega) _,.inr (.inr ⟨HR.out,rfl,_,_,_,_,_,rfl,⟨?_,rown_nil _ _,Sv.own_nil _ _,Gw.own_nil _ _,Wh.own_nil _ _⟩,?_⟩)⟩
  ·exact own_of (ms:=[⟨nm,1,1,ad,sv⟩]) (G:=1) (cur:=#[.string nm,.int .i64 1,.int .i64 1,.int .i64 ad,.bool sv]) (by omega) (HEV.out _ (by simp [World.setCell])) rfl (by simp) (by unfold maxLen;omega) rfl
  ·exact ⟨fun m hm=>by simp [nwN] at hm;subst hm;exact hn,fun r hr=>by simp [nwN] at hr,fun r hr=>by simp [nwN] at hr,fun r hr=>by simp [nwN] at hr,fun r hr=>by simp [nwN] at hr,hn,hc⟩
def WholeSays (n:Nd) (ne:Int) (w:World) (e:Ending) (w':World):Prop:=Below w.heap.size w w' ∧
 ((ne≠0∧e=.returned (.tuple #[.agg #[.string ⟨#[]⟩,.bool false,.slice none 0 0,.slice none 0 0,.slice none 0 0,.slice none 0 0],.int .i64 ne])) ∨
 (ne=0∧∃ um us ug uw,e=.returned (.tuple #[.agg #[.string n.name,.bool true,um,us,ug,uw],.int .i64 0])∧Own w.heap.size w' um n.ms∧Sv.Own w.heap.size w' us n.sv∧Gw.Own w.heap.size w' ug n.gw∧Wh.Own w.heap.size w' uw n.wh))
set_option maxHeartbeats 25600000 in
set_option maxRecDepth 100000 in
theorem Whole_any (n:Nd) (vm vr vs vg vw:Value) (w:World) (h:NdIs w n vm vr vs vg vw) :
 Calls Tryz.prog 31 #[.agg (ndA n vm vr vs vg vw)] w fun e w'=>WholeSays n n.e w e w':=by
 have HCK:Hid (∀ W,Below w.heap.size w W→Calls Tryz.prog 60 #[.agg (ndA n vm vr vs vg vw)] W fun e w'=>e=.returned (.int .i64 n.e)∧Below W.heap.size W w'):=fun W hW=>ncheck_any n vm vr vs vg vw W (h.below hW)
 have HFR:Hid (n.e=0→∀ W,Below w.heap.size w W→Calls Tryz.prog 36 #[.agg (ndA n vm vr vs vg vw)] W fun e w'=>∃ um ur us ug uw,e=.returned (.agg (ndA n um ur us ug uw))∧NdOwn W.heap.size w' n um ur us ug uw∧Below W.heap.size W w'):=fun he W hW=>by
  have hp:=Nd.parts (Nd.e_zero he).1
  have l1:=(chk_zero hp.ms).1
  have l2:=(chkR_e0 hp.rs).1
  have l3:=(Sv.chk_zero hp.sv).1
  have l4:=(Gw.chk_zero hp.gw).1
  have l5:=(Wh.chk_zero hp.wh).1
  exact fresh_any n vm vr vs vg vw W (h.below hW) (by omega) (by omega) (by omega) (by omega) (by omega)
 obtain ⟨nm,ct,ms,rs,sv,gw,⟨px,py,pz,ph,pq⟩,wh⟩:=n
 obtain ⟨⟨em,cm,rfl,_,_⟩,⟨er_,cr,rfl,_,_⟩,⟨es,cs_,rfl,_,_⟩,⟨eg_,cg,rfl,_,_⟩,⟨eh,ch,rfl,_,_⟩,_,_⟩:=h
 simp only [ndA] at HCK HFR ⊢
 generalize hkm:ms.length=km at *
 have Hkm:Hid (ms.length=km):=hkm
 generalize hkr:rs.length=kr at *
 have Hkr:Hid (rs.length=kr):=hkr
 generalize hks:sv.length=ks at *
 have Hks:Hid (sv.length=ks):=hks
 generalize hkg:gw.length=kg at *
 have Hkg:Hid (gw.length=kg):=hkg
 generalize hkh:wh.length=kh at *
 have Hkh:Hid (wh.length=kh):=hkh
 clear hkm hkr hks hkg hkh
 generalize Nd.e ⟨nm,ct,ms,rs,sv,gw,⟨px,py,pz,ph,pq⟩,wh⟩=ne at *
 obtain ⟨W0,hW0⟩:∃ W0,W0=(w.alloc (.cells #[.string nm,.string ct,.slice em km cm,.slice er_ kr cr,.slice es ks cs_,.slice eg_ kg cg,.int .i64 px,.int .i64 py,.int .i64 pz,.int .i64 ph,.int .i64 pq,.slice eh kh ch] 51)).alloc (.cells #[.string ⟨#[]⟩,.bool false,.slice none 0 0,.slice none 0 0,.slice none 0 0,.slice none 0 0] 67):=⟨_,rfl⟩
 have hb0:Below w.heap.size w W0:=by rw [hW0];exact ((Below.refl _ _).alloc (Nat.le_refl _) _).alloc (by simp) _
 have hg0:W0.heap[w.heap.size]?=some (.cells #[.string nm,.string ct,.slice em km cm,.slice er_ kr cr,.slice es ks cs_,.slice eg_ kg cg,.int .i64 px,.int .i64 py,.int .i64 pz,.int .i64 ph,.int .i64 pq,.slice eh kh ch] 51 (0,0)):=by
  rw [hW0,Below.heap_alloc _ _ _ (by simp)];exact heap_alloc_new w _
 have hz0:W0.heap[w.heap.size+1]?=some (.cells #[.string ⟨#[]⟩,.bool false,.slice none 0 0,.slice none 0 0,.slice none 0 0,.slice none 0 0] 67 (0,0)):=by
  have h:=heap_alloc_new (w.alloc (.cells #[.string nm,.string ct,.slice em km cm,.slice er_ kr cr,.slice es ks cs_,.slice eg_ kg cg,.int .i64 px,.int .i64 py,.int .i64 pz,.int .i64 ph,.int .i64 pq,.slice eh kh ch] 51)) (.cells #[.string ⟨#[]⟩,.bool false,.slice none 0 0,.slice none 0 0,.slice none 0 0,.slice none 0 0] 67)
  rw [hW0];simpa using h
 have hs0:W0.heap.size=w.heap.size+2:=by rw [hW0];simp
 have HB0:Hid (Below w.heap.size w W0):=hb0
 have HG0:Hid (W0.heap[w.heap.size]?=some (.cells #[.string nm,.string ct,.slice em km cm,.slice er_ kr cr,.slice es ks cs_,.slice eg_ kg cg,.int .i64 px,.int .i64 py,.int .i64 pz,.int .i64 ph,.int .i64 pq,.slice eh kh ch] 51 (0,0))):=hg0
 have HZ0:Hid (W0.heap[w.heap.size+1]?=some (.cells #[.string ⟨#[]⟩,.bool false,.slice none 0 0,.slice none 0 0,.slice none 0 0,.slice none 0 0] 67 (0,0))):=hz0
 clear hb0 hg0 hz0
 go_enter Tryz.func31,Tryz.ntmps31
 go_wp2_with fail
 rw [← hW0]
 clear hW0
 refine (HCK.out W0 HB0.out).mono ?_
 rintro e w1 ⟨rfl,hb1⟩
 have hg1:w1.heap[w.heap.size]?=some (.cells #[.string nm,.string ct,.slice em km cm,.slice er_ kr cr,.slice es ks cs_,.slice eg_ kg cg,.int .i64 px,.int .i64 py,.int .i64 pz,.int .i64 ph,.int .i64 pq,.slice eh kh ch] 51 (0,0)):=(hb1.block _ (by omega)).trans HG0.out
 have hz1:w1.heap[w.heap.size+1]?=some (.cells #[.string ⟨#[]⟩,.bool false,.slice none 0 0,.slice none 0 0,.slice none 0 0,.slice none 0 0] 67 (0,0)):=(hb1.block _ (by omega)).trans HZ0.out
 have HB1:Hid (Below w.heap.size w w1):=HB0.out.trans (hb1.mono (by omega))
 have hs1:w.heap.size+1 < w1.heap.size:=(Array.getElem?_eq_some_iff.1 hz1).1
 obtain ⟨q0,q1,q2,q3,q4,q5⟩:=cells6 hz1
 obtain ⟨qz0,qz1,qz2,qz3,qz4,qz5⟩:=frz6 hz1
 obtain ⟨p0,p1,p2,p3,p4,p5,p6,p7,p8,p9,p10,p11⟩:=cells12 hg1
 have HZ1:Hid (w1.heap[w.heap.size+1]?=some (.cells #[.string ⟨#[]⟩,.bool false,.slice none 0 0,.slice none 0 0,.slice none 0 0,.slice none 0 0] 67 (0,0))):=hz1
 have HG1:Hid (w1.heap[w.heap.size]?=some (.cells #[.string nm,.string ct,.slice em km cm,.slice er_ kr cr,.slice es ks cs_,.slice eg_ kg cg,.int .i64 px,.int .i64 py,.int .i64 pz,.int .i64 ph,.int .i64 pq,.slice eh kh ch] 51 (0,0))):=hg1
 clear hb1 hg1 hz1
 by_cases hne:ne=0
 rotate_left
 ·have hne':(ne != 0)=true:=by simpa using hne
  have HNZ:Hid (ne≠0):=hne
  clear hne
  go_wp2_with fail
  refine bodyPost_ret (v:=.tuple #[.agg #[.string ⟨#[]⟩,.bool false,.slice none 0 0,.slice none 0 0,.slice none 0 0,.slice none 0 0],.int .i64 ne]) ?_ rfl ?_
  ·simp [results,Tryz.results31,go_sem,q0,q1,q2,q3,q4,q5]
  ·unfold WholeSays
   exact ⟨((((((HB1.out).setCell (p:=⟨w.heap.size+1,0,none⟩) (by simp) _).setCell (p:=⟨w.heap.size+1,1,none⟩) (by simp) _).setCell (p:=⟨w.heap.size+1,2,none⟩) (by simp) _).setCell (p:=⟨w.heap.size+1,3,none⟩) (by simp) _).setCell (p:=⟨w.heap.size+1,4,none⟩) (by simp) _).setCell (p:=⟨w.heap.size+1,5,none⟩) (by simp) _,.inl ⟨HNZ.out,rfl⟩⟩
 subst hne
 have HFK:=HFR.out rfl w1 HB1.out
 clear HFR HCK
 go_wp2_with fail
 refine HFK.mono ?_
 rintro e w2 ⟨um,ur,us,ug,uw,rfl,ho2,hb2⟩
 obtain ⟨im,jm,hvm,_⟩:=own_slice ho2.ms
 obtain ⟨ir,jr,hvr,_⟩:=own_slice ho2.rs
 obtain ⟨is_,js,hvs,_⟩:=own_slice ho2.sv
 obtain ⟨ig,jg,hvg,_⟩:=own_slice ho2.gw
 obtain ⟨ih,jh,hvh,_⟩:=own_slice ho2.wh
 simp only at hvm hvr hvs hvg hvh
 rw [Hkm.out] at hvm
 rw [Hkr.out] at hvr
 rw [Hks.out] at hvs
 rw [Hkg.out] at hvg
 rw [Hkh.out] at hvh
 subst hvm hvr hvs hvg hvh
 have hs2:w1.heap.size≤w2.heap.size:=hb2.size
 have hg2:w2.heap[w.heap.size]?=some (.cells #[.string nm,.string ct,.slice em km cm,.slice er_ kr cr,.slice es ks cs_,.slice eg_ kg cg,.int .i64 px,.int .i64 py,.int .i64 pz,.int .i64 ph,.int .i64 pq,.slice eh kh ch] 51 (0,0)):=(hb2.block _ (by omega)).trans HG1.out
 have HZ2:Hid (w2.heap[w.heap.size+1]?=some (.cells #[.string ⟨#[]⟩,.bool false,.slice none 0 0,.slice none 0 0,.slice none 0 0,.slice none 0 0] 67 (0,0))):=(hb2.block _ (by omega)).trans HZ1.out
 have HB2:Hid (Below w.heap.size w w2):=HB1.out.trans (hb2.mono (by omega))
 clear p0 p1 p2 p3 p4 p5 p6 p7 p8 p9 p10 p11 q0 qz0 q1 qz1 q2 qz2 q3 qz3 q4 qz4 q5 qz5
 obtain ⟨p0,p1,p2,p3,p4,p5,p6,p7,p8,p9,p10,p11⟩:=cells12 hg2
 obtain ⟨pz0,pz1,pz2,pz3,pz4,pz5,pz6,pz7,pz8,pz9,pz10,pz11⟩:=frz12 hg2
 have hlt2:w.heap.size < w2.heap.size:=by omega
 have hz2:=HZ2.out
 obtain ⟨q0,q1,q2,q3,q4,q5⟩:=cells6 hz2
 obtain ⟨qz0,qz1,qz2,qz3,qz4,qz5⟩:=frz6 hz2
 have hlt3:w.heap.size+1 < w2.heap.size:=by omega
 have HOm:Hid (Own (w.heap.size+2) w2 (.slice im km jm) ms):=ho2.ms.mono (by omega)
 have HOs:Hid (Sv.Own (w.heap.size+2) w2 (.slice is_ ks js) sv):=ho2.sv.mono (by omega)
 have HOg:Hid (Gw.Own (w.heap.size+2) w2 (.slice ig kg jg) gw):=ho2.gw.mono (by omega)
 have HOh:Hid (Wh.Own (w.heap.size+2) w2 (.slice ih kh jh) wh):=ho2.wh.mono (by omega)
 clear ho2 hb2 hg2 hz2 HFK
 go_wp2_with fail
 refine bodyPost_ret (v:=.tuple #[.agg #[.string nm,.bool true,.slice im km jm,.slice is_ ks js,.slice ig kg jg,.slice ih kh jh],.int .i64 0]) ?_ rfl ?_
 ·simp [results,Tryz.results31,go_sem,q0,q1,q2,q3,q4,q5]
 ·unfold WholeSays
  refine ⟨((((((below_set12 HB2.out (by omega) _ _ _ _ _ _ _ _ _ _ _ _).setCell (p:=⟨w.heap.size+1,0,none⟩) (by simp) _).setCell (p:=⟨w.heap.size+1,1,none⟩) (by simp) _).setCell (p:=⟨w.heap.size+1,2,none⟩) (by simp) _).setCell (p:=⟨w.heap.size+1,3,none⟩) (by simp) _).setCell (p:=⟨w.heap.size+1,4,none⟩) (by simp) _).setCell (p:=⟨w.heap.size+1,5,none⟩) (by simp) _,.inr ⟨rfl,_,_,_,_,rfl,?_,?_,?_,?_⟩⟩
  ·exact Own.mono (ownsRow_setCell_below (ownsRow_setCell_below (ownsRow_setCell_below (ownsRow_setCell_below (ownsRow_setCell_below (ownsRow_setCell_below (owns_set12 (HOm.out) (by omega) _ _ _ _ _ _ _ _ _ _ _ _) (a:=⟨w.heap.size+1,0,none⟩) (by simp only;omega) _) (a:=⟨w.heap.size+1,1,none⟩) (by simp only;omega) _) (a:=⟨w.heap.size+1,2,none⟩) (by simp only;omega) _) (a:=⟨w.heap.size+1,3,none⟩) (by simp only;omega) _) (a:=⟨w.heap.size+1,4,none⟩) (by simp only;omega) _) (a:=⟨w.heap.size+1,5,none⟩) (by simp only;omega) _) (by omega)
  ·exact Sv.Own.mono (ownsRow_setCell_below (ownsRow_setCell_below (ownsRow_setCell_below (ownsRow_setCell_below (ownsRow_setCell_below (ownsRow_setCell_below (owns_set12 (HOs.out) (by omega) _ _ _ _ _ _ _ _ _ _ _ _) (a:=⟨w.heap.size+1,0,none⟩) (by simp only;omega) _) (a:=⟨w.heap.size+1,1,none⟩) (by simp only;omega) _) (a:=⟨w.heap.size+1,2,none⟩) (by simp only;omega) _) (a:=⟨w.heap.size+1,3,none⟩) (by simp only;omega) _) (a:=⟨w.heap.size+1,4,none⟩) (by simp only;omega) _) (a:=⟨w.heap.size+1,5,none⟩) (by simp only;omega) _) (by omega)
  ·exact Gw.Own.mono (ownsRow_setCell_below (ownsRow_setCell_below (ownsRow_setCell_below (ownsRow_setCell_below (ownsRow_setCell_below (ownsRow_setCell_below (owns_set12 (HOg.out) (by omega) _ _ _ _ _ _ _ _ _ _ _ _) (a:=⟨w.heap.size+1,0,none⟩) (by simp only;omega) _) (a:=⟨w.heap.size+1,1,none⟩) (by simp only;omega) _) (a:=⟨w.heap.size+1,2,none⟩) (by simp only;omega) _) (a:=⟨w.heap.size+1,3,none⟩) (by simp only;omega) _) (a:=⟨w.heap.size+1,4,none⟩) (by simp only;omega) _) (a:=⟨w.heap.size+1,5,none⟩) (by simp only;omega) _) (by omega)
  ·exact Wh.Own.mono (ownsRow_setCell_below (ownsRow_setCell_below (ownsRow_setCell_below (ownsRow_setCell_below (ownsRow_setCell_below (ownsRow_setCell_below (owns_set12 (HOh.out) (by omega) _ _ _ _ _ _ _ _ _ _ _ _) (a:=⟨w.heap.size+1,0,none⟩) (by simp only;omega) _) (a:=⟨w.heap.size+1,1,none⟩) (by simp only;omega) _) (a:=⟨w.heap.size+1,2,none⟩) (by simp only;omega) _) (a:=⟨w.heap.size+1,3,none⟩) (by simp only;omega) _) (a:=⟨w.heap.size+1,4,none⟩) (by simp only;omega) _) (a:=⟨w.heap.size+1,5,none⟩) (by simp only;omega) _) (by omega)
structure NsOwn (C:Nat) (w:World) (nb:Nat) (L:List Nx):Prop where
 le:C≤nb
 row:w.heap[nb]?=some (.cells (nfl L).toArray 51 (0,0))
 own:∀ x∈L,NdOwn C w x.n x.vm x.vr x.vs x.vg x.vw
 ok:∀ x∈L,NdOk x.n
theorem NdOwn.mv {C B:Nat} {w w':World} {n:Nd} {vm vr vs vg vw:Value} (h:NdOwn B w n vm vr vs vg vw) (hm:Mv C w w'):NdOwn B w' n vm vr vs vg vw:=
 ⟨row_ty h.ms (fun b cs f e=>hm.keep b cs _ f e (by decide) (by decide)),row_ty h.rs (fun b cs f e=>hm.keep b cs _ f e (by decide) (by decide)),row_ty h.sv (fun b cs f e=>hm.keep b cs _ f e (by decide) (by decide)),row_ty h.gw (fun b cs f e=>hm.keep b cs _ f e (by decide) (by decide)),row_ty h.wh (fun b cs f e=>hm.keep b cs _ f e (by decide) (by decide))⟩
theorem NsOwn.mv {C nb:Nat} {w w':World} {L:List Nx} (h:NsOwn C w nb L) (hm:Mv C w w'):NsOwn C w' nb L:=⟨h.le,hm.keep _ _ _ _ h.row (by decide) (by decide),fun x hx=>(h.own x hx).mv hm,h.ok⟩
theorem NsOwn.below {C nb:Nat} {w w':World} {L:List Nx} (h:NsOwn C w nb L) (hb:Below w.heap.size w w') (hC:C≤w.heap.size):NsOwn C w' nb L:=h.mv (Mv.of hb hC)
theorem nx_mem {L:List Nx} {j:Nat} (hj:j < L.length):L.getD j nx0∈L:=by rw [List.getD,List.getElem?_eq_getElem hj];exact List.getElem_mem hj
theorem NsOwn.cell {C nb:Nat} {w:World} {L:List Nx} (h:NsOwn C w nb L) {j:Nat} (hj:j < L.length) (i:Nat) (hi:i < 12):w.cell? ⟨nb,0+j * 12+i,none⟩=(L.getD j nx0).cs[i]?:=by
 rw [cellsAt h.row]
 simpa using nfl_get L j hj i hi
theorem who_own (C g nb j n cap:Nat) (L:List Nx) (w:World) (hN:NsOwn C w nb L) (hj:j < L.length) (hn:n=L.length) (g0:w.cell? ⟨g,0,none⟩=some (.slice (some ⟨nb,0,none⟩) n cap)) (g3:w.cell? ⟨g,3,none⟩=some (.int .i64 (j:Int))) :
 Calls Tryz.prog 107 #[.pointer (some ⟨g,0,none⟩)] w fun e w'=>e=.returned (.agg (ndA (L.getD j nx0).n (L.getD j nx0).vm (L.getD j nx0).vr (L.getD j nx0).vs (L.getD j nx0).vg (L.getD j nx0).vw))∧Below w.heap.size w w':=by
 have hc:=fun i hi=>hN.cell hj i hi
 have ho:=hN.own _ (nx_mem hj)
 generalize L.getD j nx0=x at *
 obtain ⟨⟨nm,ct,ms,rs,sv,gw,⟨px,py,pz,ph,pq⟩,wh⟩,vm,vr,vs,vg,vw⟩:=x
 obtain ⟨a2,c2,h2⟩:=row_form ho.ms
 obtain ⟨a3,c3,h3⟩:=row_form ho.rs
 obtain ⟨a4,c4,h4⟩:=row_form ho.sv
 obtain ⟨a5,c5,h5⟩:=row_form ho.gw
 obtain ⟨a11,c11,h11⟩:=row_form ho.wh
 simp only at h2 h3 h4 h5 h11
 subst h2 h3 h4 h5 h11
 exact who_at g nb 0 n cap j nm ct a2 a3 a4 a5 a11 _ c2 _ c3 _ c4 _ c5 _ c11 px py pz ph pq w g0 g3 (by omega) (hc 0 (by omega)) (hc 1 (by omega)) (hc 2 (by omega)) (hc 3 (by omega)) (hc 4 (by omega)) (hc 5 (by omega)) (hc 6 (by omega)) (hc 7 (by omega)) (hc 8 (by omega)) (hc 9 (by omega)) (hc 10 (by omega)) (hc 11 (by omega))
set_option maxHeartbeats 6400000 in
set_option maxRecDepth 100000 in
theorem write_any (C g:Nat) (un ul:Value) (ls:List Lt.Ltr) (v:Ev) (p:Pk) (zm zs zg zw:Value) (w:World) (h:Plr C w g un ul ls v) (hC:C≤w.heap.size) (h20:ls.length < 20) (hx:PkIs w p zm zs zg zw) (hWr:∀ W zm zs zg zw,Tab W.heap.size W→PkIs W p zm zs zg zw→Calls Tryz.prog 221 #[.agg #[.string p.frm,.bool p.whole,zm,zs,zg,zw]] W fun e w'=>e=.returned (.tuple #[.string p.T,.int .i64 p.e])∧Below W.heap.size W w') (hT:Tab w.heap.size w) :
 Calls Tryz.prog 150 #[.pointer (some ⟨g,0,none⟩),.agg #[.string p.frm,.bool p.whole,zm,zs,zg,zw]] w fun e w'=>e=.returned (.int .i64 0)∧Mv C w w'∧∃ a k c,Plr C w' g un (.slice a k c) (ls++[⟨v.other,p.T⟩]) v:=by
 have hgl:g < w.heap.size:=(Array.getElem?_eq_some_iff.1 h.hg).1
 have HW:Hid (∀ W,Below w.heap.size w W→Calls Tryz.prog 221 #[.agg #[.string p.frm,.bool p.whole,zm,zs,zg,zw]] W fun e w'=>e=.returned (.tuple #[.string p.T,.int .i64 p.e])∧Below W.heap.size W w'):=fun W hW=>hWr W zm zs zg zw (fun W2 hW2=>hT W2 (hW.trans (hW2.mono hW.size))) (hx.below hW)
 have HS:Hid (∀ W,Below w.heap.size w W→Calls Tryz.prog 152 #[.pointer (some ⟨g,0,none⟩),.agg #[.int .i64 v.other,.string p.T]] W fun e w'=>e=.returned (.int .i64 0)∧Mv C w w'∧∃ a k c,Plr C w' g un (.slice a k c) (ls++[⟨v.other,p.T⟩]) v):=fun W hW=>(send_any C g un ul ls v v.other p.T W (h.below hW) (Nat.le_trans hC hW.size) h20).mono (fun e w' hh=>⟨hh.1,(Mv.of hW hC).trans hh.2.1,hh.2.2⟩)
 have HG:Hid (∀ W,Below w.heap.size w W→W.cell? ⟨g,4,none⟩=some (.int .i64 v.other)):=fun W hW=>(hW.cell (p:=⟨g,4,none⟩) hgl).trans (cellsAt h.hg 4)
 obtain ⟨⟨a2,c2,rfl,_⟩,⟨a3,c3,rfl,_⟩,⟨a4,c4,rfl,_⟩,⟨a5,c5,rfl,_⟩,_,_⟩:=hx
 clear h hWr hT h20
 generalize p.T=tx at *
 generalize p.e=pe at *
 obtain ⟨W0,hW0⟩:∃ W0,W0=w.alloc (.cells #[.string p.frm,.bool p.whole,.slice a2 p.ms.length c2,.slice a3 p.sv.length c3,.slice a4 p.gw.length c4,.slice a5 p.wh.length c5] 67):=⟨_,rfl⟩
 have hb0:Below w.heap.size w W0:=by rw [hW0];exact (Below.refl _ _).alloc (Nat.le_refl _) _
 have hg0:W0.heap[w.heap.size]?=some (.cells #[.string p.frm,.bool p.whole,.slice a2 p.ms.length c2,.slice a3 p.sv.length c3,.slice a4 p.gw.length c4,.slice a5 p.wh.length c5] 67 (0,0)):=by rw [hW0];exact heap_alloc_new w _
 obtain ⟨q0,q1,q2,q3,q4,q5⟩:=cells6 hg0
 have HB0:Hid (Below w.heap.size w W0):=hb0
 clear hg0 hb0
 generalize p.frm=pf at *
 generalize p.whole=pw at *
 generalize p.ms.length=k2 at *
 generalize p.sv.length=k3 at *
 generalize p.gw.length=k4 at *
 generalize p.wh.length=k5 at *
 go_enter Tryz.func150,Tryz.ntmps150
 go_upto_region 1 with fail
 rw [← hW0]
 clear hW0
 go_wp2_with fail
 refine (HW.out W0 HB0.out).mono ?_
 rintro e w1 ⟨rfl,hb1⟩
 have HB1:Hid (Below w.heap.size w w1):=HB0.out.trans (hb1.mono HB0.out.size)
 have y4:=HG.out w1 HB1.out
 clear hb1 HW HG
 go_wp2_with fail
 refine (HS.out w1 HB1.out).mono ?_
 rintro e w2 ⟨rfl,hm,hp⟩
 have HR:Hid (Mv C w w2∧∃ a k c,Plr C w2 g un (.slice a k c) (ls++[⟨v.other,tx⟩]) v):=⟨hm,hp⟩
 clear hm hp
 go_wp2_with fail
 go_ret
 exact ⟨rfl,HR.out⟩
def wholeP (n:Nd):Pk:=⟨n.name,true,n.ms,n.sv,n.gw,n.wh⟩
set_option maxHeartbeats 6400000 in
set_option maxRecDepth 100000 in
theorem tellAll_any (C g nb j:Nat) (ul:Value) (ls:List Lt.Ltr) (v:Ev) (L:List Nx) (w:World) (h:Plr C w g (.slice (some ⟨nb,0,none⟩) L.length L.length) ul ls v) (hN:NsOwn C w nb L) (hC:C≤w.heap.size) (h20:ls.length < 20) (hv:v.which=(j:Int)) (hj:j < L.length) (he:(L.getD j nx0).n.e=0) (hV:Rv w.heap.size w) (hWr:∀ W zm zs zg zw,Tab W.heap.size W→PkIs W (wholeP (L.getD j nx0).n) zm zs zg zw→Calls Tryz.prog 221 #[.agg #[.string (wholeP (L.getD j nx0).n).frm,.bool (wholeP (L.getD j nx0).n).whole,zm,zs,zg,zw]] W fun e w'=>e=.returned (.tuple #[.string (wholeP (L.getD j nx0).n).T,.int .i64 (wholeP (L.getD j nx0).n).e])∧Below W.heap.size W w') :
 Calls Tryz.prog 101 #[.pointer (some ⟨g,0,none⟩)] w fun e w'=>e=.returned (.int .i64 0)∧Mv C w w'∧∃ a k c,Plr C w' g (.slice (some ⟨nb,0,none⟩) L.length L.length) (.slice a k c) (ls++[⟨v.other,(wholeP (L.getD j nx0).n).T⟩]) v:=by
 have g0:w.cell? ⟨g,0,none⟩=some (.slice (some ⟨nb,0,none⟩) L.length L.length):=cellsAt h.hg 0
 have g3:w.cell? ⟨g,3,none⟩=some (.int .i64 (j:Int)):=by rw [← hv];exact cellsAt h.hg 3
 have HWHO:=who_own C g nb j L.length L.length L w hN hj rfl g0 g3
 have hI:NdIs w (L.getD j nx0).n (L.getD j nx0).vm (L.getD j nx0).vr (L.getD j nx0).vs (L.getD j nx0).vg (L.getD j nx0).vw:=(hN.own _ (nx_mem hj)).is (hN.ok _ (nx_mem hj))
 have hOk:=hN.ok _ (nx_mem hj)
 generalize L.getD j nx0=x at *
 have HWL:Hid (∀ W,Below w.heap.size w W→Calls Tryz.prog 31 #[.agg (ndA x.n x.vm x.vr x.vs x.vg x.vw)] W fun e w'=>Below W.heap.size W w'∧∃ a2 n2 c2 a3 n3 c3 a4 n4 c4 a5 n5 c5,e=.returned (.tuple #[.agg #[.string x.n.name,.bool true,.slice a2 n2 c2,.slice a3 n3 c3,.slice a4 n4 c4,.slice a5 n5 c5],.int .i64 0])∧Hid (PkIs w' (wholeP x.n) (.slice a2 n2 c2) (.slice a3 n3 c3) (.slice a4 n4 c4) (.slice a5 n5 c5))):=fun W hW=>by
  refine (Whole_any x.n x.vm x.vr x.vs x.vg x.vw W (hI.below hW)).mono ?_
  rintro e w' ⟨hb,⟨hne,_⟩ | ⟨_,um,us,ug,uw,rfl,h1,h2,h3,h4⟩⟩
  ·exact absurd he hne
  ·obtain ⟨a2,c2,e2⟩:=row_form h1
   obtain ⟨a3,c3,e3⟩:=row_form h2
   obtain ⟨a4,c4,e4⟩:=row_form h3
   obtain ⟨a5,c5,e5⟩:=row_form h4
   subst e2 e3 e4 e5
   exact ⟨hb,_,_,_,_,_,_,_,_,_,_,_,_,rfl,own_names h1 hOk.ms,Sv.own_names h2 hOk.sv,Gw.own_names h3 hOk.gw,Wh.own_names h4 hOk.wh,hOk.name,roomy_own h1⟩
 have HWR:Hid (∀ W a2 n2 c2 a3 n3 c3 a4 n4 c4 a5 n5 c5,Below w.heap.size w W→PkIs W (wholeP x.n) (.slice a2 n2 c2) (.slice a3 n3 c3) (.slice a4 n4 c4) (.slice a5 n5 c5)→Calls Tryz.prog 150 #[.pointer (some ⟨g,0,none⟩),.agg #[.string x.n.name,.bool true,.slice a2 n2 c2,.slice a3 n3 c3,.slice a4 n4 c4,.slice a5 n5 c5]] W fun e w'=>e=.returned (.int .i64 0)∧Hid (Mv C w w'∧∃ a k c,Plr C w' g (.slice (some ⟨nb,0,none⟩) L.length L.length) (.slice a k c) (ls++[⟨v.other,(wholeP x.n).T⟩]) v)):=fun W a2 n2 c2 a3 n3 c3 a4 n4 c4 a5 n5 c5 hW hx=>
  (write_any C g _ ul ls v (wholeP x.n) _ _ _ _ W (h.below hW) (Nat.le_trans hC hW.size) h20 hx hWr (hV.after hW).tab).mono (fun e w' hh=>⟨hh.1,(Mv.of hW hC).trans hh.2.1,hh.2.2⟩)
 clear h hN hv hI hOk hV g0 g3 he hWr
 generalize L.length=n at *
 generalize (wholeP x.n).T=tx at *
 obtain ⟨⟨nm,ct,ms,rs,sv,gw,⟨px,py,pz,ph,pq⟩,wh⟩,vm,vr,vs,vg,vw⟩:=x
 simp only [ndA] at HWHO HWL HWR
 go_enter Tryz.func101,Tryz.ntmps101
 go_wp2_with fail
 refine HWHO.mono ?_
 rintro e w1 ⟨rfl,hb1⟩
 have HB1:Hid (Below w.heap.size w w1):=hb1
 clear hb1 HWHO
 go_wp2_with fail
 refine (HWL.out w1 HB1.out).mono ?_
 rintro e w2 ⟨hb2,a2,n2,c2,a3,n3,c3,a4,n4,c4,a5,n5,c5,rfl,HPK⟩
 have HB2:Hid (Below w.heap.size w w2):=HB1.out.trans (hb2.mono HB1.out.size)
 clear hb2 HB1 HWL
 obtain ⟨W3,hW3⟩:∃ W3,W3=w2.alloc (.cells #[.string nm,.bool true,.slice a2 n2 c2,.slice a3 n3 c3,.slice a4 n4 c4,.slice a5 n5 c5] 67):=⟨_,rfl⟩
 have hb3:Below w2.heap.size w2 W3:=by rw [hW3];exact (Below.refl _ _).alloc (Nat.le_refl _) _
 have HB3:Hid (Below w.heap.size w W3):=HB2.out.trans (hb3.mono HB2.out.size)
 have HP3:Hid (PkIs W3 (wholeP ⟨nm,ct,ms,rs,sv,gw,⟨px,py,pz,ph,pq⟩,wh⟩) (.slice a2 n2 c2) (.slice a3 n3 c3) (.slice a4 n4 c4) (.slice a5 n5 c5)):=HPK.out.below hb3
 have hg3:W3.heap[w2.heap.size]?=some (.cells #[.string nm,.bool true,.slice a2 n2 c2,.slice a3 n3 c3,.slice a4 n4 c4,.slice a5 n5 c5] 67 (0,0)):=by rw [hW3];exact heap_alloc_new w2 _
 obtain ⟨q0,q1,q2,q3,q4,q5⟩:=cells6 hg3
 clear hb3 hg3 HB2 HPK
 go_wp2_with fail
 rw [← hW3]
 refine (HWR.out W3 _ _ _ _ _ _ _ _ _ _ _ _ HB3.out HP3.out).mono ?_
 rintro e w4 ⟨rfl,HR⟩
 clear hW3 q0 q1 q2 q3 q4 q5 HB3 HP3 HWR
 go_wp2_with fail
 go_ret
 exact ⟨rfl,HR.out⟩
end Go.Proofs.YtffdoiokmiklgaaGreatDoor
