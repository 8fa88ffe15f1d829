import Derived.Test.YtikgjgmgbfjcgaaGreatV38
namespace Go.Proofs.YtikgjgmgbfjcgaaGreat
open Go.RowKit
def nwE (nm ct:ByteArray) (ad:Int):Int:=if (labB nm && labB ct)=true then (if within ad 0 4294967295=true then 0 else 3) else 1
def nwN (nm ct:ByteArray) (ad:Int) (sv:Bool):Nd:=⟨nm,ct,[⟨nm,1,1,ad,sv⟩],[],[],[],⟨0,0,0,0,1000⟩,[]⟩
set_option maxHeartbeats 12800000 in
set_option maxRecDepth 100000 in
theorem New_any (nm ct:ByteArray) (ad:Int) (sv:Bool) (w:World) (hn:nm.size≤maxLen) (hc:ct.size≤maxLen) :
 Calls Tryz.prog 12 #[.string nm,.string ct,.int .i64 ad,.bool sv] w fun e w'=>OpSays (nwE nm ct ad) 0 (nwN nm ct ad sv) w e w':=by
 have HE:Hid (nwE nm ct ad=if (labB nm && labB ct)=true then (if within ad 0 4294967295=true then 0 else 3) else 1):=rfl
 obtain ⟨W1,hW1⟩:∃ W1,W1=(w.alloc (.cells #[.string ⟨#[]⟩,.string ⟨#[]⟩,.slice none 0 0,.slice none 0 0,.slice none 0 0,.slice none 0 0,.int .i64 0,.int .i64 0,.int .i64 0,.int .i64 0,.int .i64 0,.slice none 0 0] 30)).alloc (.cells #[.string nm,.string ct] 9):=⟨_,rfl⟩
 have hg1:W1.heap[w.heap.size+1]?=some (.cells #[.string nm,.string ct] 9 (0,0)):=by
  have h:=heap_alloc_new (w.alloc (.cells #[.string ⟨#[]⟩,.string ⟨#[]⟩,.slice none 0 0,.slice none 0 0,.slice none 0 0,.slice none 0 0,.int .i64 0,.int .i64 0,.int .i64 0,.int .i64 0,.int .i64 0,.slice none 0 0] 30)) (.cells #[.string nm,.string ct] 9)
  rw [hW1];simpa using h
 have hz1:W1.heap[w.heap.size]?=some (.cells #[.string ⟨#[]⟩,.string ⟨#[]⟩,.slice none 0 0,.slice none 0 0,.slice none 0 0,.slice none 0 0,.int .i64 0,.int .i64 0,.int .i64 0,.int .i64 0,.int .i64 0,.slice none 0 0] 30 (0,0)):=by
  rw [hW1,Below.heap_alloc _ _ _ (by simp)];exact heap_alloc_new w _
 have hs1:W1.heap.size=w.heap.size+2:=by rw [hW1];simp
 have HB1:Hid (Below w.heap.size w W1):=by rw [hW1];exact ((Below.refl _ _).alloc (Nat.le_refl _) _).alloc (by simp) _
 have HL:Hid (Calls Tryz.prog 41 #[.slice (some ⟨w.heap.size+1,0,none⟩) 2 2] W1 fun e w'=>e=.returned (.bool (labB nm && labB ct))∧w'=W1):=lab2_any nm ct hn hc _ 2 W1 (cellsAt hg1 0) (cellsAt hg1 1)
 have q0:W1.cell? ⟨w.heap.size,0,none⟩=_:=cellsAt hz1 0
 have qz0:W1.frozen? ⟨w.heap.size,0,none⟩=false:=frozen_of hz1 0
 have q1:W1.cell? ⟨w.heap.size,1,none⟩=_:=cellsAt hz1 1
 have qz1:W1.frozen? ⟨w.heap.size,1,none⟩=false:=frozen_of hz1 1
 have q2:W1.cell? ⟨w.heap.size,2,none⟩=_:=cellsAt hz1 2
 have qz2:W1.frozen? ⟨w.heap.size,2,none⟩=false:=frozen_of hz1 2
 have q3:W1.cell? ⟨w.heap.size,3,none⟩=_:=cellsAt hz1 3
 have qz3:W1.frozen? ⟨w.heap.size,3,none⟩=false:=frozen_of hz1 3
 have q4:W1.cell? ⟨w.heap.size,4,none⟩=_:=cellsAt hz1 4
 have qz4:W1.frozen? ⟨w.heap.size,4,none⟩=false:=frozen_of hz1 4
 have q5:W1.cell? ⟨w.heap.size,5,none⟩=_:=cellsAt hz1 5
 have qz5:W1.frozen? ⟨w.heap.size,5,none⟩=false:=frozen_of hz1 5
 have q6:W1.cell? ⟨w.heap.size,6,none⟩=_:=cellsAt hz1 6
 have qz6:W1.frozen? ⟨w.heap.size,6,none⟩=false:=frozen_of hz1 6
 have q7:W1.cell? ⟨w.heap.size,7,none⟩=_:=cellsAt hz1 7
 have qz7:W1.frozen? ⟨w.heap.size,7,none⟩=false:=frozen_of hz1 7
 have q8:W1.cell? ⟨w.heap.size,8,none⟩=_:=cellsAt hz1 8
 have qz8:W1.frozen? ⟨w.heap.size,8,none⟩=false:=frozen_of hz1 8
 have q9:W1.cell? ⟨w.heap.size,9,none⟩=_:=cellsAt hz1 9
 have qz9:W1.frozen? ⟨w.heap.size,9,none⟩=false:=frozen_of hz1 9
 have q10:W1.cell? ⟨w.heap.size,10,none⟩=_:=cellsAt hz1 10
 have qz10:W1.frozen? ⟨w.heap.size,10,none⟩=false:=frozen_of hz1 10
 have q11:W1.cell? ⟨w.heap.size,11,none⟩=_:=cellsAt hz1 11
 have qz11:W1.frozen? ⟨w.heap.size,11,none⟩=false:=frozen_of hz1 11
 have HZ1:Hid (W1.heap[w.heap.size]?=some (.cells #[.string ⟨#[]⟩,.string ⟨#[]⟩,.slice none 0 0,.slice none 0 0,.slice none 0 0,.slice none 0 0,.int .i64 0,.int .i64 0,.int .i64 0,.int .i64 0,.int .i64 0,.slice none 0 0] 30 (0,0))):=hz1
 have HS1:Hid (W1.heap.size=w.heap.size+2):=hs1
 have hlt1:w.heap.size < W1.heap.size:=by omega
 clear hg1 hz1 hs1
 generalize nwE nm ct ad=ne at *
 generalize (labB nm && labB ct)=lb at *
 go_enter Tryz.func12,Tryz.ntmps12
 go_wp2_with fail
 rw [← hW1]
 refine HL.out.mono ?_
 rintro e w1 ⟨rfl,hww⟩
 have hwq:=hww.symm
 subst hwq
 clear hW1 HL hww
 cases lb
 ·have HR:Hid (ne=1):=HE.out.trans (by simp)
  go_wp2_with fail
  refine bodyPost_ret (v:=.tuple #[.agg #[.string ⟨#[]⟩,.string ⟨#[]⟩,.slice none 0 0,.slice none 0 0,.slice none 0 0,.slice none 0 0,.int .i64 0,.int .i64 0,.int .i64 0,.int .i64 0,.int .i64 0,.slice none 0 0],.int .i64 1]) ?_ rfl ?_
  ·simp [results,Tryz.results12,go_sem,q0,q1,q2,q3,q4,q5,q6,q7,q8,q9,q10,q11]
  ·unfold OpSays
   exact ⟨((((((((((((HB1.out).setCell (p:=⟨w.heap.size,0,none⟩) (by simp) _).setCell (p:=⟨w.heap.size,1,none⟩) (by simp) _).setCell (p:=⟨w.heap.size,2,none⟩) (by simp) _).setCell (p:=⟨w.heap.size,3,none⟩) (by simp) _).setCell (p:=⟨w.heap.size,4,none⟩) (by simp) _).setCell (p:=⟨w.heap.size,5,none⟩) (by simp) _).setCell (p:=⟨w.heap.size,6,none⟩) (by simp) _).setCell (p:=⟨w.heap.size,7,none⟩) (by simp) _).setCell (p:=⟨w.heap.size,8,none⟩) (by simp) _).setCell (p:=⟨w.heap.size,9,none⟩) (by simp) _).setCell (p:=⟨w.heap.size,10,none⟩) (by simp) _).setCell (p:=⟨w.heap.size,11,none⟩) (by simp) _,.inl ⟨by rw [HR.out];simp,by rw [HR.out]⟩⟩
 rcases ha:within ad 0 4294967295 with _ | _
 ·have HR:Hid (ne=3):=HE.out.trans (by simp [ha])
  go_wp2_with (go_at_call 42;refine (address_any _ _).mono ?_;rintro e w' ⟨rfl,hx⟩;have hy:=hx.symm;subst hy;rw [ha])
  refine bodyPost_ret (v:=.tuple #[.agg #[.string ⟨#[]⟩,.string ⟨#[]⟩,.slice none 0 0,.slice none 0 0,.slice none 0 0,.slice none 0 0,.int .i64 0,.int .i64 0,.int .i64 0,.int .i64 0,.int .i64 0,.slice none 0 0],.int .i64 3]) ?_ rfl ?_
  ·simp [results,Tryz.results12,go_sem,q0,q1,q2,q3,q4,q5,q6,q7,q8,q9,q10,q11]
  ·unfold OpSays
   exact ⟨((((((((((((HB1.out).setCell (p:=⟨w.heap.size,0,none⟩) (by simp) _).setCell (p:=⟨w.heap.size,1,none⟩) (by simp) _).setCell (p:=⟨w.heap.size,2,none⟩) (by simp) _).setCell (p:=⟨w.heap.size,3,none⟩) (by simp) _).setCell (p:=⟨w.heap.size,4,none⟩) (by simp) _).setCell (p:=⟨w.heap.size,5,none⟩) (by simp) _).setCell (p:=⟨w.heap.size,6,none⟩) (by simp) _).setCell (p:=⟨w.heap.size,7,none⟩) (by simp) _).setCell (p:=⟨w.heap.size,8,none⟩) (by simp) _).setCell (p:=⟨w.heap.size,9,none⟩) (by simp) _).setCell (p:=⟨w.heap.size,10,none⟩) (by simp) _).setCell (p:=⟨w.heap.size,11,none⟩) (by simp) _,.inl ⟨by rw [HR.out];simp,by rw [HR.out]⟩⟩
 have HR:Hid (ne=0):=HE.out.trans (by simp [ha])
 have HEV:Hid (∀ V:World,V.heap.size=W1.heap.size→((V.alloc (.cells #[.string nm,.int .i64 1,.int .i64 1,.int .i64 ad,.bool sv] 37)).alloc (.cells #[.string nm,.int .i64 1,.int .i64 1,.int .i64 ad,.bool sv] 37)).heap[W1.heap.size+1]?=some (.cells #[.string nm,.int .i64 1,.int .i64 1,.int .i64 ad,.bool sv] 37 (0,0))):=fun V hV=>by
  have h:=heap_alloc_new (V.alloc (.cells #[.string nm,.int .i64 1,.int .i64 1,.int .i64 ad,.bool sv] 37)) (.cells #[.string nm,.int .i64 1,.int .i64 1,.int .i64 ad,.bool sv] 37)
  rw [show (V.alloc (.cells #[.string nm,.int .i64 1,.int .i64 1,.int .i64 ad,.bool sv] 37)).heap.size=W1.heap.size+1 by simp [hV]] at h
  exact h
 go_wp2_with (go_at_call 42;refine (address_any _ _).mono ?_;rintro e w' ⟨rfl,hx⟩;have hy:=hx.symm;subst hy;rw [ha])
 refine bodyPost_ret (v:=.tuple #[.agg #[.string nm,.string ct,.slice (some ⟨W1.heap.size+1,0,none⟩) 1 1,.slice none 0 0,.slice none 0 0,.slice none 0 0,.int .i64 0,.int .i64 0,.int .i64 0,.int .i64 0,.int .i64 1000,.slice none 0 0],.int .i64 0]) ?_ rfl ?_
 ·simp [results,Tryz.results12,go_sem,hlt1,q0,q1,q2,q3,q4,q5,q6,q7,q8,q9,q10,q11]
 ·unfold OpSays
  refine ⟨((((((((((((((HB1.out).setCell (p:=⟨w.heap.size,0,none⟩) (by simp) _).setCell (p:=⟨w.heap.size,1,none⟩) (by simp) _).setCell (p:=⟨w.heap.size,2,none⟩) (by simp) _).setCell (p:=⟨w.heap.size,3,none⟩) (by simp) _).setCell (p:=⟨w.heap.size,4,none⟩) (by simp) _).setCell (p:=⟨w.heap.size,5,none⟩) (by simp) _).setCell (p:=⟨w.heap.size,6,none⟩) (by simp) _).setCell (p:=⟨w.heap.size,7,none⟩) (by simp) _).setCell (p:=⟨w.heap.size,8,none⟩) (by simp) _).setCell (p:=⟨w.heap.size,9,none⟩) (by simp) _).setCell (p:=⟨w.heap.size,10,none⟩) (by simp) _).setCell (p:=⟨w.heap.size,11,none⟩) (by simp) _).alloc (by simp [World.setCell];omega) _).alloc (by simp [World.setCell];omega) _,.inr (.inr ⟨HR.out,rfl,_,_,_,_,_,rfl,⟨?_,rown_nil _ _,Sv.own_nil _ _,Gw.own_nil _ _,Wh.own_nil _ _⟩,?_⟩)⟩
  ·exact own_of (ms:=[⟨nm,1,1,ad,sv⟩]) (G:=1) (cur:=#[.string nm,.int .i64 1,.int .i64 1,.int .i64 ad,.bool sv]) (by omega) (HEV.out _ (by simp [World.setCell])) rfl (by simp) (by unfold maxLen;omega) rfl
  ·exact ⟨fun m hm=>by simp [nwN] at hm;subst hm;exact hn,fun r hr=>by simp [nwN] at hr,fun r hr=>by simp [nwN] at hr,fun r hr=>by simp [nwN] at hr,fun r hr=>by simp [nwN] at hr,hn,hc⟩
end Go.Proofs.YtikgjgmgbfjcgaaGreat
