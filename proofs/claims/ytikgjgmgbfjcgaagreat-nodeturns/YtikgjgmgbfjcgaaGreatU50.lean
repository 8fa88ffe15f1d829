import Derived.Test.YtikgjgmgbfjcgaaGreatU43
import Derived.Test.YtikgjgmgbfjcgaaGreatU48
import Derived.Test.YtikgjgmgbfjcgaaGreatU36
import Derived.Test.YtikgjgmgbfjcgaaGreatU29
import Derived.Test.YtikgjgmgbfjcgaaGreatU49
namespace Go.Proofs.YtikgjgmgbfjcgaaGreat
open Go.RowKit
set_option maxHeartbeats 6400000 in
set_option maxRecDepth 100000 in
theorem ended_any (t0 t1:ByteArray) (p2 p3 p4 p5 p11:Option Addr) (k2 c2 k3 c3 k4 c4 k5 c5 k11 c11:Nat) (i6 i7 i8 i9 i10:Int) (er:Int) (w:World) :
 Calls Tryz.prog 79 #[.agg #[.string t0,.string t1,.slice p2 k2 c2,.slice p3 k3 c3,.slice p4 k4 c4,.slice p5 k5 c5,.int .i64 i6,.int .i64 i7,.int .i64 i8,.int .i64 i9,.int .i64 i10,.slice p11 k11 c11],.int .i64 er] w fun e w'=>e=.returned (.tuple #[.agg (if er=0 then (#[.string t0,.string t1,.slice p2 k2 c2,.slice p3 k3 c3,.slice p4 k4 c4,.slice p5 k5 c5,.int .i64 i6,.int .i64 i7,.int .i64 i8,.int .i64 i9,.int .i64 i10,.slice p11 k11 c11]:Array Value) else #[.string ⟨#[]⟩,.string ⟨#[]⟩,.slice none 0 0,.slice none 0 0,.slice none 0 0,.slice none 0 0,.int .i64 0,.int .i64 0,.int .i64 0,.int .i64 0,.int .i64 0,.slice none 0 0]),.int .i64 er])∧Below w.heap.size w w':=by
 have HBB:Hid (∀ A B,Below w.heap.size w ((w.alloc A).alloc B)):=fun A B=>((Below.refl w.heap.size w).alloc (Nat.le_refl _) _).alloc (by simp) _
 by_cases he:er=0
 ·have hE:(er != 0)=false:=by simp [he]
  have HIF:Hid ((if er=0 then (#[.string t0,.string t1,.slice p2 k2 c2,.slice p3 k3 c3,.slice p4 k4 c4,.slice p5 k5 c5,.int .i64 i6,.int .i64 i7,.int .i64 i8,.int .i64 i9,.int .i64 i10,.slice p11 k11 c11]:Array Value) else #[.string ⟨#[]⟩,.string ⟨#[]⟩,.slice none 0 0,.slice none 0 0,.slice none 0 0,.slice none 0 0,.int .i64 0,.int .i64 0,.int .i64 0,.int .i64 0,.int .i64 0,.slice none 0 0])=#[.string t0,.string t1,.slice p2 k2 c2,.slice p3 k3 c3,.slice p4 k4 c4,.slice p5 k5 c5,.int .i64 i6,.int .i64 i7,.int .i64 i8,.int .i64 i9,.int .i64 i10,.slice p11 k11 c11]):=if_pos he
  rw [HIF.out]
  clear he
  go_enter Tryz.func79,Tryz.ntmps79
  go_wp2_with fail
  refine bodyPost_ret (v:=.tuple #[.agg #[.string t0,.string t1,.slice p2 k2 c2,.slice p3 k3 c3,.slice p4 k4 c4,.slice p5 k5 c5,.int .i64 i6,.int .i64 i7,.int .i64 i8,.int .i64 i9,.int .i64 i10,.slice p11 k11 c11],.int .i64 er]) ?_ rfl ?_
  ·simp [results,Tryz.results79,go_sem]
  ·exact ⟨rfl,HBB.out _ _⟩
 ·have hE:(er != 0)=true:=by simpa using he
  have HIF:Hid ((if er=0 then (#[.string t0,.string t1,.slice p2 k2 c2,.slice p3 k3 c3,.slice p4 k4 c4,.slice p5 k5 c5,.int .i64 i6,.int .i64 i7,.int .i64 i8,.int .i64 i9,.int .i64 i10,.slice p11 k11 c11]:Array Value) else #[.string ⟨#[]⟩,.string ⟨#[]⟩,.slice none 0 0,.slice none 0 0,.slice none 0 0,.slice none 0 0,.int .i64 0,.int .i64 0,.int .i64 0,.int .i64 0,.int .i64 0,.slice none 0 0])=#[.string ⟨#[]⟩,.string ⟨#[]⟩,.slice none 0 0,.slice none 0 0,.slice none 0 0,.slice none 0 0,.int .i64 0,.int .i64 0,.int .i64 0,.int .i64 0,.int .i64 0,.slice none 0 0]):=if_neg he
  rw [HIF.out]
  clear he
  go_enter Tryz.func79,Tryz.ntmps79
  go_wp2_with fail
  refine bodyPost_ret (v:=.tuple #[.agg #[.string ⟨#[]⟩,.string ⟨#[]⟩,.slice none 0 0,.slice none 0 0,.slice none 0 0,.slice none 0 0,.int .i64 0,.int .i64 0,.int .i64 0,.int .i64 0,.int .i64 0,.slice none 0 0],.int .i64 er]) ?_ rfl ?_
  ·simp [results,Tryz.results79,go_sem]
  ·exact ⟨rfl,HBB.out _ _⟩
set_option maxHeartbeats 51200000 in
set_option maxRecDepth 100000 in
theorem turnOf_is (n:Nd) (t:ByteArray) (frm to:Int) (A:Array Value) (w:World) (h:IsNd w n A) (he:n.e=0) (ht:t.size≤maxLen) (hto:within to 1 4=true) :
 Calls Tryz.prog 29 #[.agg A,.string t,.int .i64 frm,.int .i64 to] w fun e w'=>∃ C,e=.returned (.tuple #[.agg C,.int .i64 (wsE n t frm to)])∧Res w' (wsE n t frm to) (wsN n t to) C∧Below w.heap.size w w':=by
 have hp:=Nd.parts (Nd.e_zero he).1
 have hok:=h.ok
 obtain ⟨me,hme,_⟩:=Nd.wE_zero (Nd.e_zero he).2
 have HN0:Hid (IsNd w n A):=h
 obtain ⟨vm,vr,vs,vg,vw,hA,hi⟩:=h
 obtain ⟨t0a,t1a,p2a,k2a,c2a,p3a,k3a,c3a,p4a,k4a,c4a,p5a,k5a,c5a,i6a,i7a,i8a,i9a,i10a,p11a,k11a,c11a,rfl⟩:=HN0.out.letters
 simp only [ndV,ndA,Array.mk.injEq,List.cons.injEq,and_true] at hA
 obtain ⟨e0,e1,e2,e3,e4,e5,e6,e7,e8,e9,e10,e11⟩:=hA
 clear e1 e3 e4 e5 e6 e7 e8 e9 e10 e11
 injection e0 with e0
 simp only [ndV] at HN0 ⊢
 have hlen:n.ms.length≤20:=(chk_zero hp.ms).1
 have HMA:Hid (∀ W,Below w.heap.size w W→Calls Tryz.prog 52 #[.slice p2a k2a c2a,.string t] W fun e w'=>∃ r:Int,e=.returned (.int .i64 r)∧Hid (AtF n.ms t r)∧w'=W):=fun W hW=>by
  rw [e2];exact memAt_any n.ms vm t W (hi.ms.below hW) (by omega)
 have HSLM:Hid (Sl w (.slice p2a k2a c2a) n.ms):=by rw [e2];exact hi.ms
 have HSP:Hid ((fstM n.ms t).isSome=true→∀ W,Below w.heap.size w W→Calls Tryz.prog 69 #[.agg #[.string t0a,.string t1a,.slice p2a k2a c2a,.slice p3a k3a c3a,.slice p4a k4a c4a,.slice p5a k5a c5a,.int .i64 i6a,.int .i64 i7a,.int .i64 i8a,.int .i64 i9a,.int .i64 i10a,.slice p11a k11a c11a],.agg #[.string (mOf n.ms t).name,.int .i64 to,.int .i64 (mOf n.ms t).life,.int .i64 (mOf n.ms t).addr,.bool (mOf n.ms t).server]] W fun e w'=>∃ C n1,e=.returned (.tuple #[.agg C,.int .i64 (spE n { mOf n.ms t with state:=to })])∧IsNd w' n1 C∧(spE n { mOf n.ms t with state:=to }=0→n1=wsN n t to)∧Below W.heap.size W w'):=fun hs W hW=>by
  obtain ⟨g1,g2⟩:=mOf_mem hs
  have hx:=(mem_e0 _).1 (chk_e0 hp.ms _ g1)
  exact spreadOf_is n { mOf n.ms t with state:=to } _ W (HN0.out.below hW) he ((mem_e0 _).2 ⟨hx.1,hto,hx.2.2.1,hx.2.2.2⟩) (show (mOf n.ms t).name.size≤maxLen from hok.ms _ g1)
 have HE:Hid (wsE n t frm to=if labB t=true then (if (fstM n.ms t).isSome=true then (if t=n.name then 6 else if (mOf n.ms t).state=frm then spE n { mOf n.ms t with state:=to } else 4) else 5) else 1):=rfl
 have HME:Hid (t=t0a→(fstM n.ms t).isSome=true):=fun h=>by rw [h,e0,hme];rfl
 have HTN:Hid (t=n.name↔t=t0a):=by rw [e0];exact Iff.rfl
 have HMO:Hid (∀ q,fstM n.ms t=some q→mOf n.ms t=q):=fun q h=>mOf_some h
 generalize wsE n t frm to=SE at *
 generalize wsN n t to=SN at *
 generalize spE n { mOf n.ms t with state:=to }=XE at *
 clear hp hok hme e0 e2 hi he
 obtain ⟨W0,hW0⟩:∃ W0,W0=(w.alloc (.cells #[.string t0a,.string t1a,.slice p2a k2a c2a,.slice p3a k3a c3a,.slice p4a k4a c4a,.slice p5a k5a c5a,.int .i64 i6a,.int .i64 i7a,.int .i64 i8a,.int .i64 i9a,.int .i64 i10a,.slice p11a k11a c11a] 30)).alloc (.cells #[.string ⟨#[]⟩,.string ⟨#[]⟩,.slice none 0 0,.slice none 0 0,.slice none 0 0,.slice none 0 0,.int .i64 0,.int .i64 0,.int .i64 0,.int .i64 0,.int .i64 0,.slice none 0 0] 30):=⟨_,rfl⟩
 have hb0:Below w.heap.size w W0:=by rw [hW0];exact ((Below.refl _ _).alloc (Nat.le_refl _) _).alloc (by simp) _
 have hg0:W0.heap[w.heap.size]?=some (.cells #[.string t0a,.string t1a,.slice p2a k2a c2a,.slice p3a k3a c3a,.slice p4a k4a c4a,.slice p5a k5a c5a,.int .i64 i6a,.int .i64 i7a,.int .i64 i8a,.int .i64 i9a,.int .i64 i10a,.slice p11a k11a c11a] 30 (0,0)):=by rw [hW0,Below.heap_alloc _ _ _ (by simp)];exact heap_alloc_new w _
 have hz0:W0.heap[w.heap.size+1]?=some (.cells #[.string ⟨#[]⟩,.string ⟨#[]⟩,.slice none 0 0,.slice none 0 0,.slice none 0 0,.slice none 0 0,.int .i64 0,.int .i64 0,.int .i64 0,.int .i64 0,.int .i64 0,.slice none 0 0] 30 (0,0)):=by
  have h:=heap_alloc_new (w.alloc (.cells #[.string t0a,.string t1a,.slice p2a k2a c2a,.slice p3a k3a c3a,.slice p4a k4a c4a,.slice p5a k5a c5a,.int .i64 i6a,.int .i64 i7a,.int .i64 i8a,.int .i64 i9a,.int .i64 i10a,.slice p11a k11a c11a] 30)) (.cells #[.string ⟨#[]⟩,.string ⟨#[]⟩,.slice none 0 0,.slice none 0 0,.slice none 0 0,.slice none 0 0,.int .i64 0,.int .i64 0,.int .i64 0,.int .i64 0,.int .i64 0,.slice none 0 0] 30)
  rw [hW0];simpa using h
 have hs0:w.heap.size+1 < W0.heap.size:=by rw [hW0];simp
 have a0:W0.cell? ⟨w.heap.size,0,none⟩=some (.string t0a):=cellsAt hg0 0
 have a1:W0.cell? ⟨w.heap.size,1,none⟩=some (.string t1a):=cellsAt hg0 1
 have a2:W0.cell? ⟨w.heap.size,2,none⟩=some (.slice p2a k2a c2a):=cellsAt hg0 2
 have a3:W0.cell? ⟨w.heap.size,3,none⟩=some (.slice p3a k3a c3a):=cellsAt hg0 3
 have a4:W0.cell? ⟨w.heap.size,4,none⟩=some (.slice p4a k4a c4a):=cellsAt hg0 4
 have a5:W0.cell? ⟨w.heap.size,5,none⟩=some (.slice p5a k5a c5a):=cellsAt hg0 5
 have a6:W0.cell? ⟨w.heap.size,6,none⟩=some (.int .i64 i6a):=cellsAt hg0 6
 have a7:W0.cell? ⟨w.heap.size,7,none⟩=some (.int .i64 i7a):=cellsAt hg0 7
 have a8:W0.cell? ⟨w.heap.size,8,none⟩=some (.int .i64 i8a):=cellsAt hg0 8
 have a9:W0.cell? ⟨w.heap.size,9,none⟩=some (.int .i64 i9a):=cellsAt hg0 9
 have a10:W0.cell? ⟨w.heap.size,10,none⟩=some (.int .i64 i10a):=cellsAt hg0 10
 have a11:W0.cell? ⟨w.heap.size,11,none⟩=some (.slice p11a k11a c11a):=cellsAt hg0 11
 have z0:W0.cell? ⟨w.heap.size+1,0,none⟩=some (.string ⟨#[]⟩):=cellsAt hz0 0
 have zz0:W0.frozen? ⟨w.heap.size+1,0,none⟩=false:=frozen_of hz0 0
 have z1:W0.cell? ⟨w.heap.size+1,1,none⟩=some (.string ⟨#[]⟩):=cellsAt hz0 1
 have zz1:W0.frozen? ⟨w.heap.size+1,1,none⟩=false:=frozen_of hz0 1
 have z2:W0.cell? ⟨w.heap.size+1,2,none⟩=some (.slice none 0 0):=cellsAt hz0 2
 have zz2:W0.frozen? ⟨w.heap.size+1,2,none⟩=false:=frozen_of hz0 2
 have z3:W0.cell? ⟨w.heap.size+1,3,none⟩=some (.slice none 0 0):=cellsAt hz0 3
 have zz3:W0.frozen? ⟨w.heap.size+1,3,none⟩=false:=frozen_of hz0 3
 have z4:W0.cell? ⟨w.heap.size+1,4,none⟩=some (.slice none 0 0):=cellsAt hz0 4
 have zz4:W0.frozen? ⟨w.heap.size+1,4,none⟩=false:=frozen_of hz0 4
 have z5:W0.cell? ⟨w.heap.size+1,5,none⟩=some (.slice none 0 0):=cellsAt hz0 5
 have zz5:W0.frozen? ⟨w.heap.size+1,5,none⟩=false:=frozen_of hz0 5
 have z6:W0.cell? ⟨w.heap.size+1,6,none⟩=some (.int .i64 0):=cellsAt hz0 6
 have zz6:W0.frozen? ⟨w.heap.size+1,6,none⟩=false:=frozen_of hz0 6
 have z7:W0.cell? ⟨w.heap.size+1,7,none⟩=some (.int .i64 0):=cellsAt hz0 7
 have zz7:W0.frozen? ⟨w.heap.size+1,7,none⟩=false:=frozen_of hz0 7
 have z8:W0.cell? ⟨w.heap.size+1,8,none⟩=some (.int .i64 0):=cellsAt hz0 8
 have zz8:W0.frozen? ⟨w.heap.size+1,8,none⟩=false:=frozen_of hz0 8
 have z9:W0.cell? ⟨w.heap.size+1,9,none⟩=some (.int .i64 0):=cellsAt hz0 9
 have zz9:W0.frozen? ⟨w.heap.size+1,9,none⟩=false:=frozen_of hz0 9
 have z10:W0.cell? ⟨w.heap.size+1,10,none⟩=some (.int .i64 0):=cellsAt hz0 10
 have zz10:W0.frozen? ⟨w.heap.size+1,10,none⟩=false:=frozen_of hz0 10
 have z11:W0.cell? ⟨w.heap.size+1,11,none⟩=some (.slice none 0 0):=cellsAt hz0 11
 have zz11:W0.frozen? ⟨w.heap.size+1,11,none⟩=false:=frozen_of hz0 11
 have HB0:Hid (Below w.heap.size w W0):=hb0
 have HGA0:Hid (W0.heap[w.heap.size]?=some (.cells #[.string t0a,.string t1a,.slice p2a k2a c2a,.slice p3a k3a c3a,.slice p4a k4a c4a,.slice p5a k5a c5a,.int .i64 i6a,.int .i64 i7a,.int .i64 i8a,.int .i64 i9a,.int .i64 i10a,.slice p11a k11a c11a] 30 (0,0))):=hg0
 have HZ0:Hid (W0.heap[w.heap.size+1]?=some (.cells #[.string ⟨#[]⟩,.string ⟨#[]⟩,.slice none 0 0,.slice none 0 0,.slice none 0 0,.slice none 0 0,.int .i64 0,.int .i64 0,.int .i64 0,.int .i64 0,.int .i64 0,.slice none 0 0] 30 (0,0))):=hz0
 clear hb0 hg0 hz0
 go_enter Tryz.func29,Tryz.ntmps29
 go_upto_region 1 with fail
 rw [← hW0]
 clear hW0
 go_wp2_with fail
 refine (HMA.out W0 HB0.out).mono ?_
 rintro e w' ⟨r,rfl,HAT,hww⟩
 have hwq:=hww.symm
 subst hwq
 rcases hlab:labB t with _ | _
 ·have HSE:Hid (SE=1):=HE.out.trans (by rw [hlab];rfl)
  obtain ⟨WF,hWF⟩:∃ WF,WF=((((((((((((W0.setCell ⟨w.heap.size+1,0,none⟩ (.string ⟨#[]⟩)).setCell ⟨w.heap.size+1,1,none⟩ (.string ⟨#[]⟩)).setCell ⟨w.heap.size+1,2,none⟩ (.slice none 0 0)).setCell ⟨w.heap.size+1,3,none⟩ (.slice none 0 0)).setCell ⟨w.heap.size+1,4,none⟩ (.slice none 0 0)).setCell ⟨w.heap.size+1,5,none⟩ (.slice none 0 0)).setCell ⟨w.heap.size+1,6,none⟩ (.int .i64 0)).setCell ⟨w.heap.size+1,7,none⟩ (.int .i64 0)).setCell ⟨w.heap.size+1,8,none⟩ (.int .i64 0)).setCell ⟨w.heap.size+1,9,none⟩ (.int .i64 0)).setCell ⟨w.heap.size+1,10,none⟩ (.int .i64 0)).setCell ⟨w.heap.size+1,11,none⟩ (.slice none 0 0)):=⟨_,rfl⟩
  have hF:WF=setAll (w.heap.size+1) [.string ⟨#[]⟩,.string ⟨#[]⟩,.slice none 0 0,.slice none 0 0,.slice none 0 0,.slice none 0 0,.int .i64 0,.int .i64 0,.int .i64 0,.int .i64 0,.int .i64 0,.slice none 0 0] 0 W0:=by rw [hWF];simp only [setAll,Nat.zero_add,Nat.reduceAdd]
  have hzF:WF.heap[w.heap.size+1]?=some (.cells #[.string ⟨#[]⟩,.string ⟨#[]⟩,.slice none 0 0,.slice none 0 0,.slice none 0 0,.slice none 0 0,.int .i64 0,.int .i64 0,.int .i64 0,.int .i64 0,.int .i64 0,.slice none 0 0] 30 (0,0)):=by rw [hF];exact setAll12 HZ0.out _ _ _ _ _ _ _ _ _ _ _ _
  have HBF:Hid (Below w.heap.size w WF):=by rw [hF];exact setAll_below (by omega) _ _ HB0.out
  clear hF
  go_wp2_with (first | (go_at_call 13;refine (isLabel_any _ _ ht).mono ?_;rintro e w' ⟨rfl,hww⟩;have hwq:=hww.symm;subst hwq;rw [hlab]) | fail)
  rw [← hWF]
  clear hWF a0 a1 a2 a3 a4 a5 a6 a7 a8 a9 a10 a11 z0 zz0 z1 zz1 z2 zz2 z3 zz3 z4 zz4 z5 zz5 z6 zz6 z7 zz7 z8 zz8 z9 zz9 z10 zz10 z11 zz11
  have z0:WF.cell? ⟨w.heap.size+1,0,none⟩=some (.string ⟨#[]⟩):=cellsAt hzF 0
  have z1:WF.cell? ⟨w.heap.size+1,1,none⟩=some (.string ⟨#[]⟩):=cellsAt hzF 1
  have z2:WF.cell? ⟨w.heap.size+1,2,none⟩=some (.slice none 0 0):=cellsAt hzF 2
  have z3:WF.cell? ⟨w.heap.size+1,3,none⟩=some (.slice none 0 0):=cellsAt hzF 3
  have z4:WF.cell? ⟨w.heap.size+1,4,none⟩=some (.slice none 0 0):=cellsAt hzF 4
  have z5:WF.cell? ⟨w.heap.size+1,5,none⟩=some (.slice none 0 0):=cellsAt hzF 5
  have z6:WF.cell? ⟨w.heap.size+1,6,none⟩=some (.int .i64 0):=cellsAt hzF 6
  have z7:WF.cell? ⟨w.heap.size+1,7,none⟩=some (.int .i64 0):=cellsAt hzF 7
  have z8:WF.cell? ⟨w.heap.size+1,8,none⟩=some (.int .i64 0):=cellsAt hzF 8
  have z9:WF.cell? ⟨w.heap.size+1,9,none⟩=some (.int .i64 0):=cellsAt hzF 9
  have z10:WF.cell? ⟨w.heap.size+1,10,none⟩=some (.int .i64 0):=cellsAt hzF 10
  have z11:WF.cell? ⟨w.heap.size+1,11,none⟩=some (.slice none 0 0):=cellsAt hzF 11
  refine bodyPost_ret (v:=.tuple #[.agg #[.string ⟨#[]⟩,.string ⟨#[]⟩,.slice none 0 0,.slice none 0 0,.slice none 0 0,.slice none 0 0,.int .i64 0,.int .i64 0,.int .i64 0,.int .i64 0,.int .i64 0,.slice none 0 0],.int .i64 1]) ?_ rfl ?_
  ·simp [results,Tryz.results29,go_sem,z0,z1,z2,z3,z4,z5,z6,z7,z8,z9,z10,z11]
  ·exact ⟨_,(by rw [HSE.out];rfl),.inl ⟨(by rw [HSE.out];decide),rfl⟩,HBF.out⟩
 have HE2:Hid (SE=if (fstM n.ms t).isSome=true then (if t=n.name then 6 else if (mOf n.ms t).state=frm then XE else 4) else 5):=HE.out.trans (by rw [hlab];rfl)
 clear HE
 by_cases hnm:t=t0a
 ·have HSE:Hid (SE=6):=HE2.out.trans (by rw [if_pos (HME.out hnm),if_pos (HTN.out.2 hnm)])
  have hq:(t.toList == t0a.toList)=true:=by rw [hnm];simp
  have hq2:t.toList=t0a.toList:=by rw [hnm]
  clear hnm HE2
  obtain ⟨WF,hWF⟩:∃ WF,WF=((((((((((((W0.setCell ⟨w.heap.size+1,0,none⟩ (.string ⟨#[]⟩)).setCell ⟨w.heap.size+1,1,none⟩ (.string ⟨#[]⟩)).setCell ⟨w.heap.size+1,2,none⟩ (.slice none 0 0)).setCell ⟨w.heap.size+1,3,none⟩ (.slice none 0 0)).setCell ⟨w.heap.size+1,4,none⟩ (.slice none 0 0)).setCell ⟨w.heap.size+1,5,none⟩ (.slice none 0 0)).setCell ⟨w.heap.size+1,6,none⟩ (.int .i64 0)).setCell ⟨w.heap.size+1,7,none⟩ (.int .i64 0)).setCell ⟨w.heap.size+1,8,none⟩ (.int .i64 0)).setCell ⟨w.heap.size+1,9,none⟩ (.int .i64 0)).setCell ⟨w.heap.size+1,10,none⟩ (.int .i64 0)).setCell ⟨w.heap.size+1,11,none⟩ (.slice none 0 0)):=⟨_,rfl⟩
  have hF:WF=setAll (w.heap.size+1) [.string ⟨#[]⟩,.string ⟨#[]⟩,.slice none 0 0,.slice none 0 0,.slice none 0 0,.slice none 0 0,.int .i64 0,.int .i64 0,.int .i64 0,.int .i64 0,.int .i64 0,.slice none 0 0] 0 W0:=by rw [hWF];simp only [setAll,Nat.zero_add,Nat.reduceAdd]
  have hzF:WF.heap[w.heap.size+1]?=some (.cells #[.string ⟨#[]⟩,.string ⟨#[]⟩,.slice none 0 0,.slice none 0 0,.slice none 0 0,.slice none 0 0,.int .i64 0,.int .i64 0,.int .i64 0,.int .i64 0,.int .i64 0,.slice none 0 0] 30 (0,0)):=by rw [hF];exact setAll12 HZ0.out _ _ _ _ _ _ _ _ _ _ _ _
  have HBF:Hid (Below w.heap.size w WF):=by rw [hF];exact setAll_below (by omega) _ _ HB0.out
  clear hF
  go_wp2_with (first | (go_at_call 13;refine (isLabel_any _ _ ht).mono ?_;rintro e w' ⟨rfl,hww⟩;have hwq:=hww.symm;subst hwq;rw [hlab]) | fail)
  rw [← hWF]
  clear hWF a0 a1 a2 a3 a4 a5 a6 a7 a8 a9 a10 a11 z0 zz0 z1 zz1 z2 zz2 z3 zz3 z4 zz4 z5 zz5 z6 zz6 z7 zz7 z8 zz8 z9 zz9 z10 zz10 z11 zz11
  have z0:WF.cell? ⟨w.heap.size+1,0,none⟩=some (.string ⟨#[]⟩):=cellsAt hzF 0
  have z1:WF.cell? ⟨w.heap.size+1,1,none⟩=some (.string ⟨#[]⟩):=cellsAt hzF 1
  have z2:WF.cell? ⟨w.heap.size+1,2,none⟩=some (.slice none 0 0):=cellsAt hzF 2
  have z3:WF.cell? ⟨w.heap.size+1,3,none⟩=some (.slice none 0 0):=cellsAt hzF 3
  have z4:WF.cell? ⟨w.heap.size+1,4,none⟩=some (.slice none 0 0):=cellsAt hzF 4
  have z5:WF.cell? ⟨w.heap.size+1,5,none⟩=some (.slice none 0 0):=cellsAt hzF 5
  have z6:WF.cell? ⟨w.heap.size+1,6,none⟩=some (.int .i64 0):=cellsAt hzF 6
  have z7:WF.cell? ⟨w.heap.size+1,7,none⟩=some (.int .i64 0):=cellsAt hzF 7
  have z8:WF.cell? ⟨w.heap.size+1,8,none⟩=some (.int .i64 0):=cellsAt hzF 8
  have z9:WF.cell? ⟨w.heap.size+1,9,none⟩=some (.int .i64 0):=cellsAt hzF 9
  have z10:WF.cell? ⟨w.heap.size+1,10,none⟩=some (.int .i64 0):=cellsAt hzF 10
  have z11:WF.cell? ⟨w.heap.size+1,11,none⟩=some (.slice none 0 0):=cellsAt hzF 11
  refine bodyPost_ret (v:=.tuple #[.agg #[.string ⟨#[]⟩,.string ⟨#[]⟩,.slice none 0 0,.slice none 0 0,.slice none 0 0,.slice none 0 0,.int .i64 0,.int .i64 0,.int .i64 0,.int .i64 0,.int .i64 0,.slice none 0 0],.int .i64 6]) ?_ rfl ?_
  ·simp [results,Tryz.results29,go_sem,z0,z1,z2,z3,z4,z5,z6,z7,z8,z9,z10,z11]
  ·exact ⟨_,(by rw [HSE.out];rfl),.inl ⟨(by rw [HSE.out];decide),rfl⟩,HBF.out⟩
 have hq:(t.toList == t0a.toList)=false:=by rw [beq_names,decide_eq_false hnm]
 rcases HAT.out with ⟨k,hk,rfl,hf⟩ | ⟨rfl,hf⟩
 rotate_left
 ·have HSE:Hid (SE=5):=HE2.out.trans (by rw [hf];rfl)
  clear hnm HE2 hf
  obtain ⟨WF,hWF⟩:∃ WF,WF=((((((((((((W0.setCell ⟨w.heap.size+1,0,none⟩ (.string ⟨#[]⟩)).setCell ⟨w.heap.size+1,1,none⟩ (.string ⟨#[]⟩)).setCell ⟨w.heap.size+1,2,none⟩ (.slice none 0 0)).setCell ⟨w.heap.size+1,3,none⟩ (.slice none 0 0)).setCell ⟨w.heap.size+1,4,none⟩ (.slice none 0 0)).setCell ⟨w.heap.size+1,5,none⟩ (.slice none 0 0)).setCell ⟨w.heap.size+1,6,none⟩ (.int .i64 0)).setCell ⟨w.heap.size+1,7,none⟩ (.int .i64 0)).setCell ⟨w.heap.size+1,8,none⟩ (.int .i64 0)).setCell ⟨w.heap.size+1,9,none⟩ (.int .i64 0)).setCell ⟨w.heap.size+1,10,none⟩ (.int .i64 0)).setCell ⟨w.heap.size+1,11,none⟩ (.slice none 0 0)):=⟨_,rfl⟩
  have hF:WF=setAll (w.heap.size+1) [.string ⟨#[]⟩,.string ⟨#[]⟩,.slice none 0 0,.slice none 0 0,.slice none 0 0,.slice none 0 0,.int .i64 0,.int .i64 0,.int .i64 0,.int .i64 0,.int .i64 0,.slice none 0 0] 0 W0:=by rw [hWF];simp only [setAll,Nat.zero_add,Nat.reduceAdd]
  have hzF:WF.heap[w.heap.size+1]?=some (.cells #[.string ⟨#[]⟩,.string ⟨#[]⟩,.slice none 0 0,.slice none 0 0,.slice none 0 0,.slice none 0 0,.int .i64 0,.int .i64 0,.int .i64 0,.int .i64 0,.int .i64 0,.slice none 0 0] 30 (0,0)):=by rw [hF];exact setAll12 HZ0.out _ _ _ _ _ _ _ _ _ _ _ _
  have HBF:Hid (Below w.heap.size w WF):=by rw [hF];exact setAll_below (by omega) _ _ HB0.out
  clear hF
  go_wp2_with (first | (go_at_call 13;refine (isLabel_any _ _ ht).mono ?_;rintro e w' ⟨rfl,hww⟩;have hwq:=hww.symm;subst hwq;rw [hlab]) | fail)
  rw [← hWF]
  clear hWF a0 a1 a2 a3 a4 a5 a6 a7 a8 a9 a10 a11 z0 zz0 z1 zz1 z2 zz2 z3 zz3 z4 zz4 z5 zz5 z6 zz6 z7 zz7 z8 zz8 z9 zz9 z10 zz10 z11 zz11
  have z0:WF.cell? ⟨w.heap.size+1,0,none⟩=some (.string ⟨#[]⟩):=cellsAt hzF 0
  have z1:WF.cell? ⟨w.heap.size+1,1,none⟩=some (.string ⟨#[]⟩):=cellsAt hzF 1
  have z2:WF.cell? ⟨w.heap.size+1,2,none⟩=some (.slice none 0 0):=cellsAt hzF 2
  have z3:WF.cell? ⟨w.heap.size+1,3,none⟩=some (.slice none 0 0):=cellsAt hzF 3
  have z4:WF.cell? ⟨w.heap.size+1,4,none⟩=some (.slice none 0 0):=cellsAt hzF 4
  have z5:WF.cell? ⟨w.heap.size+1,5,none⟩=some (.slice none 0 0):=cellsAt hzF 5
  have z6:WF.cell? ⟨w.heap.size+1,6,none⟩=some (.int .i64 0):=cellsAt hzF 6
  have z7:WF.cell? ⟨w.heap.size+1,7,none⟩=some (.int .i64 0):=cellsAt hzF 7
  have z8:WF.cell? ⟨w.heap.size+1,8,none⟩=some (.int .i64 0):=cellsAt hzF 8
  have z9:WF.cell? ⟨w.heap.size+1,9,none⟩=some (.int .i64 0):=cellsAt hzF 9
  have z10:WF.cell? ⟨w.heap.size+1,10,none⟩=some (.int .i64 0):=cellsAt hzF 10
  have z11:WF.cell? ⟨w.heap.size+1,11,none⟩=some (.slice none 0 0):=cellsAt hzF 11
  refine bodyPost_ret (v:=.tuple #[.agg #[.string ⟨#[]⟩,.string ⟨#[]⟩,.slice none 0 0,.slice none 0 0,.slice none 0 0,.slice none 0 0,.int .i64 0,.int .i64 0,.int .i64 0,.int .i64 0,.int .i64 0,.slice none 0 0],.int .i64 5]) ?_ rfl ?_
  ·simp [results,Tryz.results29,go_sem,z0,z1,z2,z3,z4,z5,z6,z7,z8,z9,z10,z11]
  ·exact ⟨_,(by rw [HSE.out];rfl),.inl ⟨(by rw [HSE.out];decide),rfl⟩,HBF.out⟩
 have HMM:Hid (mOf n.ms t=n.ms.getD k dm):=HMO.out _ hf
 have HFS:Hid ((fstM n.ms t).isSome=true):=by rw [hf];rfl
 have HE3:Hid (SE=if (n.ms.getD k dm).state=frm then XE else 4):=HE2.out.trans (by rw [if_pos HFS.out,if_neg (fun h=>hnm (HTN.out.1 h)),HMM.out])
 have HSP2:=HSP.out HFS.out
 rw [HMM.out] at HSP2
 obtain ⟨pa,pc,hv,_,hrow⟩:=HSLM.out
 injection hv with hv1 hv2 hv3
 rcases hrow with h0 | ⟨g,off,ha,hlt,hr⟩
 ·rw [h0] at hk;simp at hk
 rw [ha] at hv1
 obtain ⟨c0,c1,c2,c3,c4⟩:=hr k hk
 have d0:=(HB0.out.cell hlt).trans c0
 have d1:=(HB0.out.cell hlt).trans c1
 have d2:=(HB0.out.cell hlt).trans c2
 have d3:=(HB0.out.cell hlt).trans c3
 have d4:=(HB0.out.cell hlt).trans c4
 rw [← hv2] at hk
 have hki:(k:Int) < (k2a:Int):=by omega
 have HG0:Hid (W0.heap[w.heap.size]?=some (.cells #[.string t0a,.string t1a,.slice p2a k2a c2a,.slice p3a k3a c3a,.slice p4a k4a c4a,.slice p5a k5a c5a,.int .i64 i6a,.int .i64 i7a,.int .i64 i8a,.int .i64 i9a,.int .i64 i10a,.slice p11a k11a c11a] 30 (0,0))):=HGA0.out
 subst hv1
 clear hnm HE2 hf hv2 hv3 ha hr hlt c0 c1 c2 c3 c4 HSP HMA HSLM HMO HTN HME HFS HMM hlen HAT
 generalize n.ms.getD k dm=M at *
 obtain ⟨mn,st,lf,ad,sb⟩:=M
 simp only at d0 d1 d2 d3 d4 HE3 HSP2
 by_cases hst:st=frm
 rotate_left
 ·have HSE:Hid (SE=4):=HE3.out.trans (if_neg hst)
  have hst':(st != frm)=true:=by simpa using hst
  clear hst HE3
  obtain ⟨WF,hWF⟩:∃ WF,WF=((((((((((((W0.setCell ⟨w.heap.size+1,0,none⟩ (.string ⟨#[]⟩)).setCell ⟨w.heap.size+1,1,none⟩ (.string ⟨#[]⟩)).setCell ⟨w.heap.size+1,2,none⟩ (.slice none 0 0)).setCell ⟨w.heap.size+1,3,none⟩ (.slice none 0 0)).setCell ⟨w.heap.size+1,4,none⟩ (.slice none 0 0)).setCell ⟨w.heap.size+1,5,none⟩ (.slice none 0 0)).setCell ⟨w.heap.size+1,6,none⟩ (.int .i64 0)).setCell ⟨w.heap.size+1,7,none⟩ (.int .i64 0)).setCell ⟨w.heap.size+1,8,none⟩ (.int .i64 0)).setCell ⟨w.heap.size+1,9,none⟩ (.int .i64 0)).setCell ⟨w.heap.size+1,10,none⟩ (.int .i64 0)).setCell ⟨w.heap.size+1,11,none⟩ (.slice none 0 0)):=⟨_,rfl⟩
  have hF:WF=setAll (w.heap.size+1) [.string ⟨#[]⟩,.string ⟨#[]⟩,.slice none 0 0,.slice none 0 0,.slice none 0 0,.slice none 0 0,.int .i64 0,.int .i64 0,.int .i64 0,.int .i64 0,.int .i64 0,.slice none 0 0] 0 W0:=by rw [hWF];simp only [setAll,Nat.zero_add,Nat.reduceAdd]
  have hzF:WF.heap[w.heap.size+1]?=some (.cells #[.string ⟨#[]⟩,.string ⟨#[]⟩,.slice none 0 0,.slice none 0 0,.slice none 0 0,.slice none 0 0,.int .i64 0,.int .i64 0,.int .i64 0,.int .i64 0,.int .i64 0,.slice none 0 0] 30 (0,0)):=by rw [hF];exact setAll12 HZ0.out _ _ _ _ _ _ _ _ _ _ _ _
  have HBF:Hid (Below w.heap.size w WF):=by rw [hF];exact setAll_below (by omega) _ _ HB0.out
  clear hF
  go_wp2_with (first | (go_at_call 13;refine (isLabel_any _ _ ht).mono ?_;rintro e w' ⟨rfl,hww⟩;have hwq:=hww.symm;subst hwq;rw [hlab]) | fail)
  rw [← hWF]
  clear hWF a0 a1 a2 a3 a4 a5 a6 a7 a8 a9 a10 a11 z0 zz0 z1 zz1 z2 zz2 z3 zz3 z4 zz4 z5 zz5 z6 zz6 z7 zz7 z8 zz8 z9 zz9 z10 zz10 z11 zz11
  have z0:WF.cell? ⟨w.heap.size+1,0,none⟩=some (.string ⟨#[]⟩):=cellsAt hzF 0
  have z1:WF.cell? ⟨w.heap.size+1,1,none⟩=some (.string ⟨#[]⟩):=cellsAt hzF 1
  have z2:WF.cell? ⟨w.heap.size+1,2,none⟩=some (.slice none 0 0):=cellsAt hzF 2
  have z3:WF.cell? ⟨w.heap.size+1,3,none⟩=some (.slice none 0 0):=cellsAt hzF 3
  have z4:WF.cell? ⟨w.heap.size+1,4,none⟩=some (.slice none 0 0):=cellsAt hzF 4
  have z5:WF.cell? ⟨w.heap.size+1,5,none⟩=some (.slice none 0 0):=cellsAt hzF 5
  have z6:WF.cell? ⟨w.heap.size+1,6,none⟩=some (.int .i64 0):=cellsAt hzF 6
  have z7:WF.cell? ⟨w.heap.size+1,7,none⟩=some (.int .i64 0):=cellsAt hzF 7
  have z8:WF.cell? ⟨w.heap.size+1,8,none⟩=some (.int .i64 0):=cellsAt hzF 8
  have z9:WF.cell? ⟨w.heap.size+1,9,none⟩=some (.int .i64 0):=cellsAt hzF 9
  have z10:WF.cell? ⟨w.heap.size+1,10,none⟩=some (.int .i64 0):=cellsAt hzF 10
  have z11:WF.cell? ⟨w.heap.size+1,11,none⟩=some (.slice none 0 0):=cellsAt hzF 11
  refine bodyPost_ret (v:=.tuple #[.agg #[.string ⟨#[]⟩,.string ⟨#[]⟩,.slice none 0 0,.slice none 0 0,.slice none 0 0,.slice none 0 0,.int .i64 0,.int .i64 0,.int .i64 0,.int .i64 0,.int .i64 0,.slice none 0 0],.int .i64 4]) ?_ rfl ?_
  ·simp [results,Tryz.results29,go_sem,z0,z1,z2,z3,z4,z5,z6,z7,z8,z9,z10,z11]
  ·exact ⟨_,(by rw [HSE.out];rfl),.inl ⟨(by rw [HSE.out];decide),rfl⟩,HBF.out⟩
 have HSE:Hid (SE=XE):=HE3.out.trans (if_pos hst)
 have hst':(st != frm)=false:=by simp [hst]
 obtain ⟨W2,hW2⟩:∃ W2,W2=W0.alloc (.cells #[.string mn,.int .i64 to,.int .i64 lf,.int .i64 ad,.bool sb] 37):=⟨_,rfl⟩
 have hb2:Below W0.heap.size W0 W2:=by rw [hW2];exact (Below.refl _ _).alloc (Nat.le_refl _) _
 have hm2:W2.heap[W0.heap.size]?=some (.cells #[.string mn,.int .i64 to,.int .i64 lf,.int .i64 ad,.bool sb] 37 (0,0)):=by rw [hW2];exact heap_alloc_new W0 _
 have hg2:W2.heap[w.heap.size]?=some (.cells #[.string t0a,.string t1a,.slice (some ⟨g,off,none⟩) k2a c2a,.slice p3a k3a c3a,.slice p4a k4a c4a,.slice p5a k5a c5a,.int .i64 i6a,.int .i64 i7a,.int .i64 i8a,.int .i64 i9a,.int .i64 i10a,.slice p11a k11a c11a] 30 (0,0)):=(hb2.block _ (by omega)).trans HG0.out
 have hz2:W2.heap[w.heap.size+1]?=some (.cells #[.string ⟨#[]⟩,.string ⟨#[]⟩,.slice none 0 0,.slice none 0 0,.slice none 0 0,.slice none 0 0,.int .i64 0,.int .i64 0,.int .i64 0,.int .i64 0,.int .i64 0,.slice none 0 0] 30 (0,0)):=(hb2.block _ hs0).trans HZ0.out
 have hbw2:Below w.heap.size w W2:=HB0.out.trans (hb2.mono HB0.out.size)
 have hs2:w.heap.size+1 < W2.heap.size:=by have:=hb2.size;omega
 have HC2:=HSP2 W2 hbw2
 clear HE3 HSP2
 have HZ2:Hid (W2.heap[w.heap.size+1]?=some (.cells #[.string ⟨#[]⟩,.string ⟨#[]⟩,.slice none 0 0,.slice none 0 0,.slice none 0 0,.slice none 0 0,.int .i64 0,.int .i64 0,.int .i64 0,.int .i64 0,.int .i64 0,.slice none 0 0] 30 (0,0))):=hz2
 have HB2:Hid (Below w.heap.size w W2):=hbw2
 have HG2:Hid (W2.heap[w.heap.size]?=some (.cells #[.string t0a,.string t1a,.slice (some ⟨g,off,none⟩) k2a c2a,.slice p3a k3a c3a,.slice p4a k4a c4a,.slice p5a k5a c5a,.int .i64 i6a,.int .i64 i7a,.int .i64 i8a,.int .i64 i9a,.int .i64 i10a,.slice p11a k11a c11a] 30 (0,0))):=hg2
 have HM2:Hid (W2.heap[W0.heap.size]?=some (.cells #[.string mn,.int .i64 to,.int .i64 lf,.int .i64 ad,.bool sb] 37 (0,0))):=hm2
 clear hb2 hm2 hg2 hz2 hbw2
 go_upto_region 12 with (first | (go_at_call 13;refine (isLabel_any _ _ ht).mono ?_;rintro e w' ⟨rfl,hww⟩;have hwq:=hww.symm;subst hwq;rw [hlab]) | fail)
 rw [← hW2]
 clear hW2 a0 a1 a2 a3 a4 a5 a6 a7 a8 a9 a10 a11 z0 zz0 z1 zz1 z2 zz2 z3 zz3 z4 zz4 z5 zz5 z6 zz6 z7 zz7 z8 zz8 z9 zz9 z10 zz10 z11 zz11 d0 d1 d2 d3 d4
 have hg2:=HG2.out
 have hm2:=HM2.out
 have a0:W2.cell? ⟨w.heap.size,0,none⟩=some (.string t0a):=cellsAt hg2 0
 have a1:W2.cell? ⟨w.heap.size,1,none⟩=some (.string t1a):=cellsAt hg2 1
 have a2:W2.cell? ⟨w.heap.size,2,none⟩=some (.slice (some ⟨g,off,none⟩) k2a c2a):=cellsAt hg2 2
 have a3:W2.cell? ⟨w.heap.size,3,none⟩=some (.slice p3a k3a c3a):=cellsAt hg2 3
 have a4:W2.cell? ⟨w.heap.size,4,none⟩=some (.slice p4a k4a c4a):=cellsAt hg2 4
 have a5:W2.cell? ⟨w.heap.size,5,none⟩=some (.slice p5a k5a c5a):=cellsAt hg2 5
 have a6:W2.cell? ⟨w.heap.size,6,none⟩=some (.int .i64 i6a):=cellsAt hg2 6
 have a7:W2.cell? ⟨w.heap.size,7,none⟩=some (.int .i64 i7a):=cellsAt hg2 7
 have a8:W2.cell? ⟨w.heap.size,8,none⟩=some (.int .i64 i8a):=cellsAt hg2 8
 have a9:W2.cell? ⟨w.heap.size,9,none⟩=some (.int .i64 i9a):=cellsAt hg2 9
 have a10:W2.cell? ⟨w.heap.size,10,none⟩=some (.int .i64 i10a):=cellsAt hg2 10
 have a11:W2.cell? ⟨w.heap.size,11,none⟩=some (.slice p11a k11a c11a):=cellsAt hg2 11
 have b0:W2.cell? ⟨W0.heap.size,0,none⟩=some (.string mn):=cellsAt hm2 0
 have b1:W2.cell? ⟨W0.heap.size,1,none⟩=some (.int .i64 to):=cellsAt hm2 1
 have b2:W2.cell? ⟨W0.heap.size,2,none⟩=some (.int .i64 lf):=cellsAt hm2 2
 have b3:W2.cell? ⟨W0.heap.size,3,none⟩=some (.int .i64 ad):=cellsAt hm2 3
 have b4:W2.cell? ⟨W0.heap.size,4,none⟩=some (.bool sb):=cellsAt hm2 4
 clear hg2 hm2
 go_wp2_with fail
 refine HC2.mono ?_
 rintro e w3 ⟨C3,n1,rfl,hN,hwhy,hb3⟩
 obtain ⟨t0c,t1c,p2c,k2c,c2c,p3c,k3c,c3c,p4c,k4c,c4c,p5c,k5c,c5c,i6c,i7c,i8c,i9c,i10c,p11c,k11c,c11c,rfl⟩:=hN.letters
 simp only [ndV] at hN ⊢
 have hz3:w3.heap[w.heap.size+1]?=some (.cells #[.string ⟨#[]⟩,.string ⟨#[]⟩,.slice none 0 0,.slice none 0 0,.slice none 0 0,.slice none 0 0,.int .i64 0,.int .i64 0,.int .i64 0,.int .i64 0,.int .i64 0,.slice none 0 0] 30 (0,0)):=(hb3.block _ hs2).trans HZ2.out
 have hbw3:Below w.heap.size w w3:=HB2.out.trans (hb3.mono HB2.out.size)
 have hs3:w.heap.size+1 < w3.heap.size:=by have:=hb3.size;omega
 have HN3:Hid (IsNd w3 n1 #[.string t0c,.string t1c,.slice p2c k2c c2c,.slice p3c k3c c3c,.slice p4c k4c c4c,.slice p5c k5c c5c,.int .i64 i6c,.int .i64 i7c,.int .i64 i8c,.int .i64 i9c,.int .i64 i10c,.slice p11c k11c c11c]):=hN
 have HWY:Hid (XE=0→n1=SN):=hwhy
 have HZ3:Hid (w3.heap[w.heap.size+1]?=some (.cells #[.string ⟨#[]⟩,.string ⟨#[]⟩,.slice none 0 0,.slice none 0 0,.slice none 0 0,.slice none 0 0,.int .i64 0,.int .i64 0,.int .i64 0,.int .i64 0,.int .i64 0,.slice none 0 0] 30 (0,0))):=hz3
 have HB3:Hid (Below w.heap.size w w3):=hbw3
 clear a0 a1 a2 a3 a4 a5 a6 a7 a8 a9 a10 a11 b0 b1 b2 b3 b4 hN hwhy hb3 hz3 hbw3
 go_wp2_with fail
 refine (ended_any t0c t1c p2c p3c p4c p5c p11c k2c c2c k3c c3c k4c c4c k5c c5c k11c c11c i6c i7c i8c i9c i10c XE w3).mono ?_
 rintro e w4 ⟨rfl,hb4⟩
 have hz4:w4.heap[w.heap.size+1]?=some (.cells #[.string ⟨#[]⟩,.string ⟨#[]⟩,.slice none 0 0,.slice none 0 0,.slice none 0 0,.slice none 0 0,.int .i64 0,.int .i64 0,.int .i64 0,.int .i64 0,.int .i64 0,.slice none 0 0] 30 (0,0)):=(hb4.block _ hs3).trans HZ3.out
 have hbw4:Below w.heap.size w w4:=HB3.out.trans (hb4.mono HB3.out.size)
 have hR4:Res w4 XE SN (if XE=0 then (#[.string t0c,.string t1c,.slice p2c k2c c2c,.slice p3c k3c c3c,.slice p4c k4c c4c,.slice p5c k5c c5c,.int .i64 i6c,.int .i64 i7c,.int .i64 i8c,.int .i64 i9c,.int .i64 i10c,.slice p11c k11c c11c]:Array Value) else #[.string ⟨#[]⟩,.string ⟨#[]⟩,.slice none 0 0,.slice none 0 0,.slice none 0 0,.slice none 0 0,.int .i64 0,.int .i64 0,.int .i64 0,.int .i64 0,.int .i64 0,.slice none 0 0]):=by
  by_cases hx:XE=0
  ·rw [if_pos hx];exact .inr ⟨hx,by rw [← HWY.out hx];exact HN3.out.below hb4⟩
  ·rw [if_neg hx];exact .inl ⟨hx,rfl⟩
 clear hb4
 generalize (if XE=0 then (#[.string t0c,.string t1c,.slice p2c k2c c2c,.slice p3c k3c c3c,.slice p4c k4c c4c,.slice p5c k5c c5c,.int .i64 i6c,.int .i64 i7c,.int .i64 i8c,.int .i64 i9c,.int .i64 i10c,.slice p11c k11c c11c]:Array Value) else #[.string ⟨#[]⟩,.string ⟨#[]⟩,.slice none 0 0,.slice none 0 0,.slice none 0 0,.slice none 0 0,.int .i64 0,.int .i64 0,.int .i64 0,.int .i64 0,.int .i64 0,.slice none 0 0])=C4 at *
 obtain ⟨t0r,t1r,p2r,k2r,c2r,p3r,k3r,c3r,p4r,k4r,c4r,p5r,k5r,c5r,i6r,i7r,i8r,i9r,i10r,p11r,k11r,c11r,rfl⟩:=hR4.is.letters
 simp only [ndV] at hR4 ⊢
 have z0:w4.cell? ⟨w.heap.size+1,0,none⟩=some (.string ⟨#[]⟩):=cellsAt hz4 0
 have zz0:w4.frozen? ⟨w.heap.size+1,0,none⟩=false:=frozen_of hz4 0
 have z1:w4.cell? ⟨w.heap.size+1,1,none⟩=some (.string ⟨#[]⟩):=cellsAt hz4 1
 have zz1:w4.frozen? ⟨w.heap.size+1,1,none⟩=false:=frozen_of hz4 1
 have z2:w4.cell? ⟨w.heap.size+1,2,none⟩=some (.slice none 0 0):=cellsAt hz4 2
 have zz2:w4.frozen? ⟨w.heap.size+1,2,none⟩=false:=frozen_of hz4 2
 have z3:w4.cell? ⟨w.heap.size+1,3,none⟩=some (.slice none 0 0):=cellsAt hz4 3
 have zz3:w4.frozen? ⟨w.heap.size+1,3,none⟩=false:=frozen_of hz4 3
 have z4:w4.cell? ⟨w.heap.size+1,4,none⟩=some (.slice none 0 0):=cellsAt hz4 4
 have zz4:w4.frozen? ⟨w.heap.size+1,4,none⟩=false:=frozen_of hz4 4
 have z5:w4.cell? ⟨w.heap.size+1,5,none⟩=some (.slice none 0 0):=cellsAt hz4 5
 have zz5:w4.frozen? ⟨w.heap.size+1,5,none⟩=false:=frozen_of hz4 5
 have z6:w4.cell? ⟨w.heap.size+1,6,none⟩=some (.int .i64 0):=cellsAt hz4 6
 have zz6:w4.frozen? ⟨w.heap.size+1,6,none⟩=false:=frozen_of hz4 6
 have z7:w4.cell? ⟨w.heap.size+1,7,none⟩=some (.int .i64 0):=cellsAt hz4 7
 have zz7:w4.frozen? ⟨w.heap.size+1,7,none⟩=false:=frozen_of hz4 7
 have z8:w4.cell? ⟨w.heap.size+1,8,none⟩=some (.int .i64 0):=cellsAt hz4 8
 have zz8:w4.frozen? ⟨w.heap.size+1,8,none⟩=false:=frozen_of hz4 8
 have z9:w4.cell? ⟨w.heap.size+1,9,none⟩=some (.int .i64 0):=cellsAt hz4 9
 have zz9:w4.frozen? ⟨w.heap.size+1,9,none⟩=false:=frozen_of hz4 9
 have z10:w4.cell? ⟨w.heap.size+1,10,none⟩=some (.int .i64 0):=cellsAt hz4 10
 have zz10:w4.frozen? ⟨w.heap.size+1,10,none⟩=false:=frozen_of hz4 10
 have z11:w4.cell? ⟨w.heap.size+1,11,none⟩=some (.slice none 0 0):=cellsAt hz4 11
 have zz11:w4.frozen? ⟨w.heap.size+1,11,none⟩=false:=frozen_of hz4 11
 obtain ⟨W5,hW5⟩:∃ W5,W5=((((((((((((w4.setCell ⟨w.heap.size+1,0,none⟩ (.string t0r)).setCell ⟨w.heap.size+1,1,none⟩ (.string t1r)).setCell ⟨w.heap.size+1,2,none⟩ (.slice p2r k2r c2r)).setCell ⟨w.heap.size+1,3,none⟩ (.slice p3r k3r c3r)).setCell ⟨w.heap.size+1,4,none⟩ (.slice p4r k4r c4r)).setCell ⟨w.heap.size+1,5,none⟩ (.slice p5r k5r c5r)).setCell ⟨w.heap.size+1,6,none⟩ (.int .i64 i6r)).setCell ⟨w.heap.size+1,7,none⟩ (.int .i64 i7r)).setCell ⟨w.heap.size+1,8,none⟩ (.int .i64 i8r)).setCell ⟨w.heap.size+1,9,none⟩ (.int .i64 i9r)).setCell ⟨w.heap.size+1,10,none⟩ (.int .i64 i10r)).setCell ⟨w.heap.size+1,11,none⟩ (.slice p11r k11r c11r)):=⟨_,rfl⟩
 have hF5:W5=setAll (w.heap.size+1) [.string t0r,.string t1r,.slice p2r k2r c2r,.slice p3r k3r c3r,.slice p4r k4r c4r,.slice p5r k5r c5r,.int .i64 i6r,.int .i64 i7r,.int .i64 i8r,.int .i64 i9r,.int .i64 i10r,.slice p11r k11r c11r] 0 w4:=by rw [hW5];simp only [setAll,Nat.zero_add,Nat.reduceAdd]
 have hz5:W5.heap[w.heap.size+1]?=some (.cells #[.string t0r,.string t1r,.slice p2r k2r c2r,.slice p3r k3r c3r,.slice p4r k4r c4r,.slice p5r k5r c5r,.int .i64 i6r,.int .i64 i7r,.int .i64 i8r,.int .i64 i9r,.int .i64 i10r,.slice p11r k11r c11r] 30 (0,0)):=by rw [hF5];exact setAll12 hz4 _ _ _ _ _ _ _ _ _ _ _ _
 have HB5:Hid (Below w.heap.size w W5):=by rw [hF5];exact setAll_below (by omega) _ _ hbw4
 have HR5:Hid (Res W5 XE SN #[.string t0r,.string t1r,.slice p2r k2r c2r,.slice p3r k3r c3r,.slice p4r k4r c4r,.slice p5r k5r c5r,.int .i64 i6r,.int .i64 i7r,.int .i64 i8r,.int .i64 i9r,.int .i64 i10r,.slice p11r k11r c11r]):=by
  rcases hR4 with hR4 | ⟨h0,hR4⟩
  ·exact .inl hR4
  ·exact .inr ⟨h0,by rw [hF5];exact hR4.setAll (NBox.of hz4) _ _⟩
 go_wp2_with fail
 rw [← hW5]
 clear z0 zz0 z1 zz1 z2 zz2 z3 zz3 z4 zz4 z5 zz5 z6 zz6 z7 zz7 z8 zz8 z9 zz9 z10 zz10 z11 zz11 hF5 hW5 hR4 hz4 hbw4
 have z0:W5.cell? ⟨w.heap.size+1,0,none⟩=some (.string t0r):=cellsAt hz5 0
 have z1:W5.cell? ⟨w.heap.size+1,1,none⟩=some (.string t1r):=cellsAt hz5 1
 have z2:W5.cell? ⟨w.heap.size+1,2,none⟩=some (.slice p2r k2r c2r):=cellsAt hz5 2
 have z3:W5.cell? ⟨w.heap.size+1,3,none⟩=some (.slice p3r k3r c3r):=cellsAt hz5 3
 have z4:W5.cell? ⟨w.heap.size+1,4,none⟩=some (.slice p4r k4r c4r):=cellsAt hz5 4
 have z5:W5.cell? ⟨w.heap.size+1,5,none⟩=some (.slice p5r k5r c5r):=cellsAt hz5 5
 have z6:W5.cell? ⟨w.heap.size+1,6,none⟩=some (.int .i64 i6r):=cellsAt hz5 6
 have z7:W5.cell? ⟨w.heap.size+1,7,none⟩=some (.int .i64 i7r):=cellsAt hz5 7
 have z8:W5.cell? ⟨w.heap.size+1,8,none⟩=some (.int .i64 i8r):=cellsAt hz5 8
 have z9:W5.cell? ⟨w.heap.size+1,9,none⟩=some (.int .i64 i9r):=cellsAt hz5 9
 have z10:W5.cell? ⟨w.heap.size+1,10,none⟩=some (.int .i64 i10r):=cellsAt hz5 10
 have z11:W5.cell? ⟨w.heap.size+1,11,none⟩=some (.slice p11r k11r c11r):=cellsAt hz5 11
 refine bodyPost_ret (v:=.tuple #[.agg #[.string t0r,.string t1r,.slice p2r k2r c2r,.slice p3r k3r c3r,.slice p4r k4r c4r,.slice p5r k5r c5r,.int .i64 i6r,.int .i64 i7r,.int .i64 i8r,.int .i64 i9r,.int .i64 i10r,.slice p11r k11r c11r],.int .i64 XE]) ?_ rfl ?_
 ·simp [results,Tryz.results29,go_sem,z0,z1,z2,z3,z4,z5,z6,z7,z8,z9,z10,z11]
 ·exact ⟨_,(by rw [HSE.out]),(by rw [HSE.out];exact HR5.out),HB5.out⟩
theorem rise_inj {ms:List Mem} (hr:Rise ms) {i j:Nat} (hi:i < ms.length) (hj:j < ms.length) (h:(ms.getD i dm).name=(ms.getD j dm).name):i=j:=by
 have e:∀ k (hk:k < ms.length),ms.getD k dm=ms[k]:=fun k hk=>by simp [List.getD,List.getElem?_eq_getElem hk]
 rw [e i hi,e j hj] at h
 rcases Nat.lt_trichotomy i j with h1 | h1 | h1
 ·have h2:=List.pairwise_iff_getElem.1 hr i j hi hj h1
  rw [h,less_irrefl] at h2;cases h2
 ·exact h1
 ·have h2:=List.pairwise_iff_getElem.1 hr j i hj hi h1
  rw [h,less_irrefl] at h2;cases h2
set_option maxHeartbeats 51200000 in
set_option maxRecDepth 100000 in
theorem leaveOf_is (n:Nd) (A:Array Value) (w:World) (h:IsNd w n A) (he:n.e=0) :
 Calls Tryz.prog 30 #[.agg A] w fun e w'=>∃ C,e=.returned (.tuple #[.agg C,.int .i64 (lvE n)])∧Res w' (lvE n) (lvN n) C∧Below w.heap.size w w':=by
 have hp:=Nd.parts (Nd.e_zero he).1
 have hok:=h.ok
 obtain ⟨me,hme,_⟩:=Nd.wE_zero (Nd.e_zero he).2
 have HN0:Hid (IsNd w n A):=h
 obtain ⟨vm,vr,vs,vg,vw,hA,hi⟩:=h
 obtain ⟨t0a,t1a,p2a,k2a,c2a,p3a,k3a,c3a,p4a,k4a,c4a,p5a,k5a,c5a,i6a,i7a,i8a,i9a,i10a,p11a,k11a,c11a,rfl⟩:=HN0.out.letters
 simp only [ndV,ndA,Array.mk.injEq,List.cons.injEq,and_true] at hA
 obtain ⟨e0,e1,e2,e3,e4,e5,e6,e7,e8,e9,e10,e11⟩:=hA
 clear e1 e3 e4 e5 e6 e7 e8 e9 e10 e11
 injection e0 with e0
 simp only [ndV] at HN0 ⊢
 have hlen:n.ms.length≤20:=(chk_zero hp.ms).1
 have hfs:(fstM n.ms n.name).isSome=true:=by rw [hme];rfl
 obtain ⟨g1,g2⟩:=mOf_mem hfs
 have hx:=(mem_e0 _).1 (chk_e0 hp.ms _ g1)
 have hlf:1≤(mOf n.ms n.name).life∧(mOf n.ms n.name).life≤1000000:=by
  have h5:=hx.2.2.1
  simp [within] at h5
  exact h5
 have hsl:Sl w (.slice p2a k2a c2a) n.ms:=by rw [e2];exact hi.ms
 have hne:n.ms≠[]:=fun e=>by rw [e] at g1;cases g1
 obtain ⟨pa,pc,hv,_,hrow⟩:=hsl
 injection hv with hv1 hv2 hv3
 rcases hrow with h0 | ⟨g,off,ha,hlt,hr⟩
 ·exact absurd h0 hne
 rw [ha] at hv1
 subst hv1
 obtain ⟨k0,hk0,hk0g⟩:∃ k0,k0 < n.ms.length∧n.ms.getD k0 dm=mOf n.ms n.name:=by
  obtain ⟨k0,hk0,hk1⟩:=List.getElem_of_mem g1
  exact ⟨k0,hk0,by rw [← hk1];simp [List.getD,List.getElem?_eq_getElem hk0]⟩
 have HMA:Hid (∀ W,Below w.heap.size w W→Calls Tryz.prog 52 #[.slice (some ⟨g,off,none⟩) k2a c2a,.string t0a] W fun e w'=>e=.returned (.int .i64 (k0:Int))∧w'=W):=fun W hW=>by
  rw [e2,e0]
  refine (memAt_any n.ms vm n.name W (hi.ms.below hW) (by omega)).mono ?_
  rintro e w' ⟨r,rfl,hat,rfl⟩
  rcases hat.out with ⟨k,hk,rfl,hf⟩ | ⟨_,hf⟩
  ·have h1:=(mOf_some hf).symm
   have h2:k=k0:=rise_inj (chk_zero hp.ms).2.1 hk hk0 (by rw [h1,hk0g])
   exact ⟨by rw [h2],rfl⟩
  ·rw [hme] at hf;cases hf
 have HSP:Hid ((mOf n.ms n.name).life≠1000000→∀ W,Below w.heap.size w W→Calls Tryz.prog 69 #[.agg #[.string t0a,.string t1a,.slice (some ⟨g,off,none⟩) k2a c2a,.slice p3a k3a c3a,.slice p4a k4a c4a,.slice p5a k5a c5a,.int .i64 i6a,.int .i64 i7a,.int .i64 i8a,.int .i64 i9a,.int .i64 i10a,.slice p11a k11a c11a],.agg #[.string (mOf n.ms n.name).name,.int .i64 4,.int .i64 ((mOf n.ms n.name).life+1),.int .i64 (mOf n.ms n.name).addr,.bool (mOf n.ms n.name).server]] W fun e w'=>∃ C n1,e=.returned (.tuple #[.agg C,.int .i64 (spE n (lvM n))])∧IsNd w' n1 C∧(spE n (lvM n)=0→n1=lvN n)∧Below W.heap.size W w'):=fun hl W hW=>by
  have h7:within ((mOf n.ms n.name).life+1) 1 1000000=true:=by
   simp only [within,Bool.and_eq_true,decide_eq_true_eq]
   omega
  exact spreadOf_is n (lvM n) _ W (HN0.out.below hW) he ((mem_e0 _).2 ⟨hx.1,(by decide:within 4 1 4=true),h7,hx.2.2.2⟩) (show (mOf n.ms n.name).name.size≤maxLen from hok.ms _ g1)
 have HE:Hid (lvE n=if (mOf n.ms n.name).state=4 then 4 else if (mOf n.ms n.name).life=1000000 then 3 else spE n (lvM n)):=rfl
 have HROW:Hid (∀ W,Below w.heap.size w W→W.cell? ⟨g,off+k0 * 5,none⟩=some (.string (mOf n.ms n.name).name)∧W.cell? ⟨g,off+k0 * 5+1,none⟩=some (.int .i64 (mOf n.ms n.name).state)∧W.cell? ⟨g,off+k0 * 5+2,none⟩=some (.int .i64 (mOf n.ms n.name).life)∧W.cell? ⟨g,off+k0 * 5+3,none⟩=some (.int .i64 (mOf n.ms n.name).addr)∧W.cell? ⟨g,off+k0 * 5+4,none⟩=some (.bool (mOf n.ms n.name).server)):=fun W hW=>by
  obtain ⟨c0,c1,c2,c3,c4⟩:=hr k0 hk0
  rw [hk0g] at c0 c1 c2 c3 c4
  exact ⟨(hW.cell hlt).trans c0,(hW.cell hlt).trans c1,(hW.cell hlt).trans c2,(hW.cell hlt).trans c3,(hW.cell hlt).trans c4⟩
 have hki:(k0:Int) < (k2a:Int):=by omega
 generalize lvE n=SE at *
 generalize lvN n=SN at *
 generalize spE n (lvM n)=XE at *
 have HLF:Hid (1≤(mOf n.ms n.name).life∧(mOf n.ms n.name).life≤1000000):=hlf
 clear hp hok hme e0 e2 hi he hlf hx g1 g2 hne hfs hr ha hv2 hv3 hlen hk0g hk0
 generalize mOf n.ms n.name=M at *
 obtain ⟨mn,st,lf,ad,sb⟩:=M
 simp only at HSP HE HROW HLF
 obtain ⟨W0,hW0⟩:∃ W0,W0=(w.alloc (.cells #[.string t0a,.string t1a,.slice (some ⟨g,off,none⟩) k2a c2a,.slice p3a k3a c3a,.slice p4a k4a c4a,.slice p5a k5a c5a,.int .i64 i6a,.int .i64 i7a,.int .i64 i8a,.int .i64 i9a,.int .i64 i10a,.slice p11a k11a c11a] 30)).alloc (.cells #[.string ⟨#[]⟩,.string ⟨#[]⟩,.slice none 0 0,.slice none 0 0,.slice none 0 0,.slice none 0 0,.int .i64 0,.int .i64 0,.int .i64 0,.int .i64 0,.int .i64 0,.slice none 0 0] 30):=⟨_,rfl⟩
 have hb0:Below w.heap.size w W0:=by rw [hW0];exact ((Below.refl _ _).alloc (Nat.le_refl _) _).alloc (by simp) _
 have hg0:W0.heap[w.heap.size]?=some (.cells #[.string t0a,.string t1a,.slice (some ⟨g,off,none⟩) k2a c2a,.slice p3a k3a c3a,.slice p4a k4a c4a,.slice p5a k5a c5a,.int .i64 i6a,.int .i64 i7a,.int .i64 i8a,.int .i64 i9a,.int .i64 i10a,.slice p11a k11a c11a] 30 (0,0)):=by rw [hW0,Below.heap_alloc _ _ _ (by simp)];exact heap_alloc_new w _
 have hz0:W0.heap[w.heap.size+1]?=some (.cells #[.string ⟨#[]⟩,.string ⟨#[]⟩,.slice none 0 0,.slice none 0 0,.slice none 0 0,.slice none 0 0,.int .i64 0,.int .i64 0,.int .i64 0,.int .i64 0,.int .i64 0,.slice none 0 0] 30 (0,0)):=by
  have h:=heap_alloc_new (w.alloc (.cells #[.string t0a,.string t1a,.slice (some ⟨g,off,none⟩) k2a c2a,.slice p3a k3a c3a,.slice p4a k4a c4a,.slice p5a k5a c5a,.int .i64 i6a,.int .i64 i7a,.int .i64 i8a,.int .i64 i9a,.int .i64 i10a,.slice p11a k11a c11a] 30)) (.cells #[.string ⟨#[]⟩,.string ⟨#[]⟩,.slice none 0 0,.slice none 0 0,.slice none 0 0,.slice none 0 0,.int .i64 0,.int .i64 0,.int .i64 0,.int .i64 0,.int .i64 0,.slice none 0 0] 30)
  rw [hW0];simpa using h
 have hs0:w.heap.size+1 < W0.heap.size:=by rw [hW0];simp
 have a2:W0.cell? ⟨w.heap.size,2,none⟩=some (.slice (some ⟨g,off,none⟩) k2a c2a):=cellsAt hg0 2
 have a0:W0.cell? ⟨w.heap.size,0,none⟩=some (.string t0a):=cellsAt hg0 0
 have HB0:Hid (Below w.heap.size w W0):=hb0
 have HG0:Hid (W0.heap[w.heap.size]?=some (.cells #[.string t0a,.string t1a,.slice (some ⟨g,off,none⟩) k2a c2a,.slice p3a k3a c3a,.slice p4a k4a c4a,.slice p5a k5a c5a,.int .i64 i6a,.int .i64 i7a,.int .i64 i8a,.int .i64 i9a,.int .i64 i10a,.slice p11a k11a c11a] 30 (0,0))):=hg0
 have HZ0:Hid (W0.heap[w.heap.size+1]?=some (.cells #[.string ⟨#[]⟩,.string ⟨#[]⟩,.slice none 0 0,.slice none 0 0,.slice none 0 0,.slice none 0 0,.int .i64 0,.int .i64 0,.int .i64 0,.int .i64 0,.int .i64 0,.slice none 0 0] 30 (0,0))):=hz0
 clear hb0 hg0 hz0
 go_enter Tryz.func30,Tryz.ntmps30
 go_upto_region 1 with fail
 rw [← hW0]
 clear hW0
 have HL0:Hid (w.heap.size+1 < W0.heap.size):=hs0
 have HSW:Hid (∀ W,Below w.heap.size w W→W.cell? ⟨w.heap.size,0,none⟩=some (.string t0a)→W.cell? ⟨w.heap.size,2,none⟩=some (.slice (some ⟨g,off,none⟩) k2a c2a)→W0.heap.size≤W.heap.size→W.cell? ⟨w.heap.size,0,none⟩=some (.string t0a)∧W.cell? ⟨w.heap.size,2,none⟩=some (.slice (some ⟨g,off,none⟩) k2a c2a)∧Below w.heap.size w W∧W0.heap.size≤W.heap.size∧W.cell? ⟨g,off+k0 * 5,none⟩=some (.string mn)∧W.cell? ⟨g,off+k0 * 5+1,none⟩=some (.int .i64 st)∧W.cell? ⟨g,off+k0 * 5+2,none⟩=some (.int .i64 lf)∧W.cell? ⟨g,off+k0 * 5+3,none⟩=some (.int .i64 ad)∧W.cell? ⟨g,off+k0 * 5+4,none⟩=some (.bool sb)):=fun W h1 h2 h3 h4=>⟨h2,h3,h1,h4,HROW.out W h1⟩
 have HK0:Hid (W0.drew.cell? ⟨w.heap.size,0,none⟩=some (.string t0a)∧W0.drew.cell? ⟨w.heap.size,2,none⟩=some (.slice (some ⟨g,off,none⟩) k2a c2a)∧Below w.heap.size w W0.drew∧W0.heap.size≤W0.drew.heap.size∧W0.drew.cell? ⟨g,off+k0 * 5,none⟩=some (.string mn)∧W0.drew.cell? ⟨g,off+k0 * 5+1,none⟩=some (.int .i64 st)∧W0.drew.cell? ⟨g,off+k0 * 5+2,none⟩=some (.int .i64 lf)∧W0.drew.cell? ⟨g,off+k0 * 5+3,none⟩=some (.int .i64 ad)∧W0.drew.cell? ⟨g,off+k0 * 5+4,none⟩=some (.bool sb)):=HSW.out _ HB0.out.drew a0 a2 (Nat.le_refl _)
 have HK1:Hid (W0.cell? ⟨w.heap.size,0,none⟩=some (.string t0a)∧W0.cell? ⟨w.heap.size,2,none⟩=some (.slice (some ⟨g,off,none⟩) k2a c2a)∧Below w.heap.size w W0∧W0.heap.size≤W0.heap.size∧W0.cell? ⟨g,off+k0 * 5,none⟩=some (.string mn)∧W0.cell? ⟨g,off+k0 * 5+1,none⟩=some (.int .i64 st)∧W0.cell? ⟨g,off+k0 * 5+2,none⟩=some (.int .i64 lf)∧W0.cell? ⟨g,off+k0 * 5+3,none⟩=some (.int .i64 ad)∧W0.cell? ⟨g,off+k0 * 5+4,none⟩=some (.bool sb)):=HSW.out _ HB0.out a0 a2 (Nat.le_refl _)
 have HKD:Hid (∀ W,(W.cell? ⟨w.heap.size,0,none⟩=some (.string t0a)∧W.cell? ⟨w.heap.size,2,none⟩=some (.slice (some ⟨g,off,none⟩) k2a c2a)∧Below w.heap.size w W∧W0.heap.size≤W.heap.size∧W.cell? ⟨g,off+k0 * 5,none⟩=some (.string mn)∧W.cell? ⟨g,off+k0 * 5+1,none⟩=some (.int .i64 st)∧W.cell? ⟨g,off+k0 * 5+2,none⟩=some (.int .i64 lf)∧W.cell? ⟨g,off+k0 * 5+3,none⟩=some (.int .i64 ad)∧W.cell? ⟨g,off+k0 * 5+4,none⟩=some (.bool sb))→W.drew.cell? ⟨w.heap.size,0,none⟩=some (.string t0a)∧W.drew.cell? ⟨w.heap.size,2,none⟩=some (.slice (some ⟨g,off,none⟩) k2a c2a)∧Below w.heap.size w W.drew∧W0.heap.size≤W.drew.heap.size∧W.drew.cell? ⟨g,off+k0 * 5,none⟩=some (.string mn)∧W.drew.cell? ⟨g,off+k0 * 5+1,none⟩=some (.int .i64 st)∧W.drew.cell? ⟨g,off+k0 * 5+2,none⟩=some (.int .i64 lf)∧W.drew.cell? ⟨g,off+k0 * 5+3,none⟩=some (.int .i64 ad)∧W.drew.cell? ⟨g,off+k0 * 5+4,none⟩=some (.bool sb)):=fun W h=>HSW.out _ h.2.2.1.drew h.1 h.2.1 h.2.2.2.1
 have HKA:Hid (∀ W o,(W.cell? ⟨w.heap.size,0,none⟩=some (.string t0a)∧W.cell? ⟨w.heap.size,2,none⟩=some (.slice (some ⟨g,off,none⟩) k2a c2a)∧Below w.heap.size w W∧W0.heap.size≤W.heap.size∧W.cell? ⟨g,off+k0 * 5,none⟩=some (.string mn)∧W.cell? ⟨g,off+k0 * 5+1,none⟩=some (.int .i64 st)∧W.cell? ⟨g,off+k0 * 5+2,none⟩=some (.int .i64 lf)∧W.cell? ⟨g,off+k0 * 5+3,none⟩=some (.int .i64 ad)∧W.cell? ⟨g,off+k0 * 5+4,none⟩=some (.bool sb))→(W.alloc o).cell? ⟨w.heap.size,0,none⟩=some (.string t0a)∧(W.alloc o).cell? ⟨w.heap.size,2,none⟩=some (.slice (some ⟨g,off,none⟩) k2a c2a)∧Below w.heap.size w (W.alloc o)∧W0.heap.size≤(W.alloc o).heap.size∧(W.alloc o).cell? ⟨g,off+k0 * 5,none⟩=some (.string mn)∧(W.alloc o).cell? ⟨g,off+k0 * 5+1,none⟩=some (.int .i64 st)∧(W.alloc o).cell? ⟨g,off+k0 * 5+2,none⟩=some (.int .i64 lf)∧(W.alloc o).cell? ⟨g,off+k0 * 5+3,none⟩=some (.int .i64 ad)∧(W.alloc o).cell? ⟨g,off+k0 * 5+4,none⟩=some (.bool sb)):=fun W o h=>by
  have h1:=h.2.2.2.1
  have h2:=HL0.out
  exact HSW.out _ (h.2.2.1.alloc h.2.2.1.size _) ((cell_under (by omega)).trans h.1) ((cell_under (by omega)).trans h.2.1) (by simp;omega)
 go_region_held3 (fun w'=>w'.cell? ⟨w.heap.size,0,none⟩=some (.string t0a)∧w'.cell? ⟨w.heap.size,2,none⟩=some (.slice (some ⟨g,off,none⟩) k2a c2a)∧Below w.heap.size w w'∧W0.heap.size≤w'.heap.size∧w'.cell? ⟨g,off+k0 * 5,none⟩=some (.string mn)∧w'.cell? ⟨g,off+k0 * 5+1,none⟩=some (.int .i64 st)∧w'.cell? ⟨g,off+k0 * 5+2,none⟩=some (.int .i64 lf)∧w'.cell? ⟨g,off+k0 * 5+3,none⟩=some (.int .i64 ad)∧w'.cell? ⟨g,off+k0 * 5+4,none⟩=some (.bool sb)) (repeat (first | (with_reducible assumption) | (with_reducible exact HK0.out) | (with_reducible exact HK1.out) | (with_reducible refine HKA.out _ _ ?_) | (with_reducible refine HKD.out _ ?_))) (first | (go_at_call 52;have hS:=‹_∧_›;refine (HMA.out _ hS.2.2.1).mono ?_;rintro e w' ⟨rfl,hww⟩;subst hww;clear hS) | fail)
 all_goals
  obtain ⟨V,hV⟩:∃ V,V=(W0.alloc (.cells #[.string mn,.int .i64 st,.int .i64 lf,.int .i64 ad,.bool sb] 37)).drew:=⟨_,rfl⟩
  rw [← hV]
  have hbV:Below W0.heap.size W0 V:=by rw [hV];exact ((Below.refl _ _).alloc (Nat.le_refl _) _).drew
  have hmV:V.heap[W0.heap.size]?=some (.cells #[.string mn,.int .i64 st,.int .i64 lf,.int .i64 ad,.bool sb] 37 (0,0)):=by rw [hV];exact heap_alloc_new W0 _
  have hzV:V.heap[w.heap.size+1]?=some (.cells #[.string ⟨#[]⟩,.string ⟨#[]⟩,.slice none 0 0,.slice none 0 0,.slice none 0 0,.slice none 0 0,.int .i64 0,.int .i64 0,.int .i64 0,.int .i64 0,.int .i64 0,.slice none 0 0] 30 (0,0)):=(hbV.block _ hs0).trans HZ0.out
  have hgV:V.heap[w.heap.size]?=some (.cells #[.string t0a,.string t1a,.slice (some ⟨g,off,none⟩) k2a c2a,.slice p3a k3a c3a,.slice p4a k4a c4a,.slice p5a k5a c5a,.int .i64 i6a,.int .i64 i7a,.int .i64 i8a,.int .i64 i9a,.int .i64 i10a,.slice p11a k11a c11a] 30 (0,0)):=(hbV.block _ (by omega)).trans HG0.out
  have HBV:Hid (Below w.heap.size w V):=HB0.out.trans (hbV.mono HB0.out.size)
  have HZV:Hid (V.heap[w.heap.size+1]?=some (.cells #[.string ⟨#[]⟩,.string ⟨#[]⟩,.slice none 0 0,.slice none 0 0,.slice none 0 0,.slice none 0 0,.int .i64 0,.int .i64 0,.int .i64 0,.int .i64 0,.int .i64 0,.slice none 0 0] 30 (0,0))):=hzV
  have HMV:Hid (V.heap[W0.heap.size]?=some (.cells #[.string mn,.int .i64 st,.int .i64 lf,.int .i64 ad,.bool sb] 37 (0,0))):=hmV
  have HGV:Hid (V.heap[w.heap.size]?=some (.cells #[.string t0a,.string t1a,.slice (some ⟨g,off,none⟩) k2a c2a,.slice p3a k3a c3a,.slice p4a k4a c4a,.slice p5a k5a c5a,.int .i64 i6a,.int .i64 i7a,.int .i64 i8a,.int .i64 i9a,.int .i64 i10a,.slice p11a k11a c11a] 30 (0,0))):=hgV
  clear hV hbV a0 a2
  clear HK0 HK1 HKD HKA HSW HROW HMA hki
  have z0:V.cell? ⟨w.heap.size+1,0,none⟩=some (.string ⟨#[]⟩):=cellsAt hzV 0
  have zz0:V.frozen? ⟨w.heap.size+1,0,none⟩=false:=frozen_of hzV 0
  have z1:V.cell? ⟨w.heap.size+1,1,none⟩=some (.string ⟨#[]⟩):=cellsAt hzV 1
  have zz1:V.frozen? ⟨w.heap.size+1,1,none⟩=false:=frozen_of hzV 1
  have z2:V.cell? ⟨w.heap.size+1,2,none⟩=some (.slice none 0 0):=cellsAt hzV 2
  have zz2:V.frozen? ⟨w.heap.size+1,2,none⟩=false:=frozen_of hzV 2
  have z3:V.cell? ⟨w.heap.size+1,3,none⟩=some (.slice none 0 0):=cellsAt hzV 3
  have zz3:V.frozen? ⟨w.heap.size+1,3,none⟩=false:=frozen_of hzV 3
  have z4:V.cell? ⟨w.heap.size+1,4,none⟩=some (.slice none 0 0):=cellsAt hzV 4
  have zz4:V.frozen? ⟨w.heap.size+1,4,none⟩=false:=frozen_of hzV 4
  have z5:V.cell? ⟨w.heap.size+1,5,none⟩=some (.slice none 0 0):=cellsAt hzV 5
  have zz5:V.frozen? ⟨w.heap.size+1,5,none⟩=false:=frozen_of hzV 5
  have z6:V.cell? ⟨w.heap.size+1,6,none⟩=some (.int .i64 0):=cellsAt hzV 6
  have zz6:V.frozen? ⟨w.heap.size+1,6,none⟩=false:=frozen_of hzV 6
  have z7:V.cell? ⟨w.heap.size+1,7,none⟩=some (.int .i64 0):=cellsAt hzV 7
  have zz7:V.frozen? ⟨w.heap.size+1,7,none⟩=false:=frozen_of hzV 7
  have z8:V.cell? ⟨w.heap.size+1,8,none⟩=some (.int .i64 0):=cellsAt hzV 8
  have zz8:V.frozen? ⟨w.heap.size+1,8,none⟩=false:=frozen_of hzV 8
  have z9:V.cell? ⟨w.heap.size+1,9,none⟩=some (.int .i64 0):=cellsAt hzV 9
  have zz9:V.frozen? ⟨w.heap.size+1,9,none⟩=false:=frozen_of hzV 9
  have z10:V.cell? ⟨w.heap.size+1,10,none⟩=some (.int .i64 0):=cellsAt hzV 10
  have zz10:V.frozen? ⟨w.heap.size+1,10,none⟩=false:=frozen_of hzV 10
  have z11:V.cell? ⟨w.heap.size+1,11,none⟩=some (.slice none 0 0):=cellsAt hzV 11
  have zz11:V.frozen? ⟨w.heap.size+1,11,none⟩=false:=frozen_of hzV 11
  have m0:V.cell? ⟨W0.heap.size,0,none⟩=some (.string mn):=cellsAt hmV 0
  have mz0:V.frozen? ⟨W0.heap.size,0,none⟩=false:=frozen_of hmV 0
  have m1:V.cell? ⟨W0.heap.size,1,none⟩=some (.int .i64 st):=cellsAt hmV 1
  have mz1:V.frozen? ⟨W0.heap.size,1,none⟩=false:=frozen_of hmV 1
  have m2:V.cell? ⟨W0.heap.size,2,none⟩=some (.int .i64 lf):=cellsAt hmV 2
  have mz2:V.frozen? ⟨W0.heap.size,2,none⟩=false:=frozen_of hmV 2
  have m3:V.cell? ⟨W0.heap.size,3,none⟩=some (.int .i64 ad):=cellsAt hmV 3
  have mz3:V.frozen? ⟨W0.heap.size,3,none⟩=false:=frozen_of hmV 3
  have m4:V.cell? ⟨W0.heap.size,4,none⟩=some (.bool sb):=cellsAt hmV 4
  have mz4:V.frozen? ⟨W0.heap.size,4,none⟩=false:=frozen_of hmV 4
  clear hzV hmV hgV
  by_cases hst:st=4
  ·have HSE:Hid (SE=4):=HE.out.trans (if_pos hst)
   clear HE
   subst hst
   obtain ⟨WF,hWF⟩:∃ WF,WF=((((((((((((V.setCell ⟨w.heap.size+1,0,none⟩ (.string ⟨#[]⟩)).setCell ⟨w.heap.size+1,1,none⟩ (.string ⟨#[]⟩)).setCell ⟨w.heap.size+1,2,none⟩ (.slice none 0 0)).setCell ⟨w.heap.size+1,3,none⟩ (.slice none 0 0)).setCell ⟨w.heap.size+1,4,none⟩ (.slice none 0 0)).setCell ⟨w.heap.size+1,5,none⟩ (.slice none 0 0)).setCell ⟨w.heap.size+1,6,none⟩ (.int .i64 0)).setCell ⟨w.heap.size+1,7,none⟩ (.int .i64 0)).setCell ⟨w.heap.size+1,8,none⟩ (.int .i64 0)).setCell ⟨w.heap.size+1,9,none⟩ (.int .i64 0)).setCell ⟨w.heap.size+1,10,none⟩ (.int .i64 0)).setCell ⟨w.heap.size+1,11,none⟩ (.slice none 0 0)):=⟨_,rfl⟩
   have hF:WF=setAll (w.heap.size+1) [.string ⟨#[]⟩,.string ⟨#[]⟩,.slice none 0 0,.slice none 0 0,.slice none 0 0,.slice none 0 0,.int .i64 0,.int .i64 0,.int .i64 0,.int .i64 0,.int .i64 0,.slice none 0 0] 0 V:=by rw [hWF];simp only [setAll,Nat.zero_add,Nat.reduceAdd]
   have hzF:WF.heap[w.heap.size+1]?=some (.cells #[.string ⟨#[]⟩,.string ⟨#[]⟩,.slice none 0 0,.slice none 0 0,.slice none 0 0,.slice none 0 0,.int .i64 0,.int .i64 0,.int .i64 0,.int .i64 0,.int .i64 0,.slice none 0 0] 30 (0,0)):=by rw [hF];exact setAll12 HZV.out _ _ _ _ _ _ _ _ _ _ _ _
   have HBF:Hid (Below w.heap.size w WF):=by rw [hF];exact setAll_below (by omega) _ _ HBV.out
   clear hF
   go_wp2_with fail
   rw [← hWF]
   clear hWF z0 zz0 z1 zz1 z2 zz2 z3 zz3 z4 zz4 z5 zz5 z6 zz6 z7 zz7 z8 zz8 z9 zz9 z10 zz10 z11 zz11
   have z0:WF.cell? ⟨w.heap.size+1,0,none⟩=some (.string ⟨#[]⟩):=cellsAt hzF 0
   have z1:WF.cell? ⟨w.heap.size+1,1,none⟩=some (.string ⟨#[]⟩):=cellsAt hzF 1
   have z2:WF.cell? ⟨w.heap.size+1,2,none⟩=some (.slice none 0 0):=cellsAt hzF 2
   have z3:WF.cell? ⟨w.heap.size+1,3,none⟩=some (.slice none 0 0):=cellsAt hzF 3
   have z4:WF.cell? ⟨w.heap.size+1,4,none⟩=some (.slice none 0 0):=cellsAt hzF 4
   have z5:WF.cell? ⟨w.heap.size+1,5,none⟩=some (.slice none 0 0):=cellsAt hzF 5
   have z6:WF.cell? ⟨w.heap.size+1,6,none⟩=some (.int .i64 0):=cellsAt hzF 6
   have z7:WF.cell? ⟨w.heap.size+1,7,none⟩=some (.int .i64 0):=cellsAt hzF 7
   have z8:WF.cell? ⟨w.heap.size+1,8,none⟩=some (.int .i64 0):=cellsAt hzF 8
   have z9:WF.cell? ⟨w.heap.size+1,9,none⟩=some (.int .i64 0):=cellsAt hzF 9
   have z10:WF.cell? ⟨w.heap.size+1,10,none⟩=some (.int .i64 0):=cellsAt hzF 10
   have z11:WF.cell? ⟨w.heap.size+1,11,none⟩=some (.slice none 0 0):=cellsAt hzF 11
   refine bodyPost_ret (v:=.tuple #[.agg #[.string ⟨#[]⟩,.string ⟨#[]⟩,.slice none 0 0,.slice none 0 0,.slice none 0 0,.slice none 0 0,.int .i64 0,.int .i64 0,.int .i64 0,.int .i64 0,.int .i64 0,.slice none 0 0],.int .i64 4]) ?_ rfl ?_
   ·simp [results,Tryz.results30,go_sem,z0,z1,z2,z3,z4,z5,z6,z7,z8,z9,z10,z11]
   ·exact ⟨_,(by rw [HSE.out];rfl),.inl ⟨(by rw [HSE.out];decide),rfl⟩,HBF.out⟩
  have hst':(st == 4)=false:=by simpa using hst
  by_cases hlf:lf=1000000
  ·have HSE:Hid (SE=3):=HE.out.trans (by rw [if_neg hst,if_pos hlf])
   clear HE hst
   obtain ⟨WF,hWF⟩:∃ WF,WF=((((((((((((V.setCell ⟨w.heap.size+1,0,none⟩ (.string ⟨#[]⟩)).setCell ⟨w.heap.size+1,1,none⟩ (.string ⟨#[]⟩)).setCell ⟨w.heap.size+1,2,none⟩ (.slice none 0 0)).setCell ⟨w.heap.size+1,3,none⟩ (.slice none 0 0)).setCell ⟨w.heap.size+1,4,none⟩ (.slice none 0 0)).setCell ⟨w.heap.size+1,5,none⟩ (.slice none 0 0)).setCell ⟨w.heap.size+1,6,none⟩ (.int .i64 0)).setCell ⟨w.heap.size+1,7,none⟩ (.int .i64 0)).setCell ⟨w.heap.size+1,8,none⟩ (.int .i64 0)).setCell ⟨w.heap.size+1,9,none⟩ (.int .i64 0)).setCell ⟨w.heap.size+1,10,none⟩ (.int .i64 0)).setCell ⟨w.heap.size+1,11,none⟩ (.slice none 0 0)):=⟨_,rfl⟩
   have hF:WF=setAll (w.heap.size+1) [.string ⟨#[]⟩,.string ⟨#[]⟩,.slice none 0 0,.slice none 0 0,.slice none 0 0,.slice none 0 0,.int .i64 0,.int .i64 0,.int .i64 0,.int .i64 0,.int .i64 0,.slice none 0 0] 0 V:=by rw [hWF];simp only [setAll,Nat.zero_add,Nat.reduceAdd]
   have hzF:WF.heap[w.heap.size+1]?=some (.cells #[.string ⟨#[]⟩,.string ⟨#[]⟩,.slice none 0 0,.slice none 0 0,.slice none 0 0,.slice none 0 0,.int .i64 0,.int .i64 0,.int .i64 0,.int .i64 0,.int .i64 0,.slice none 0 0] 30 (0,0)):=by rw [hF];exact setAll12 HZV.out _ _ _ _ _ _ _ _ _ _ _ _
   have HBF:Hid (Below w.heap.size w WF):=by rw [hF];exact setAll_below (by omega) _ _ HBV.out
   clear hF
   go_wp2_with fail
   rw [← hWF]
   clear hWF z0 zz0 z1 zz1 z2 zz2 z3 zz3 z4 zz4 z5 zz5 z6 zz6 z7 zz7 z8 zz8 z9 zz9 z10 zz10 z11 zz11
   have z0:WF.cell? ⟨w.heap.size+1,0,none⟩=some (.string ⟨#[]⟩):=cellsAt hzF 0
   have z1:WF.cell? ⟨w.heap.size+1,1,none⟩=some (.string ⟨#[]⟩):=cellsAt hzF 1
   have z2:WF.cell? ⟨w.heap.size+1,2,none⟩=some (.slice none 0 0):=cellsAt hzF 2
   have z3:WF.cell? ⟨w.heap.size+1,3,none⟩=some (.slice none 0 0):=cellsAt hzF 3
   have z4:WF.cell? ⟨w.heap.size+1,4,none⟩=some (.slice none 0 0):=cellsAt hzF 4
   have z5:WF.cell? ⟨w.heap.size+1,5,none⟩=some (.slice none 0 0):=cellsAt hzF 5
   have z6:WF.cell? ⟨w.heap.size+1,6,none⟩=some (.int .i64 0):=cellsAt hzF 6
   have z7:WF.cell? ⟨w.heap.size+1,7,none⟩=some (.int .i64 0):=cellsAt hzF 7
   have z8:WF.cell? ⟨w.heap.size+1,8,none⟩=some (.int .i64 0):=cellsAt hzF 8
   have z9:WF.cell? ⟨w.heap.size+1,9,none⟩=some (.int .i64 0):=cellsAt hzF 9
   have z10:WF.cell? ⟨w.heap.size+1,10,none⟩=some (.int .i64 0):=cellsAt hzF 10
   have z11:WF.cell? ⟨w.heap.size+1,11,none⟩=some (.slice none 0 0):=cellsAt hzF 11
   refine bodyPost_ret (v:=.tuple #[.agg #[.string ⟨#[]⟩,.string ⟨#[]⟩,.slice none 0 0,.slice none 0 0,.slice none 0 0,.slice none 0 0,.int .i64 0,.int .i64 0,.int .i64 0,.int .i64 0,.int .i64 0,.slice none 0 0],.int .i64 3]) ?_ rfl ?_
   ·simp [results,Tryz.results30,go_sem,z0,z1,z2,z3,z4,z5,z6,z7,z8,z9,z10,z11]
   ·exact ⟨_,(by rw [HSE.out];rfl),.inl ⟨(by rw [HSE.out];decide),rfl⟩,HBF.out⟩
  have HSE:Hid (SE=XE):=HE.out.trans (by rw [if_neg hst,if_neg hlf])
  have hlf':(lf == 1000000)=false:=by simpa using hlf
  obtain ⟨hl1,hl2⟩:=HLF.out
  have HSP2:=HSP.out hlf
  clear HE hst hlf
  obtain ⟨W2,hW2⟩:∃ W2,W2=(V.setCell ⟨W0.heap.size,1,none⟩ (.int .i64 4)).setCell ⟨W0.heap.size,2,none⟩ (.int .i64 (lf+1)):=⟨_,rfl⟩
  have hne2:∀ k,k≠W0.heap.size→W2.heap[k]?=V.heap[k]?:=fun k hk=>by
   rw [hW2,Below.heap_setCell _ _ _ _ (by simp only;omega),Below.heap_setCell _ _ _ _ (by simp only;omega)]
  have hg2:W2.heap[w.heap.size]?=some (.cells #[.string t0a,.string t1a,.slice (some ⟨g,off,none⟩) k2a c2a,.slice p3a k3a c3a,.slice p4a k4a c4a,.slice p5a k5a c5a,.int .i64 i6a,.int .i64 i7a,.int .i64 i8a,.int .i64 i9a,.int .i64 i10a,.slice p11a k11a c11a] 30 (0,0)):=(hne2 _ (by omega)).trans HGV.out
  have hz2:W2.heap[w.heap.size+1]?=some (.cells #[.string ⟨#[]⟩,.string ⟨#[]⟩,.slice none 0 0,.slice none 0 0,.slice none 0 0,.slice none 0 0,.int .i64 0,.int .i64 0,.int .i64 0,.int .i64 0,.int .i64 0,.slice none 0 0] 30 (0,0)):=(hne2 _ (by omega)).trans HZV.out
  have hm2:W2.heap[W0.heap.size]?=some (.cells #[.string mn,.int .i64 4,.int .i64 (lf+1),.int .i64 ad,.bool sb] 37 (0,0)):=by rw [hW2];exact Joins.block_setCell (i:=2) (Joins.block_setCell (i:=1) HMV.out _) _
  have hbw2:Below w.heap.size w W2:=by rw [hW2];exact (HBV.out.setCell (p:=⟨W0.heap.size,1,none⟩) (by simp only;omega) _).setCell (p:=⟨W0.heap.size,2,none⟩) (by simp only;omega) _
  have hs2:w.heap.size+1 < W2.heap.size:=(Array.getElem?_eq_some_iff.1 hz2).1
  have HC2:=HSP2 W2 hbw2
  clear HSP2 HSP
  have HZ2:Hid (W2.heap[w.heap.size+1]?=some (.cells #[.string ⟨#[]⟩,.string ⟨#[]⟩,.slice none 0 0,.slice none 0 0,.slice none 0 0,.slice none 0 0,.int .i64 0,.int .i64 0,.int .i64 0,.int .i64 0,.int .i64 0,.slice none 0 0] 30 (0,0))):=hz2
  have HB2:Hid (Below w.heap.size w W2):=hbw2
  have HG2:Hid (W2.heap[w.heap.size]?=some (.cells #[.string t0a,.string t1a,.slice (some ⟨g,off,none⟩) k2a c2a,.slice p3a k3a c3a,.slice p4a k4a c4a,.slice p5a k5a c5a,.int .i64 i6a,.int .i64 i7a,.int .i64 i8a,.int .i64 i9a,.int .i64 i10a,.slice p11a k11a c11a] 30 (0,0))):=hg2
  have HM2:Hid (W2.heap[W0.heap.size]?=some (.cells #[.string mn,.int .i64 4,.int .i64 (lf+1),.int .i64 ad,.bool sb] 37 (0,0))):=hm2
  clear hm2 hg2 hz2 hbw2 hne2
  go_upto_region 8 with fail
  rw [← hW2]
  clear hW2 z0 zz0 z1 zz1 z2 zz2 z3 zz3 z4 zz4 z5 zz5 z6 zz6 z7 zz7 z8 zz8 z9 zz9 z10 zz10 z11 zz11 m0 mz0 m1 mz1 m2 mz2 m3 mz3 m4 mz4
  have hg2:=HG2.out
  have hm2:=HM2.out
  have a0:W2.cell? ⟨w.heap.size,0,none⟩=some (.string t0a):=cellsAt hg2 0
  have a1:W2.cell? ⟨w.heap.size,1,none⟩=some (.string t1a):=cellsAt hg2 1
  have a2:W2.cell? ⟨w.heap.size,2,none⟩=some (.slice (some ⟨g,off,none⟩) k2a c2a):=cellsAt hg2 2
  have a3:W2.cell? ⟨w.heap.size,3,none⟩=some (.slice p3a k3a c3a):=cellsAt hg2 3
  have a4:W2.cell? ⟨w.heap.size,4,none⟩=some (.slice p4a k4a c4a):=cellsAt hg2 4
  have a5:W2.cell? ⟨w.heap.size,5,none⟩=some (.slice p5a k5a c5a):=cellsAt hg2 5
  have a6:W2.cell? ⟨w.heap.size,6,none⟩=some (.int .i64 i6a):=cellsAt hg2 6
  have a7:W2.cell? ⟨w.heap.size,7,none⟩=some (.int .i64 i7a):=cellsAt hg2 7
  have a8:W2.cell? ⟨w.heap.size,8,none⟩=some (.int .i64 i8a):=cellsAt hg2 8
  have a9:W2.cell? ⟨w.heap.size,9,none⟩=some (.int .i64 i9a):=cellsAt hg2 9
  have a10:W2.cell? ⟨w.heap.size,10,none⟩=some (.int .i64 i10a):=cellsAt hg2 10
  have a11:W2.cell? ⟨w.heap.size,11,none⟩=some (.slice p11a k11a c11a):=cellsAt hg2 11
  have b0:W2.cell? ⟨W0.heap.size,0,none⟩=some (.string mn):=cellsAt hm2 0
  have b1:W2.cell? ⟨W0.heap.size,1,none⟩=some (.int .i64 4):=cellsAt hm2 1
  have b2:W2.cell? ⟨W0.heap.size,2,none⟩=some (.int .i64 (lf+1)):=cellsAt hm2 2
  have b3:W2.cell? ⟨W0.heap.size,3,none⟩=some (.int .i64 ad):=cellsAt hm2 3
  have b4:W2.cell? ⟨W0.heap.size,4,none⟩=some (.bool sb):=cellsAt hm2 4
  clear hg2 hm2
  go_wp2_with fail
  refine HC2.mono ?_
  rintro e w3 ⟨C3,n1,rfl,hN,hwhy,hb3⟩
  obtain ⟨t0c,t1c,p2c,k2c,c2c,p3c,k3c,c3c,p4c,k4c,c4c,p5c,k5c,c5c,i6c,i7c,i8c,i9c,i10c,p11c,k11c,c11c,rfl⟩:=hN.letters
  simp only [ndV] at hN ⊢
  have hz3:w3.heap[w.heap.size+1]?=some (.cells #[.string ⟨#[]⟩,.string ⟨#[]⟩,.slice none 0 0,.slice none 0 0,.slice none 0 0,.slice none 0 0,.int .i64 0,.int .i64 0,.int .i64 0,.int .i64 0,.int .i64 0,.slice none 0 0] 30 (0,0)):=(hb3.block _ hs2).trans HZ2.out
  have hbw3:Below w.heap.size w w3:=HB2.out.trans (hb3.mono HB2.out.size)
  have hs3:w.heap.size+1 < w3.heap.size:=by have:=hb3.size;omega
  have HN3:Hid (IsNd w3 n1 #[.string t0c,.string t1c,.slice p2c k2c c2c,.slice p3c k3c c3c,.slice p4c k4c c4c,.slice p5c k5c c5c,.int .i64 i6c,.int .i64 i7c,.int .i64 i8c,.int .i64 i9c,.int .i64 i10c,.slice p11c k11c c11c]):=hN
  have HWY:Hid (XE=0→n1=SN):=hwhy
  have HZ3:Hid (w3.heap[w.heap.size+1]?=some (.cells #[.string ⟨#[]⟩,.string ⟨#[]⟩,.slice none 0 0,.slice none 0 0,.slice none 0 0,.slice none 0 0,.int .i64 0,.int .i64 0,.int .i64 0,.int .i64 0,.int .i64 0,.slice none 0 0] 30 (0,0))):=hz3
  have HB3:Hid (Below w.heap.size w w3):=hbw3
  clear a0 a1 a2 a3 a4 a5 a6 a7 a8 a9 a10 a11 b0 b1 b2 b3 b4 hN hwhy hb3 hz3 hbw3
  go_wp2_with fail
  refine (ended_any t0c t1c p2c p3c p4c p5c p11c k2c c2c k3c c3c k4c c4c k5c c5c k11c c11c i6c i7c i8c i9c i10c XE w3).mono ?_
  rintro e w4 ⟨rfl,hb4⟩
  have hz4:w4.heap[w.heap.size+1]?=some (.cells #[.string ⟨#[]⟩,.string ⟨#[]⟩,.slice none 0 0,.slice none 0 0,.slice none 0 0,.slice none 0 0,.int .i64 0,.int .i64 0,.int .i64 0,.int .i64 0,.int .i64 0,.slice none 0 0] 30 (0,0)):=(hb4.block _ hs3).trans HZ3.out
  have hbw4:Below w.heap.size w w4:=HB3.out.trans (hb4.mono HB3.out.size)
  have hR4:Res w4 XE SN (if XE=0 then (#[.string t0c,.string t1c,.slice p2c k2c c2c,.slice p3c k3c c3c,.slice p4c k4c c4c,.slice p5c k5c c5c,.int .i64 i6c,.int .i64 i7c,.int .i64 i8c,.int .i64 i9c,.int .i64 i10c,.slice p11c k11c c11c]:Array Value) else #[.string ⟨#[]⟩,.string ⟨#[]⟩,.slice none 0 0,.slice none 0 0,.slice none 0 0,.slice none 0 0,.int .i64 0,.int .i64 0,.int .i64 0,.int .i64 0,.int .i64 0,.slice none 0 0]):=by
   by_cases hx:XE=0
   ·rw [if_pos hx];exact .inr ⟨hx,by rw [← HWY.out hx];exact HN3.out.below hb4⟩
   ·rw [if_neg hx];exact .inl ⟨hx,rfl⟩
  clear hb4
  generalize (if XE=0 then (#[.string t0c,.string t1c,.slice p2c k2c c2c,.slice p3c k3c c3c,.slice p4c k4c c4c,.slice p5c k5c c5c,.int .i64 i6c,.int .i64 i7c,.int .i64 i8c,.int .i64 i9c,.int .i64 i10c,.slice p11c k11c c11c]:Array Value) else #[.string ⟨#[]⟩,.string ⟨#[]⟩,.slice none 0 0,.slice none 0 0,.slice none 0 0,.slice none 0 0,.int .i64 0,.int .i64 0,.int .i64 0,.int .i64 0,.int .i64 0,.slice none 0 0])=C4 at *
  obtain ⟨t0r,t1r,p2r,k2r,c2r,p3r,k3r,c3r,p4r,k4r,c4r,p5r,k5r,c5r,i6r,i7r,i8r,i9r,i10r,p11r,k11r,c11r,rfl⟩:=hR4.is.letters
  simp only [ndV] at hR4 ⊢
  have z0:w4.cell? ⟨w.heap.size+1,0,none⟩=some (.string ⟨#[]⟩):=cellsAt hz4 0
  have zz0:w4.frozen? ⟨w.heap.size+1,0,none⟩=false:=frozen_of hz4 0
  have z1:w4.cell? ⟨w.heap.size+1,1,none⟩=some (.string ⟨#[]⟩):=cellsAt hz4 1
  have zz1:w4.frozen? ⟨w.heap.size+1,1,none⟩=false:=frozen_of hz4 1
  have z2:w4.cell? ⟨w.heap.size+1,2,none⟩=some (.slice none 0 0):=cellsAt hz4 2
  have zz2:w4.frozen? ⟨w.heap.size+1,2,none⟩=false:=frozen_of hz4 2
  have z3:w4.cell? ⟨w.heap.size+1,3,none⟩=some (.slice none 0 0):=cellsAt hz4 3
  have zz3:w4.frozen? ⟨w.heap.size+1,3,none⟩=false:=frozen_of hz4 3
  have z4:w4.cell? ⟨w.heap.size+1,4,none⟩=some (.slice none 0 0):=cellsAt hz4 4
  have zz4:w4.frozen? ⟨w.heap.size+1,4,none⟩=false:=frozen_of hz4 4
  have z5:w4.cell? ⟨w.heap.size+1,5,none⟩=some (.slice none 0 0):=cellsAt hz4 5
  have zz5:w4.frozen? ⟨w.heap.size+1,5,none⟩=false:=frozen_of hz4 5
  have z6:w4.cell? ⟨w.heap.size+1,6,none⟩=some (.int .i64 0):=cellsAt hz4 6
  have zz6:w4.frozen? ⟨w.heap.size+1,6,none⟩=false:=frozen_of hz4 6
  have z7:w4.cell? ⟨w.heap.size+1,7,none⟩=some (.int .i64 0):=cellsAt hz4 7
  have zz7:w4.frozen? ⟨w.heap.size+1,7,none⟩=false:=frozen_of hz4 7
  have z8:w4.cell? ⟨w.heap.size+1,8,none⟩=some (.int .i64 0):=cellsAt hz4 8
  have zz8:w4.frozen? ⟨w.heap.size+1,8,none⟩=false:=frozen_of hz4 8
  have z9:w4.cell? ⟨w.heap.size+1,9,none⟩=some (.int .i64 0):=cellsAt hz4 9
  have zz9:w4.frozen? ⟨w.heap.size+1,9,none⟩=false:=frozen_of hz4 9
  have z10:w4.cell? ⟨w.heap.size+1,10,none⟩=some (.int .i64 0):=cellsAt hz4 10
  have zz10:w4.frozen? ⟨w.heap.size+1,10,none⟩=false:=frozen_of hz4 10
  have z11:w4.cell? ⟨w.heap.size+1,11,none⟩=some (.slice none 0 0):=cellsAt hz4 11
  have zz11:w4.frozen? ⟨w.heap.size+1,11,none⟩=false:=frozen_of hz4 11
  obtain ⟨W5,hW5⟩:∃ W5,W5=((((((((((((w4.setCell ⟨w.heap.size+1,0,none⟩ (.string t0r)).setCell ⟨w.heap.size+1,1,none⟩ (.string t1r)).setCell ⟨w.heap.size+1,2,none⟩ (.slice p2r k2r c2r)).setCell ⟨w.heap.size+1,3,none⟩ (.slice p3r k3r c3r)).setCell ⟨w.heap.size+1,4,none⟩ (.slice p4r k4r c4r)).setCell ⟨w.heap.size+1,5,none⟩ (.slice p5r k5r c5r)).setCell ⟨w.heap.size+1,6,none⟩ (.int .i64 i6r)).setCell ⟨w.heap.size+1,7,none⟩ (.int .i64 i7r)).setCell ⟨w.heap.size+1,8,none⟩ (.int .i64 i8r)).setCell ⟨w.heap.size+1,9,none⟩ (.int .i64 i9r)).setCell ⟨w.heap.size+1,10,none⟩ (.int .i64 i10r)).setCell ⟨w.heap.size+1,11,none⟩ (.slice p11r k11r c11r)):=⟨_,rfl⟩
  have hF5:W5=setAll (w.heap.size+1) [.string t0r,.string t1r,.slice p2r k2r c2r,.slice p3r k3r c3r,.slice p4r k4r c4r,.slice p5r k5r c5r,.int .i64 i6r,.int .i64 i7r,.int .i64 i8r,.int .i64 i9r,.int .i64 i10r,.slice p11r k11r c11r] 0 w4:=by rw [hW5];simp only [setAll,Nat.zero_add,Nat.reduceAdd]
  have hz5:W5.heap[w.heap.size+1]?=some (.cells #[.string t0r,.string t1r,.slice p2r k2r c2r,.slice p3r k3r c3r,.slice p4r k4r c4r,.slice p5r k5r c5r,.int .i64 i6r,.int .i64 i7r,.int .i64 i8r,.int .i64 i9r,.int .i64 i10r,.slice p11r k11r c11r] 30 (0,0)):=by rw [hF5];exact setAll12 hz4 _ _ _ _ _ _ _ _ _ _ _ _
  have HB5:Hid (Below w.heap.size w W5):=by rw [hF5];exact setAll_below (by omega) _ _ hbw4
  have HR5:Hid (Res W5 XE SN #[.string t0r,.string t1r,.slice p2r k2r c2r,.slice p3r k3r c3r,.slice p4r k4r c4r,.slice p5r k5r c5r,.int .i64 i6r,.int .i64 i7r,.int .i64 i8r,.int .i64 i9r,.int .i64 i10r,.slice p11r k11r c11r]):=by
   rcases hR4 with hR4 | ⟨h0,hR4⟩
   ·exact .inl hR4
   ·exact .inr ⟨h0,by rw [hF5];exact hR4.setAll (NBox.of hz4) _ _⟩
  go_wp2_with fail
  rw [← hW5]
  clear z0 zz0 z1 zz1 z2 zz2 z3 zz3 z4 zz4 z5 zz5 z6 zz6 z7 zz7 z8 zz8 z9 zz9 z10 zz10 z11 zz11 hF5 hW5 hR4 hz4 hbw4
  have z0:W5.cell? ⟨w.heap.size+1,0,none⟩=some (.string t0r):=cellsAt hz5 0
  have z1:W5.cell? ⟨w.heap.size+1,1,none⟩=some (.string t1r):=cellsAt hz5 1
  have z2:W5.cell? ⟨w.heap.size+1,2,none⟩=some (.slice p2r k2r c2r):=cellsAt hz5 2
  have z3:W5.cell? ⟨w.heap.size+1,3,none⟩=some (.slice p3r k3r c3r):=cellsAt hz5 3
  have z4:W5.cell? ⟨w.heap.size+1,4,none⟩=some (.slice p4r k4r c4r):=cellsAt hz5 4
  have z5:W5.cell? ⟨w.heap.size+1,5,none⟩=some (.slice p5r k5r c5r):=cellsAt hz5 5
  have z6:W5.cell? ⟨w.heap.size+1,6,none⟩=some (.int .i64 i6r):=cellsAt hz5 6
  have z7:W5.cell? ⟨w.heap.size+1,7,none⟩=some (.int .i64 i7r):=cellsAt hz5 7
  have z8:W5.cell? ⟨w.heap.size+1,8,none⟩=some (.int .i64 i8r):=cellsAt hz5 8
  have z9:W5.cell? ⟨w.heap.size+1,9,none⟩=some (.int .i64 i9r):=cellsAt hz5 9
  have z10:W5.cell? ⟨w.heap.size+1,10,none⟩=some (.int .i64 i10r):=cellsAt hz5 10
  have z11:W5.cell? ⟨w.heap.size+1,11,none⟩=some (.slice p11r k11r c11r):=cellsAt hz5 11
  refine bodyPost_ret (v:=.tuple #[.agg #[.string t0r,.string t1r,.slice p2r k2r c2r,.slice p3r k3r c3r,.slice p4r k4r c4r,.slice p5r k5r c5r,.int .i64 i6r,.int .i64 i7r,.int .i64 i8r,.int .i64 i9r,.int .i64 i10r,.slice p11r k11r c11r],.int .i64 XE]) ?_ rfl ?_
  ·simp [results,Tryz.results30,go_sem,z0,z1,z2,z3,z4,z5,z6,z7,z8,z9,z10,z11]
  ·exact ⟨_,(by rw [HSE.out]),(by rw [HSE.out];exact HR5.out),HB5.out⟩
end Go.Proofs.YtikgjgmgbfjcgaaGreat
