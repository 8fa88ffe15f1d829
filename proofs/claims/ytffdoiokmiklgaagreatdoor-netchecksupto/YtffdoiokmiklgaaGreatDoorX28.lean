import Derived.Test.YtffdoiokmiklgaaGreatDoorX18
import Derived.Test.YtffdoiokmiklgaaGreatDoorX27
import Derived.Test.YtffdoiokmiklgaaGreatDoorX26
import Derived.Laws.EntriesVeiled
import Derived.Test.YtffdoiokmiklgaaGreatDoorX17
import Derived.Laws.StructEq
import Derived.Deep.Slices
import Derived.Lib.SmallJoins
import Derived.ProofKit
namespace Go.Proofs.YtffdoiokmiklgaaGreatDoor
open Go.RowKit
set_option maxHeartbeats 800000 in
theorem wIsIt_any (m:Mem) (nb:Nat) (nm:ByteArray) (w:World) (h:w.cell? ⟨nb,0,none⟩=some (.string nm)) :
 Calls Tryz.prog 142 #[.agg #[.string m.name,.int .i64 m.state,.int .i64 m.life,.int .i64 m.addr,.bool m.server],.pointer (some ⟨nb,0,none⟩)] w fun e w'=>e=.returned (.bool (decide (m.name=nm)))∧w'=w.alloc (.cells #[.string m.name,.int .i64 m.state,.int .i64 m.life,.int .i64 m.addr,.bool m.server] 56):=by
 have hb:nb < w.heap.size:=World.block_lt_of_cell? w _ h
 have h2:∀ ob,(w.alloc ob).cell? ⟨nb,0,none⟩=some (.string nm):=fun ob=>by
  rw [((Below.refl w.heap.size w).alloc (Nat.le_refl _) ob).cell (p:=⟨nb,0,none⟩) hb];exact h
 obtain ⟨mn,st,lf,ad,sv⟩:=m
 go_enter Tryz.func142,Tryz.ntmps142
 go_wp2_with fail
 go_ret
 exact ⟨ret_bool (beq_names _ _),rfl⟩
set_option maxHeartbeats 1600000 in
theorem wIndex_any (ms:List Mem) (pa:Option Addr) (n c nb:Nat) (nm:ByteArray) (w:World) (hv:Sl w (.slice pa n c) ms) (hsm:n≤1000) (ht:w.cell? ⟨nb,0,none⟩=some (.string nm)) :
 Calls Tryz.prog 143 #[.slice pa n c,.func (.func 142) #[] #[.pointer (some ⟨nb,0,none⟩)]] w fun e w'=>
  ((e=.returned (.int .i64 (-1))∧Hid (fstM ms nm=none))∨(∃ i:Nat,i < n∧e=.returned (.int .i64 i)∧Hid (fstM ms nm=some (ms.getD i dm))))∧Below w.heap.size w w':=by
 obtain ⟨pa',ca,he,_,ha⟩:=hv
 simp only [Value.slice.injEq] at he
 obtain ⟨rfl,hN,rfl⟩:=he
 have HA:Hid (ms=[]∨∃ b off,pa=some ⟨b,off,none⟩∧b < w.heap.size∧Row w b off ms):=ha
 have HN:Hid (ms.length=n):=hN.symm
 have HT:Hid (w.cell? ⟨nb,0,none⟩=some (.string nm)):=ht
 have htb:nb < w.heap.size:=World.block_lt_of_cell? w _ ht
 clear ha hN ht
 go_enter Tryz.func143,Tryz.ntmps143
 go_wp2_with fail
 go_loopw [8] (fun i wr=>∃ k:Nat,k≤n∧i=.int .i64 k∧Hid (∀ j,j < k→(ms.getD j dm).name≠nm)∧Hid (Below w.heap.size w wr)) (fun i _=>n - (intOf i).toNat)
 case atStart=>exact ⟨0,Nat.zero_le _,rfl,fun j hj=>by omega,Below.refl _ _⟩
 case round=>
  obtain ⟨k,hk,rfl,HZ,HB⟩:=hrel
  by_cases hlt:k < n
  ·obtain ⟨b,off,hp1,hl1,hr⟩:∃ b off,pa=some ⟨b,off,none⟩∧b < w.heap.size∧Row w b off ms:=by
    rcases HA.out with h | h
    ·have:=HN.out;rw [h] at this;simp at this;omega
    ·exact h
   subst hp1
   obtain ⟨c0,c1,c2,c3,c4⟩:=hr.later HB.out hl1 k (by rw [HN.out];exact hlt)
   clear hr
   have ht2:wr.cell? ⟨nb,0,none⟩=some (.string nm):=by rw [HB.out.cell (p:=⟨nb,0,none⟩) htb];exact HT.out
   have HY:Hid ((ms.getD k dm).name=nm→fstM ms nm=some (ms.getD k dm)):=fun h=>fstM_some (by rw [HN.out];exact hlt) HZ.out h
   have HZ2:Hid ((ms.getD k dm).name≠nm→∀ j,j < k+1→(ms.getD j dm).name≠nm):=fun h j hj=>by
    by_cases e:j=k
    ·subst e;exact h
    ·exact HZ.out j (by omega)
   have hF:=fun w h=>wIsIt_any (ms.getD k dm) nb nm w h
   by_cases hkp:(ms.getD k dm).name=nm
   ·have HF:Hid (fstM ms nm=some (ms.getD k dm)):=HY.out hkp
    rw [decide_eq_true hkp] at hF
    clear hkp HZ2 HY
    generalize hmk:ms.getD k dm=mk at *
    have HMK:Hid (ms.getD k dm=mk):=hmk
    clear hmk
    obtain ⟨mn,st,lf,ad,sv⟩:=mk
    simp only at c0 c1 c2 c3 c4 hF
    go_wp2_with fail
    refine (hF _ ht2).mono ?_
    rintro e w1 ⟨rfl,rfl⟩
    go_wp2_with fail
    go_ret
    exact ⟨.inr ⟨k,hlt,rfl,by rw [HMK.out];exact HF⟩,HB.out.alloc HB.out.size _⟩
   ·have HZ3:Hid (∀ j,j < k+1→(ms.getD j dm).name≠nm):=HZ2.out hkp
    rw [decide_eq_false hkp] at hF
    clear hkp HZ2 HY HZ
    generalize ms.getD k dm=mk at *
    obtain ⟨mn,st,lf,ad,sv⟩:=mk
    simp only at c0 c1 c2 c3 c4 hF
    go_wp2_with fail
    refine (hF _ ht2).mono ?_
    rintro e w1 ⟨rfl,rfl⟩
    go_wp2_with fail
    go_roundw
    case rel=>exact ⟨k+1,by omega,by go_num,HZ3,HB.out.alloc HB.out.size _⟩
    case measure=>simp [intOf];omega
  ·have HZ3:Hid (fstM ms nm=none):=fstM_none fun j hj=>HZ.out j (by have:=HN.out;omega)
   clear HZ
   go_wp2_with fail
   go_ret
   exact ⟨.inl ⟨rfl,HZ3⟩,HB.out⟩
theorem mOf_some {ms:List Mem} {t:ByteArray} {m:Mem} (h:fstM ms t=some m):mOf ms t=m:=by unfold mOf;rw [h];rfl
theorem mOf_none {ms:List Mem} {t:ByteArray} (h:fstM ms t=none):mOf ms t=dm:=by unfold mOf;rw [h];rfl
set_option maxHeartbeats 3200000 in
set_option maxRecDepth 100000 in
theorem wmember_any (b:Nat) (pm:Option Addr) (nm cm:Nat) (ms:List Mem) (t:ByteArray) (w:World) (hc:w.cell? ⟨b,2,none⟩=some (.slice pm nm cm)) (hm:Sl w (.slice pm nm cm) ms) (hn:nm≤1000) :
 Calls Tryz.prog 93 #[.pointer (some ⟨b,0,none⟩),.string t] w fun e w'=>e=.returned (.tuple #[.agg #[.string (mOf ms t).name,.int .i64 (mOf ms t).state,.int .i64 (mOf ms t).life,.int .i64 (mOf ms t).addr,.bool (mOf ms t).server],.bool (fstM ms t).isSome])∧Below w.heap.size w w':=by
 have HM:Hid (Sl w (.slice pm nm cm) ms):=hm
 have hb:b < w.heap.size:=World.block_lt_of_cell? w _ hc
 have HC:Hid (w.cell? ⟨b,2,none⟩=some (.slice pm nm cm)):=hc
 clear hm
 obtain ⟨W,hW⟩:∃ W,W=(w.alloc (.cells #[.string t] 9)).alloc (.cells #[.string ⟨#[]⟩,.int .i64 0,.int .i64 0,.int .i64 0,.bool false] 56):=⟨_,rfl⟩
 have hbW:Below w.heap.size w W:=by rw [hW];exact ((Below.refl _ _).alloc (Nat.le_refl _) _).alloc (by simp) _
 have hg1:W.heap[w.heap.size]?=some (.cells #[.string t] 9 (0,0)):=by
  rw [hW,Below.heap_alloc _ _ _ (by simp)];exact heap_alloc_new w _
 have hg2:W.heap[w.heap.size+1]?=some (.cells #[.string ⟨#[]⟩,.int .i64 0,.int .i64 0,.int .i64 0,.bool false] 56 (0,0)):=by
  have h:=heap_alloc_new (w.alloc (.cells #[.string t] 9)) (.cells #[.string ⟨#[]⟩,.int .i64 0,.int .i64 0,.int .i64 0,.bool false] 56)
  rw [hW];simpa using h
 have hsW:W.heap.size=w.heap.size+2:=by rw [hW];simp
 go_enter Tryz.func93,Tryz.ntmps93
 go_wp2_with fail
 rw [← hW]
 clear hW
 refine (wIndex_any ms pm nm cm _ t W (HM.out.below hbW) hn (cellsAt hg1 0)).mono ?_
 rintro e w1 ⟨hor,hb1⟩
 have h2:w1.heap[w.heap.size+1]?=_:=(hb1.block _ (by omega)).trans hg2
 have HB:Hid (Below w.heap.size w w1):=hbW.trans (hb1.mono (by omega))
 have HM1:Hid (Sl w1 (.slice pm nm cm) ms):=HM.out.below HB.out
 have d2:w1.cell? ⟨b,2,none⟩=some (.slice pm nm cm):=by rw [HB.out.cell (p:=⟨b,2,none⟩) hb];exact HC.out
 have r0:w1.cell? ⟨w.heap.size+1,0,none⟩=some (.string ⟨#[]⟩):=cellsAt h2 0
 have r1:w1.cell? ⟨w.heap.size+1,1,none⟩=some (.int .i64 0):=cellsAt h2 1
 have r2:w1.cell? ⟨w.heap.size+1,2,none⟩=some (.int .i64 0):=cellsAt h2 2
 have r3:w1.cell? ⟨w.heap.size+1,3,none⟩=some (.int .i64 0):=cellsAt h2 3
 have r4:w1.cell? ⟨w.heap.size+1,4,none⟩=some (.bool false):=cellsAt h2 4
 have z0:w1.frozen? ⟨w.heap.size+1,0,none⟩=false:=by simp [World.frozen?,h2]
 have z1:w1.frozen? ⟨w.heap.size+1,1,none⟩=false:=by simp [World.frozen?,h2]
 have z2:w1.frozen? ⟨w.heap.size+1,2,none⟩=false:=by simp [World.frozen?,h2]
 have z3:w1.frozen? ⟨w.heap.size+1,3,none⟩=false:=by simp [World.frozen?,h2]
 have z4:w1.frozen? ⟨w.heap.size+1,4,none⟩=false:=by simp [World.frozen?,h2]
 have hz2:w.heap.size+1 < w1.heap.size:=(Array.getElem?_eq_some_iff.1 h2).1
 clear hbW hg1 hg2 hb1 h2 hsW hc
 rcases hor with ⟨rfl,HF⟩ | ⟨i,hi,rfl,HF⟩
 ·have HO:Hid (mOf ms t=dm∧(fstM ms t).isSome=false):=⟨mOf_none HF.out,by rw [HF.out];rfl⟩
  go_wp2_with fail
  refine bodyPost_ret (v:=.tuple #[.agg #[.string ⟨#[]⟩,.int .i64 0,.int .i64 0,.int .i64 0,.bool false],.bool false]) ?_ rfl ⟨by rw [HO.out.1,HO.out.2];rfl,?_⟩
  ·simp [results,Tryz.results93,go_sem,r0,r1,r2,r3,r4]
  exact ((((HB.out.setCell (p:=⟨w.heap.size+1,0,none⟩) (by simp) _).setCell (p:=⟨w.heap.size+1,1,none⟩) (by simp) _).setCell (p:=⟨w.heap.size+1,2,none⟩) (by simp) _).setCell (p:=⟨w.heap.size+1,3,none⟩) (by simp) _).setCell (p:=⟨w.heap.size+1,4,none⟩) (by simp) _
 ·have HO:Hid (mOf ms t=ms.getD i dm∧(fstM ms t).isSome=true):=⟨mOf_some HF.out,by rw [HF.out];rfl⟩
  obtain ⟨pa',ca,he,_,ha⟩:=HM1.out
  simp only [Value.slice.injEq] at he
  obtain ⟨rfl,hN,rfl⟩:=he
  obtain ⟨b2,off,hp1,hl1,hr⟩:∃ b off,pm=some ⟨b,off,none⟩∧b < w1.heap.size∧Row w1 b off ms:=by
   rcases ha with h | h
   ·rw [h] at hN;simp at hN;omega
   ·exact h
  subst hp1
  obtain ⟨c0,c1,c2,c3,c4⟩:=hr i (by omega)
  clear hr hN ha HF
  generalize ms.getD i dm=mk at *
  obtain ⟨mn,st,lf,ad,sv⟩:=mk
  simp only at c0 c1 c2 c3 c4
  go_wp2_with fail
  refine bodyPost_ret (v:=.tuple #[.agg #[.string mn,.int .i64 st,.int .i64 lf,.int .i64 ad,.bool sv],.bool true]) ?_ rfl ⟨by rw [HO.out.1,HO.out.2],?_⟩
  ·simp [results,Tryz.results93,go_sem,r0,r1,r2,r3,r4]
  exact ((((HB.out.setCell (p:=⟨w.heap.size+1,0,none⟩) (by simp) _).setCell (p:=⟨w.heap.size+1,1,none⟩) (by simp) _).setCell (p:=⟨w.heap.size+1,2,none⟩) (by simp) _).setCell (p:=⟨w.heap.size+1,3,none⟩) (by simp) _).setCell (p:=⟨w.heap.size+1,4,none⟩) (by simp) _
def aheadP (ms:List Mem) (r:Rum):Bool:=match fstM ms r.m.name with
 | none=>true
 | some k=>newE r.m k == 0 && newM r.m k
set_option maxHeartbeats 3200000 in
set_option maxRecDepth 100000 in
theorem isAhead_any (b:Nat) (pm:Option Addr) (nm cm:Nat) (ms:List Mem) (r:Rum) (w:World) (hc:w.cell? ⟨b,2,none⟩=some (.slice pm nm cm)) (hm:Sl w (.slice pm nm cm) ms) (hn:nm≤1000) (hr:r.m.name.size≤maxLen) :
 Calls Tryz.prog 131 #[.pointer (some ⟨b,0,none⟩),.agg #[.string r.m.name,.int .i64 r.m.state,.int .i64 r.m.life,.int .i64 r.m.addr,.bool r.m.server,.int .i64 r.told]] w fun e w'=>e=.returned (.bool (aheadP ms r))∧Below w.heap.size w w':=by
 have hb:b < w.heap.size:=World.block_lt_of_cell? w _ hc
 have HS:Hid (∀ m,fstM ms r.m.name=some m→m.name.size≤maxLen):=fun m h=>by
  obtain ⟨a,c,he,hs,_⟩:=hm
  exact ns_mem hs m (fstM_mem h).1
 have HD:Hid (aheadP ms r=match fstM ms r.m.name with
  | none=>true
  | some k=>newE r.m k == 0 && newM r.m k):=rfl
 generalize aheadP ms r=res at *
 obtain ⟨W,hW⟩:∃ W,W=w.alloc (.cells #[.string r.m.name,.int .i64 r.m.state,.int .i64 r.m.life,.int .i64 r.m.addr,.bool r.m.server,.int .i64 r.told] 98):=⟨_,rfl⟩
 have hbW:Below w.heap.size w W:=by rw [hW];exact (Below.refl _ _).alloc (Nat.le_refl _) _
 have hg:W.heap[w.heap.size]?=some (.cells #[.string r.m.name,.int .i64 r.m.state,.int .i64 r.m.life,.int .i64 r.m.addr,.bool r.m.server,.int .i64 r.told] 98 (0,0)):=by rw [hW];exact heap_alloc_new w _
 have HCW:Hid (Calls Tryz.prog 93 #[.pointer (some ⟨b,0,none⟩),.string r.m.name] W fun e w'=>e=.returned (.tuple #[.agg #[.string (mOf ms r.m.name).name,.int .i64 (mOf ms r.m.name).state,.int .i64 (mOf ms r.m.name).life,.int .i64 (mOf ms r.m.name).addr,.bool (mOf ms r.m.name).server],.bool (fstM ms r.m.name).isSome])∧Below W.heap.size W w'):=
  wmember_any b pm nm cm ms r.m.name W (by rw [hbW.cell (p:=⟨b,2,none⟩) hb];exact hc) (hm.below hbW) hn
 have x0:W.cell? ⟨w.heap.size,0,none⟩=some (.string r.m.name):=cellsAt hg 0
 have hsW:W.heap.size=w.heap.size+1:=by rw [hW];simp
 clear hc hm
 go_enter Tryz.func131,Tryz.ntmps131
 go_wp2_with fail
 rw [← hW]
 clear hW
 refine HCW.out.mono ?_
 rintro e w1 ⟨rfl,hb1⟩
 have hg1:w1.heap[w.heap.size]?=_:=(hb1.block _ (by omega)).trans hg
 have y0:w1.cell? ⟨w.heap.size,0,none⟩=some (.string r.m.name):=cellsAt hg1 0
 have y1:w1.cell? ⟨w.heap.size,1,none⟩=some (.int .i64 r.m.state):=cellsAt hg1 1
 have y2:w1.cell? ⟨w.heap.size,2,none⟩=some (.int .i64 r.m.life):=cellsAt hg1 2
 have y3:w1.cell? ⟨w.heap.size,3,none⟩=some (.int .i64 r.m.addr):=cellsAt hg1 3
 have y4:w1.cell? ⟨w.heap.size,4,none⟩=some (.bool r.m.server):=cellsAt hg1 4
 have hs1:w.heap.size < w1.heap.size:=(Array.getElem?_eq_some_iff.1 hg1).1
 have HB1:Hid (Below w.heap.size w w1):=hbW.trans (hb1.mono (by omega))
 clear hb1 hg1 hg hbW HCW x0
 rcases hf:fstM ms r.m.name with _ | k
 ·have HR:Hid (res=true):=HD.out.trans (by rw [hf])
  have hmo:mOf ms r.m.name=dm:=mOf_none hf
  rw [hmo]
  clear hf hmo
  go_wp2_with fail
  go_ret
  exact ⟨ret_bool HR.out.symm,HB1.out.alloc HB1.out.size _⟩
 ·have HR:Hid (res=(newE r.m k == 0 && newM r.m k)):=HD.out.trans (by rw [hf])
  have hk:=HS.out k hf
  have hmo:mOf ms r.m.name=k:=mOf_some hf
  rw [hmo]
  clear hf hmo
  have HN:Hid (∀ W,Calls Tryz.prog 190 #[.agg #[.string r.m.name,.int .i64 r.m.state,.int .i64 r.m.life,.int .i64 r.m.addr,.bool r.m.server],.agg #[.string k.name,.int .i64 k.state,.int .i64 k.life,.int .i64 k.addr,.bool k.server]] W fun e w'=>e=.returned (.tuple #[.bool (newE r.m k == 0 && newM r.m k),.int .i64 (newE r.m k)])∧Below W.heap.size W w'):=fun W=>newer2_any r.m k W hr hk
  generalize (newE r.m k == 0 && newM r.m k)=q at *
  go_wp2_with fail
  refine (HN.out _).mono ?_
  rintro e w2 ⟨rfl,hb2⟩
  have HB2:Hid (Below w.heap.size w w2):=(HB1.out.alloc HB1.out.size _).trans (hb2.mono (by have:=HB1.out.size;simp;omega))
  clear hb2
  go_wp2_with fail
  go_ret
  exact ⟨ret_bool HR.out.symm,HB2.out⟩
set_option maxHeartbeats 1600000 in
set_option maxRecDepth 100000 in
theorem cIndex_any (b:Nat) (pm:Option Addr) (nm cm:Nat) (ms:List Mem) (rs:List Rum) (v:Value) (w:World) (hv:RSl w v rs) (hc:w.cell? ⟨b,2,none⟩=some (.slice pm nm cm)) (hm:Sl w (.slice pm nm cm) ms) (hn:nm≤1000) (hsm:rs.length≤1000) :
 Calls Tryz.prog 189 #[v,.func (.func 131) #[.pointer (some ⟨b,0,none⟩)] #[]] w fun e w'=>
  ((e=.returned (.int .i64 (-1))∧Hid (rs.any (aheadP ms)=false))∨(∃ i:Nat,i < rs.length∧e=.returned (.int .i64 i)∧Hid (rs.any (aheadP ms)=true)))∧Below w.heap.size w w':=by
 obtain ⟨pa,ca,rfl,hs,ha⟩:=hv
 have hb:b < w.heap.size:=World.block_lt_of_cell? w _ hc
 have HA:Hid (rs=[]∨∃ b off,pa=some ⟨b,off,none⟩∧b < w.heap.size∧RRow w b off rs):=ha
 have HS:Hid (∀ j,(rs.getD j dr).m.name.size≤maxLen):=hs
 have HI:Hid (∀ W,Below w.heap.size w W→∀ r:Rum,r.m.name.size≤maxLen→Calls Tryz.prog 131 #[.pointer (some ⟨b,0,none⟩),.agg #[.string r.m.name,.int .i64 r.m.state,.int .i64 r.m.life,.int .i64 r.m.addr,.bool r.m.server,.int .i64 r.told]] W fun e w'=>e=.returned (.bool (aheadP ms r))∧Below W.heap.size W w'):=fun W hW r hr=>
  isAhead_any b pm nm cm ms r W (by rw [hW.cell (p:=⟨b,2,none⟩) hb];exact hc) (hm.below hW) hn hr
 clear ha hs hc hm
 generalize hN:rs.length=n at *
 have HN:Hid (rs.length=n):=hN
 clear hN
 go_enter Tryz.func189,Tryz.ntmps189
 go_wp2_with fail
 go_loopw [8] (fun i wr=>∃ k:Nat,k≤n∧i=.int .i64 k∧Hid (∀ j,j < k→aheadP ms (rs.getD j dr)=false)∧Hid (Below w.heap.size w wr)) (fun i _=>n - (intOf i).toNat)
 case atStart=>exact ⟨0,Nat.zero_le _,rfl,fun j hj=>by omega,Below.refl _ _⟩
 case round=>
  obtain ⟨k,hk,rfl,HZ,HB⟩:=hrel
  by_cases hlt:k < n
  ·obtain ⟨b2,off,hp1,hl1,hr⟩:∃ b off,pa=some ⟨b,off,none⟩∧b < w.heap.size∧RRow w b off rs:=by
    rcases HA.out with h | h
    ·have:=HN.out;rw [h] at this;simp at this;omega
    ·exact h
   subst hp1
   obtain ⟨c0,c1,c2,c3,c4,c5⟩:=hr.below HB.out hl1 k (by rw [HN.out];exact hlt)
   clear hr
   have hnm:=HS.out k
   have HY:Hid (aheadP ms (rs.getD k dr)=true→rs.any (aheadP ms)=true):=fun h=>by
    rw [show rs.getD k dr=rs[k]'(by rw [HN.out];exact hlt) by simp [List.getD,List.getElem?_eq_getElem (show k < rs.length by rw [HN.out];exact hlt)]] at h
    exact List.any_eq_true.2 ⟨_,List.getElem_mem _,h⟩
   have HZ2:Hid (aheadP ms (rs.getD k dr)=false→∀ j,j < k+1→aheadP ms (rs.getD j dr)=false):=fun h j hj=>by
    by_cases e:j=k
    ·subst e;exact h
    ·exact HZ.out j (by omega)
   have HF:Hid (∀ W,Below w.heap.size w W→Calls Tryz.prog 131 #[.pointer (some ⟨b,0,none⟩),.agg #[.string (rs.getD k dr).m.name,.int .i64 (rs.getD k dr).m.state,.int .i64 (rs.getD k dr).m.life,.int .i64 (rs.getD k dr).m.addr,.bool (rs.getD k dr).m.server,.int .i64 (rs.getD k dr).told]] W fun e w'=>e=.returned (.bool (aheadP ms (rs.getD k dr)))∧Below W.heap.size W w'):=fun W hW=>HI.out W hW _ hnm
   generalize hah:aheadP ms (rs.getD k dr)=ah at *
   clear hah
   generalize rs.getD k dr=rk at *
   obtain ⟨⟨mn,st,lf,ad,sv⟩,td⟩:=rk
   simp only at c0 c1 c2 c3 c4 c5 HF
   clear HZ
   have hsz:=HB.out.size
   cases ah
   ·have HZ3:Hid (∀ j,j < k+1→aheadP ms (rs.getD j dr)=false):=HZ2.out rfl
    clear HY HZ2
    go_wp2_with fail
    refine (HF.out _ HB.out).mono ?_
    rintro e w1 ⟨rfl,hb1⟩
    have HB1:Hid (Below w.heap.size w w1):=HB.out.trans (hb1.mono hsz)
    clear hb1
    go_wp2_with fail
    go_roundw
    case rel=>exact ⟨k+1,by omega,by go_num,HZ3,HB1⟩
    case measure=>simp [intOf];omega
   ·have HR:Hid (rs.any (aheadP ms)=true):=HY.out rfl
    clear HY HZ2
    go_wp2_with fail
    refine (HF.out _ HB.out).mono ?_
    rintro e w1 ⟨rfl,hb1⟩
    have HB1:Hid (Below w.heap.size w w1):=HB.out.trans (hb1.mono hsz)
    clear hb1
    go_wp2_with fail
    go_ret
    exact ⟨.inr ⟨k,hlt,rfl,HR⟩,HB1.out⟩
  ·have HZ3:Hid (rs.any (aheadP ms)=false):=by
    rcases h:rs.any (aheadP ms) with _ | _
    ·rfl
    ·obtain ⟨r,hr,h2⟩:=List.any_eq_true.1 h
     obtain ⟨j,hj,rfl⟩:=List.getElem_of_mem hr
     have h3:=HZ.out j (by have:=HN.out;omega)
     rw [show rs.getD j dr=rs[j] by simp [List.getD,List.getElem?_eq_getElem hj],h2] at h3
     cases h3
   clear HZ
   go_wp2_with fail
   go_ret
   exact ⟨.inl ⟨rfl,HZ3⟩,HB.out⟩
set_option maxHeartbeats 1600000 in
theorem contains_any (b:Nat) (pm:Option Addr) (nm cm:Nat) (ms:List Mem) (rs:List Rum) (v:Value) (w:World) (hv:RSl w v rs) (hc:w.cell? ⟨b,2,none⟩=some (.slice pm nm cm)) (hm:Sl w (.slice pm nm cm) ms) (hn:nm≤1000) (hsm:rs.length≤1000) :
 Calls Tryz.prog 130 #[v,.func (.func 131) #[.pointer (some ⟨b,0,none⟩)] #[]] w fun e w'=>e=.returned (.bool (rs.any (aheadP ms)))∧Below w.heap.size w w':=by
 have HI:Hid (Calls Tryz.prog 189 #[v,.func (.func 131) #[.pointer (some ⟨b,0,none⟩)] #[]] w fun e w'=>
  ((e=.returned (.int .i64 (-1))∧Hid (rs.any (aheadP ms)=false))∨(∃ i:Nat,i < rs.length∧e=.returned (.int .i64 i)∧Hid (rs.any (aheadP ms)=true)))∧Below w.heap.size w w'):=cIndex_any b pm nm cm ms rs v w hv hc hm hn hsm
 clear hv hc hm
 generalize rs.any (aheadP ms)=q at *
 go_enter Tryz.func130,Tryz.ntmps130
 go_wp2_with fail
 refine HI.out.mono ?_
 rintro e w1 ⟨hor,hb1⟩
 have HB:Hid (Below w.heap.size w w1):=hb1
 clear hb1
 rcases hor with ⟨rfl,HF⟩ | ⟨i,hi,rfl,HF⟩
 ·go_wp2_with fail
  go_ret
  exact ⟨ret_bool HF.out.symm,HB.out⟩
 ·go_wp2_with fail
  go_ret
  exact ⟨ret_bool HF.out.symm,HB.out⟩
end Go.Proofs.YtffdoiokmiklgaaGreatDoor
namespace Go.Proofs.YtffdoiokmiklgaaGreatDoor
namespace Gw
open Go.RowKit
def sameM (x y:Gwy):Bool:=x.centre.toList == y.centre.toList && (x.addr == y.addr && (x.version == y.version))
theorem sameM_iff (x y:Gwy):sameM x y=true↔x=y:=by
 obtain ⟨x_centre,x_addr,x_version⟩:=x
 obtain ⟨y_centre,y_addr,y_version⟩:=y
 simp only [sameM,Bool.and_eq_true,beq_iff_eq,Gwy.mk.injEq,Lib.toList_data]
 constructor
 ·rintro ⟨h0,h1,h2⟩;exact ⟨ba_ext h0,h1,h2⟩
 ·rintro ⟨h0,h1,h2⟩;exact ⟨by rw [h0],h1,h2⟩
theorem eqInE (m1 m2:Gwy) (w:World):(Op.equalIn 10000 107 (.agg #[.string m1.centre,.int .i64 m1.addr,.int .i64 m1.version]) (.agg #[.string m2.centre,.int .i64 m2.addr,.int .i64 m2.version])).run Tryz.prog w=.ok (sameM m1 m2) w:=by
 have u3:=Tryz.underlying3
 have u9:=Tryz.underlying9
 have a3:=Tryz.isAgg3
 have z3:=Tryz.sizeOf3
 have a9:=Tryz.isAgg9
 have z9:=Tryz.sizeOf9
 have hS:Tryz.prog.underlying 107=some (.struct (Tryz.prog.fieldsOf 107)):=by kernel_rfl
 have hp:Tryz.prog.stoodInHeld 107=false:=by kernel_rfl
 rw [show (10000:Nat)=9999+1 from rfl,run_equalIn_agg w 9999 107 _ _ hS hp]
 simp only [Program.fieldsOf,Tryz.underlying107]
 go_simp
 unfold sameM
 by_cases h0:m1.centre.toList=m2.centre.toList
 case neg=>simp [h0]
 by_cases h1:m1.addr=m2.addr
 case neg=>simp [h0,h1]
 by_cases h2:m1.version=m2.version
 case neg=>simp [h0,h1,h2]
 simp [h0,h1,h2]
theorem neqE (m1 m2:Gwy) (w:World):Sem.run Tryz.prog (binOp .neq 107 (.agg #[.string m1.centre,.int .i64 m1.addr,.int .i64 m1.version]) (.agg #[.string m2.centre,.int .i64 m2.addr,.int .i64 m2.version])) w=.ok (.bool (!sameM m1 m2)) w:=by
 rw [run_neq_struct,eqInE]
 rfl
set_option maxHeartbeats 800000 in
theorem same_any (a b:List Gwy) (va vb:Value) (w:World) (ha:Sl w va a) (hb:Sl w vb b) (hsm:a.length≤1000) :
 Calls Tryz.prog 30 #[va,vb] w fun e w'=>∃ r:Bool,e=.returned (.bool r)∧(r=true↔a=b)∧Below w.heap.size w w':=by
 obtain ⟨pa,ca,rfl,_,ha⟩:=ha
 obtain ⟨pv,cb,rfl,_,hb⟩:=hb
 by_cases hl:a.length=b.length
 ·have HA:Hid (a=[]∨∃ b off,pa=some ⟨b,off,none⟩∧b < w.heap.size∧Row w b off a):=ha
  have HB:Hid (b=[]∨∃ b_1 off,pv=some ⟨b_1,off,none⟩∧b_1 < w.heap.size∧Row w b_1 off b):=hb
  have HL:Hid (a.length=b.length):=hl
  clear ha hb
  rw [← hl]
  clear hl
  generalize hna:a.length=n at *
  have HN:Hid (a.length=n):=hna
  clear hna
  have hg28:Tryz.prog.eqGuardType Tryz.prog.depth 107=false:=by kernel_rfl
  go_enter Tryz.func30,Tryz.ntmps30
  go_wp2_with fail
  go_loopw [5] (fun i w'=>∃ k:Nat,k≤n∧i=.int .i64 k∧Below w.heap.size w w'∧Hid (∀ j,j < k→a.getD j dm=b.getD j dm)) (fun i _=>n - (intOf i).toNat)
  case atStart=>exact ⟨0,Nat.zero_le _,rfl,Below.refl _ _,fun j h=>absurd h (Nat.not_lt_zero _)⟩
  case round=>
   obtain ⟨k,hk,rfl,hbl,hz⟩:=hrel
   obtain ⟨hbc,hbf⟩:=bcell hbl
   have hsz:=hbl.size
   by_cases hlt:k < n
   ·obtain ⟨b1,o1,hp1,hl1,hr1⟩:∃ b off,pa=some ⟨b,off,none⟩∧b < w.heap.size∧Row w b off a:=by
     rcases HA.out with h | h
     ·have:=HN.out;rw [h] at this;simp at this;omega
     ·exact h
    obtain ⟨b2,o2,hp2,hl2,hr2⟩:∃ b_1 off,pv=some ⟨b_1,off,none⟩∧b_1 < w.heap.size∧Row w b_1 off b:=by
     rcases HB.out with h | h
     ·have h2:=HN.out;have h3:=HL.out;rw [h] at h3;simp at h3;omega
     ·exact h
    subst hp1
    subst hp2
    obtain ⟨c0,c1,c2⟩:=hr1 k (by rw [HN.out];exact hlt)
    obtain ⟨d0,d1,d2⟩:=hr2 k (by have h2:=HN.out;have h3:=HL.out;omega)
    clear hr1 hr2
    have HF:Hid (a.getD k dm≠b.getD k dm→a≠b):=fun h e=>h (by rw [e])
    have HZ:Hid (a.getD k dm=b.getD k dm→∀ j,j < k+1→a.getD j dm=b.getD j dm):=fun h j hj=>by
     rcases Nat.lt_succ_iff_lt_or_eq.1 hj with h2 | rfl
     ·exact hz.out j h2
     ·exact h
    have hneq:=neqE (a.getD k dm) (b.getD k dm)
    generalize a.getD k dm=m1 at *
    generalize b.getD k dm=m2 at *
    rcases hs:sameM m1 m2 with _ | _
    ·rw [hs] at hneq
     have hne:Hid (a≠b):=HF.out (fun e=>by rw [← sameM_iff,hs] at e;cases e)
     go_wp2_with fail
     go_quiet (fail)
     go_wp2_with fail
     go_ret
     exact ⟨false,rfl,⟨fun h=>(by cases h),fun h=>absurd h hne.out⟩,below_drewN hbl _⟩
    ·rw [hs] at hneq
     have heq:Hid (m1=m2):=(sameM_iff m1 m2).1 hs
     go_wp2_with fail
     go_quiet (fail)
     go_wp2_with fail
     go_roundw
     case rel=>exact ⟨k+1,by omega,by go_num,below_drewN hbl _,HZ.out heq.out⟩
     case measure=>simp [intOf];omega
   ·have hfin:Hid (a=b):=by
     apply List.ext_getElem (HN.out.trans HL.out)
     intro j h1 h2
     have:=hz.out j (by have:=HN.out;omega)
     simpa [List.getD,List.getElem?_eq_getElem h1,List.getElem?_eq_getElem h2] using this
    go_wp2_with fail
    go_ret
    exact ⟨true,rfl,⟨fun _=>hfin.out,fun _=>rfl⟩,hbl⟩
 ·have hne:((a.length:Int) != (b.length:Int))=true:=by rw [bne_iff_ne];omega
  have HF:Hid (a≠b):=fun e=>hl (by rw [e])
  clear ha hb
  go_enter Tryz.func30,Tryz.ntmps30
  go_wp2_with fail
  go_ret
  exact ⟨false,rfl,⟨fun h=>(by cases h),fun h=>absurd h HF.out⟩,Below.refl _ _⟩
section
open Go.ChangeShapes Go.WideShapes Go.ChangeAt
variable {H:Type} {enc:TypeId × Value→H} {w:World} {base:Nat} {spare:Nat→Bool} {held:Bool}
end
end Gw
namespace Gw
open Go.RowKit
end Gw
namespace Gw
open Go.RowKit
end Gw
end Go.Proofs.YtffdoiokmiklgaaGreatDoor
namespace Go.Proofs.YtffdoiokmiklgaaGreatDoor
open Go.RowKit
abbrev ndA (n:Nd) (vm vr vs vg vw:Value):Array Value:=#[.string n.name,.string n.centre,vm,vr,vs,vg,.int .i64 n.p.x,.int .i64 n.p.y,.int .i64 n.p.z,.int .i64 n.p.h,.int .i64 n.p.s,vw]
structure NdIs (w:World) (n:Nd) (vm vr vs vg vw:Value):Prop where
 ms:Sl w vm n.ms
 rs:RSl w vr n.rs
 sv:Sv.Sl w vs n.sv
 gw:Gw.Sl w vg n.gw
 wh:Wh.Sl w vw n.wh
 name:n.name.size≤maxLen
 centre:n.centre.size≤maxLen
theorem NdIs.below {w w':World} {n:Nd} {vm vr vs vg vw:Value} (h:NdIs w n vm vr vs vg vw) (hb:Below w.heap.size w w'):NdIs w' n vm vr vs vg vw:=⟨h.ms.below hb,h.rs.below hb,h.sv.below hb,h.gw.below hb,h.wh.below hb,h.name,h.centre⟩
theorem Sl_nil (w:World):Sl w (.slice none 0 0) []:=⟨none,0,rfl,ns_get (fun m hm=>by simp at hm),.inl rfl⟩
theorem Sv.Sl_nil (w:World):Sv.Sl w (.slice none 0 0) []:=⟨none,0,rfl,Sv.ns_get (fun m hm=>by simp at hm),.inl rfl⟩
theorem Gw.Sl_nil (w:World):Gw.Sl w (.slice none 0 0) []:=⟨none,0,rfl,Gw.ns_get (fun m hm=>by simp at hm),.inl rfl⟩
theorem pk_where {nm:ByteArray} {wh:List Wh.Whe} (h:labB nm=true):Pk.e ⟨nm,true,[],[],[],wh⟩=Wh.chk wh:=by
 unfold Pk.e
 rw [if_pos (by simp [h])]
 rfl
theorem roomy_nil:Roomy (.slice none 0 0):=by unfold Roomy;exact Nat.le_refl _
theorem pcheck_where (nm:ByteArray) (wh:List Wh.Whe) (vw:Value) (W:World) (hwh:Wh.Sl W vw wh) (hnm:nm.size≤maxLen) (hl:labB nm=true) :
 Calls Tryz.prog 88 #[.agg #[.string nm,.bool true,.slice none 0 0,.slice none 0 0,.slice none 0 0,vw]] W fun e w'=>e=.returned (.int .i64 (Wh.chk wh))∧Below W.heap.size W w':=by
 have hp:PkIs W ⟨nm,true,[],[],[],wh⟩ (.slice none 0 0) (.slice none 0 0) (.slice none 0 0) vw:=⟨Sl_nil W,Sv.Sl_nil W,Gw.Sl_nil W,hwh,hnm,roomy_nil⟩
 rw [← pk_where hl]
 exact pcheck_any ⟨nm,true,[],[],[],wh⟩ (.slice none 0 0) (.slice none 0 0) (.slice none 0 0) vw W hp (.inl rfl)
theorem cell_topW {W:World} {cs:Array Value} {t:TypeId} {g k:Nat} (hg:g=W.heap.size):((W.alloc (.cells cs t)).drew).cell? ⟨g,k,none⟩=cs[k]?:=by subst hg;exact cellsAt (heap_alloc_new W _) k
theorem lab2_any (a b:ByteArray) (ha:a.size≤maxLen) (hb:b.size≤maxLen) (g c:Nat) (W:World) (h0:W.cell? ⟨g,0,none⟩=some (.string a)) (h1:W.cell? ⟨g,1,none⟩=some (.string b)) :
 Calls Tryz.prog 38 #[.slice (some ⟨g,0,none⟩) 2 c] W fun e w'=>e=.returned (.bool (labB a && labB b))∧w'=W:=by
 have h:=labels_any [a,b] g c W (fun j hj=>by
  have:j=0∨j=1:=by simp at hj;omega
  rcases this with rfl | rfl
  ·exact h0
  ·exact h1) (fun j=>by
  match j with
  | 0=>exact ha
  | 1=>exact hb
  | _+2=>simp [List.getD]) (by simp)
 rw [show [a,b].all labB=(labB a && labB b) by simp] at h
 exact h
set_option maxHeartbeats 12800000 in
set_option maxRecDepth 100000 in
theorem checkParts_any (n:Nd) (b:Nat) (vm vr vs vg vw:Value) (w:World) (h:NdIs w n vm vr vs vg vw) (hg:w.heap[b]?=some (.cells (ndA n vm vr vs vg vw) 133 (0,0))) :
 Calls Tryz.prog 86 #[.pointer (some ⟨b,0,none⟩)] w fun e w'=>e=.returned (.int .i64 n.pE)∧Below w.heap.size w w':=by
 obtain ⟨nm,ct,ms,rs,sv,gw,⟨px,py,pz,ph,pq⟩,wh⟩:=n
 obtain ⟨hms,hrs,hsv,hgw,hwh,hnm,hct⟩:=h
 simp only at hms hrs hsv hgw hwh hnm hct hg
 have hb:b < w.heap.size:=(Array.getElem?_eq_some_iff.1 hg).1
 have HM:Hid (∀ W,Below w.heap.size w W→Calls Tryz.prog 125 #[vm] W fun e w'=>e=.returned (.int .i64 (chk ms))∧Below W.heap.size W w'):=fun W hW=>check_any ms vm W (hms.below hW)
 have HRC:Hid (∀ W,Below w.heap.size w W→Calls Tryz.prog 126 #[vr] W fun e w'=>e=.returned (.int .i64 (chkR rs))∧Below W.heap.size W w'):=fun W hW=>checkR_any rs vr W (hrs.below hW)
 have HS:Hid (∀ W,Below w.heap.size w W→Calls Tryz.prog 127 #[vs] W fun e w'=>e=.returned (.int .i64 (Sv.chk sv))∧Below W.heap.size W w'):=fun W hW=>Sv.check_any sv vs W (hsv.below hW)
 have HG:Hid (∀ W,Below w.heap.size w W→Calls Tryz.prog 128 #[vg] W fun e w'=>e=.returned (.int .i64 (Gw.chk gw))∧Below W.heap.size W w'):=fun W hW=>Gw.check_any gw vg W (hgw.below hW)
 have HP:Hid (∀ W,Below w.heap.size w W→Calls Tryz.prog 129 #[.agg #[.int .i64 px,.int .i64 py,.int .i64 pz,.int .i64 ph,.int .i64 pq]] W fun e w'=>e=.returned (.int .i64 (chkP ⟨px,py,pz,ph,pq⟩))∧Below W.heap.size W w'):=fun W _=>checkP_any ⟨px,py,pz,ph,pq⟩ W
 have HX:Hid (∀ W,Below w.heap.size w W→W.cell? ⟨b,0,none⟩=some (.string nm)∧W.cell? ⟨b,1,none⟩=some (.string ct)∧W.cell? ⟨b,2,none⟩=some vm∧W.cell? ⟨b,3,none⟩=some vr∧W.cell? ⟨b,4,none⟩=some vs∧W.cell? ⟨b,5,none⟩=some vg∧W.cell? ⟨b,6,none⟩=some (.int .i64 px)∧W.cell? ⟨b,7,none⟩=some (.int .i64 py)∧W.cell? ⟨b,8,none⟩=some (.int .i64 pz)∧W.cell? ⟨b,9,none⟩=some (.int .i64 ph)∧W.cell? ⟨b,10,none⟩=some (.int .i64 pq)∧W.cell? ⟨b,11,none⟩=some vw):=fun W hW=>
  have hg':=(hW.block _ hb).trans hg
  ⟨cellsAt hg' 0,cellsAt hg' 1,cellsAt hg' 2,cellsAt hg' 3,cellsAt hg' 4,cellsAt hg' 5,cellsAt hg' 6,cellsAt hg' 7,cellsAt hg' 8,cellsAt hg' 9,cellsAt hg' 10,cellsAt hg' 11⟩
 have HE:Nd.pE ⟨nm,ct,ms,rs,sv,gw,⟨px,py,pz,ph,pq⟩,wh⟩=if (labB nm && labB ct)=true then
  (if chk ms=0 then (if chkR rs=0 then (if Sv.chk sv=0 then (if Gw.chk gw=0 then (if chkP ⟨px,py,pz,ph,pq⟩=0 then Wh.chk wh else chkP ⟨px,py,pz,ph,pq⟩) else Gw.chk gw) else Sv.chk sv) else chkR rs) else chk ms) else 1:=by unfold Nd.pE;with_reducible rfl
 have HL:Hid (∀ (W:World) (g:Nat),W.cell? ⟨g,0,none⟩=some (.string nm)→W.cell? ⟨g,1,none⟩=some (.string ct)→Calls Tryz.prog 38 #[.slice (some ⟨g,0,none⟩) 2 2] W fun e w'=>e=.returned (.bool (labB nm && labB ct))∧w'=W):=fun W g h0 h1=>lab2_any nm ct hnm hct g 2 W h0 h1
 have HW:Hid (labB nm=true→∀ W,Below w.heap.size w W→Calls Tryz.prog 88 #[.agg #[.string nm,.bool true,.slice none 0 0,.slice none 0 0,.slice none 0 0,vw]] W fun e w'=>e=.returned (.int .i64 (Wh.chk wh))∧Below W.heap.size W w'):=fun hl W hW=>pcheck_where nm wh vw W (hwh.below hW) hnm hl
 have HLN:Hid ((labB nm && labB ct)=true→labB nm=true):=fun h=>by rw [Bool.and_eq_true] at h;exact h.1
 generalize (labB nm && labB ct)=lb at *
 generalize Nd.pE ⟨nm,ct,ms,rs,sv,gw,⟨px,py,pz,ph,pq⟩,wh⟩=res at *
 generalize chk ms=m1 at *
 generalize chkR rs=r1 at *
 generalize Sv.chk sv=s1 at *
 generalize Gw.chk gw=g1 at *
 generalize chkP ⟨px,py,pz,ph,pq⟩=p1 at *
 generalize Wh.chk wh=wz at *
 obtain ⟨a5,c5,rfl,_,_⟩:=hwh
 generalize wh.length=n5 at *
 clear hms hrs hsv hgw
 obtain ⟨y0,y1,y2,y3,y4,y5,y6,y7,y8,y9,y10,y11⟩:=HX.out w (Below.refl _ _)
 clear hg
 go_enter Tryz.func86,Tryz.ntmps86
 go_wp2_with fail
 go_region_held3 (fun w'=>w'.cell? ⟨b,0,none⟩=some (.string nm)∧w'.cell? ⟨b,1,none⟩=some (.string ct)) (go_keep) (first | (go_at_call 38;refine (HL.out _ _ (cell_topW rfl) (cell_topW rfl)).mono ?_;rintro e w' ⟨rfl,rfl⟩))
 obtain ⟨W0,hW0⟩:∃ W0,W0=(w.alloc (.cells #[.string nm,.string ct] 9)).drew:=⟨_,rfl⟩
 have HB0:Hid (Below w.heap.size w W0):=by rw [hW0];exact ((Below.refl _ _).alloc (Nat.le_refl _) _).drew
 rw [← hW0]
 clear hW0 HL y0 y1 y2 y3 y4 y5 y6 y7 y8 y9 y10 y11
 obtain ⟨y0,y1,y2,y3,y4,y5,y6,y7,y8,y9,y10,y11⟩:=HX.out W0 HB0.out
 cases lb
 ·rw [if_neg (by simp)] at HE
  have HR:Hid (res=1):=HE
  clear HE
  go_wp2_with fail
  go_ret
  exact ⟨ret_int HR.out.symm,HB0.out⟩
 rw [if_pos rfl] at HE
 have HW:Hid (∀ W,Below w.heap.size w W→Calls Tryz.prog 88 #[.agg #[.string nm,.bool true,.slice none 0 0,.slice none 0 0,.slice none 0 0,.slice a5 n5 c5]] W fun e w'=>e=.returned (.int .i64 wz)∧Below W.heap.size W w'):=HW.out (HLN.out rfl)
 go_wp2_with fail
 refine (HM.out _ HB0.out).mono ?_
 rintro e w1 ⟨rfl,hb1⟩
 have HB1:Hid (Below w.heap.size w w1):=HB0.out.trans (hb1.mono HB0.out.size)
 clear hb1 y0 y1 y2 y3 y4 y5 y6 y7 y8 y9 y10 y11
 obtain ⟨y0,y1,y2,y3,y4,y5,y6,y7,y8,y9,y10,y11⟩:=HX.out w1 HB1.out
 by_cases hm1:m1=0
 ·rw [if_pos hm1] at HE
  subst hm1
  go_wp2_with fail
  refine (HRC.out _ HB1.out).mono ?_
  rintro e w2 ⟨rfl,hb2⟩
  have HB2:Hid (Below w.heap.size w w2):=HB1.out.trans (hb2.mono HB1.out.size)
  clear hb2 y0 y1 y2 y3 y4 y5 y6 y7 y8 y9 y10 y11
  obtain ⟨y0,y1,y2,y3,y4,y5,y6,y7,y8,y9,y10,y11⟩:=HX.out w2 HB2.out
  by_cases hr1:r1=0
  ·rw [if_pos hr1] at HE
   subst hr1
   go_wp2_with fail
   refine (HS.out _ HB2.out).mono ?_
   rintro e w3 ⟨rfl,hb3⟩
   have HB3:Hid (Below w.heap.size w w3):=HB2.out.trans (hb3.mono HB2.out.size)
   clear hb3 y0 y1 y2 y3 y4 y5 y6 y7 y8 y9 y10 y11
   obtain ⟨y0,y1,y2,y3,y4,y5,y6,y7,y8,y9,y10,y11⟩:=HX.out w3 HB3.out
   by_cases hs1:s1=0
   ·rw [if_pos hs1] at HE
    subst hs1
    go_wp2_with fail
    refine (HG.out _ HB3.out).mono ?_
    rintro e w4 ⟨rfl,hb4⟩
    have HB4:Hid (Below w.heap.size w w4):=HB3.out.trans (hb4.mono HB3.out.size)
    clear hb4 y0 y1 y2 y3 y4 y5 y6 y7 y8 y9 y10 y11
    obtain ⟨y0,y1,y2,y3,y4,y5,y6,y7,y8,y9,y10,y11⟩:=HX.out w4 HB4.out
    by_cases hg1:g1=0
    ·rw [if_pos hg1] at HE
     subst hg1
     go_wp2_with fail
     refine (HP.out _ HB4.out).mono ?_
     rintro e w5 ⟨rfl,hb5⟩
     have HB5:Hid (Below w.heap.size w w5):=HB4.out.trans (hb5.mono HB4.out.size)
     clear hb5 y0 y1 y2 y3 y4 y5 y6 y7 y8 y9 y10 y11
     obtain ⟨y0,y1,y2,y3,y4,y5,y6,y7,y8,y9,y10,y11⟩:=HX.out w5 HB5.out
     by_cases hp1:p1=0
     ·rw [if_pos hp1] at HE
      subst hp1
      go_wp2_with fail
      go_region_held3 (fun w'=>w'.cell? ⟨b,0,none⟩=some (.string nm)∧w'.cell? ⟨b,11,none⟩=some (.slice a5 n5 c5)) (first | assumption | go_keep) (first | (go_at_call 88;refine (HW.out _ HB5.out.drew).mono ?_;rintro e w9 ⟨rfl,hb9⟩;have HB9:Hid (Below w.heap.size w w9):=HB5.out.drew.trans (hb9.mono HB5.out.size);have hS:w9.cell? ⟨b,0,none⟩=some (.string nm)∧w9.cell? ⟨b,11,none⟩=some (.slice a5 n5 c5):=⟨(HX.out w9 HB9.out).1,(HX.out w9 HB9.out).2.2.2.2.2.2.2.2.2.2.2⟩))
      go_wp2_with fail
      go_ret
      exact ⟨ret_int HE.symm,HB9.out⟩
     ·have hp1':(p1 != 0)=true:=by simpa using hp1
      rw [if_neg hp1] at HE
      have HR:Hid (res=p1):=HE
      clear hp1 HE
      go_wp2_with fail
      go_ret
      exact ⟨ret_int HR.out.symm,HB5.out⟩
    ·have hg1':(g1 != 0)=true:=by simpa using hg1
     rw [if_neg hg1] at HE
     have HR:Hid (res=g1):=HE
     clear hg1 HE
     go_wp2_with fail
     go_ret
     exact ⟨ret_int HR.out.symm,HB4.out⟩
   ·have hs1':(s1 != 0)=true:=by simpa using hs1
    rw [if_neg hs1] at HE
    have HR:Hid (res=s1):=HE
    clear hs1 HE
    go_wp2_with fail
    go_ret
    exact ⟨ret_int HR.out.symm,HB3.out⟩
  ·have hr1':(r1 != 0)=true:=by simpa using hr1
   rw [if_neg hr1] at HE
   have HR:Hid (res=r1):=HE
   clear hr1 HE
   go_wp2_with fail
   go_ret
   exact ⟨ret_int HR.out.symm,HB2.out⟩
 ·have hm1':(m1 != 0)=true:=by simpa using hm1
  rw [if_neg hm1] at HE
  have HR:Hid (res=m1):=HE
  clear hm1 HE
  go_wp2_with fail
  go_ret
  exact ⟨ret_int HR.out.symm,HB1.out⟩
end Go.Proofs.YtffdoiokmiklgaaGreatDoor
namespace Go.Proofs.YtffdoiokmiklgaaGreatDoor
namespace Gw
open Go.RowKit
set_option maxHeartbeats 800000 in
theorem equal_any (a b:List Gwy) (va vb:Value) (w:World) (ha:Sl w va a) (hb:Sl w vb b) (hsm:a.length≤1000) :
 Calls Tryz.prog 56 #[va,vb] w fun e w'=>∃ r:Bool,e=.returned (.bool r)∧(r=true↔a=b)∧Below w.heap.size w w':=by
 obtain ⟨pa,ca,rfl,_,ha⟩:=ha
 obtain ⟨pv,cb,rfl,_,hb⟩:=hb
 by_cases hl:a.length=b.length
 ·have HA:Hid (a=[]∨∃ b off,pa=some ⟨b,off,none⟩∧b < w.heap.size∧Row w b off a):=ha
  have HB:Hid (b=[]∨∃ b_1 off,pv=some ⟨b_1,off,none⟩∧b_1 < w.heap.size∧Row w b_1 off b):=hb
  have HL:Hid (a.length=b.length):=hl
  clear ha hb
  rw [← hl]
  clear hl
  generalize hna:a.length=n at *
  have HN:Hid (a.length=n):=hna
  clear hna
  have hg28:Tryz.prog.eqGuardType Tryz.prog.depth 107=false:=by kernel_rfl
  go_enter Tryz.func56,Tryz.ntmps56
  go_wp2_with fail
  go_loopw [13] (fun i w'=>∃ k:Nat,k≤n∧i=.int .i64 k∧Below w.heap.size w w'∧Hid (∀ j,j < k→a.getD j dm=b.getD j dm)) (fun i _=>n - (intOf i).toNat)
  case atStart=>exact ⟨0,Nat.zero_le _,rfl,Below.refl _ _,fun j h=>absurd h (Nat.not_lt_zero _)⟩
  case round=>
   obtain ⟨k,hk,rfl,hbl,hz⟩:=hrel
   obtain ⟨hbc,hbf⟩:=bcell hbl
   have hsz:=hbl.size
   by_cases hlt:k < n
   ·obtain ⟨b1,o1,hp1,hl1,hr1⟩:∃ b off,pa=some ⟨b,off,none⟩∧b < w.heap.size∧Row w b off a:=by
     rcases HA.out with h | h
     ·have:=HN.out;rw [h] at this;simp at this;omega
     ·exact h
    obtain ⟨b2,o2,hp2,hl2,hr2⟩:∃ b_1 off,pv=some ⟨b_1,off,none⟩∧b_1 < w.heap.size∧Row w b_1 off b:=by
     rcases HB.out with h | h
     ·have h2:=HN.out;have h3:=HL.out;rw [h] at h3;simp at h3;omega
     ·exact h
    subst hp1
    subst hp2
    obtain ⟨c0,c1,c2⟩:=hr1 k (by rw [HN.out];exact hlt)
    obtain ⟨d0,d1,d2⟩:=hr2 k (by have h2:=HN.out;have h3:=HL.out;omega)
    clear hr1 hr2
    have HF:Hid (a.getD k dm≠b.getD k dm→a≠b):=fun h e=>h (by rw [e])
    have HZ:Hid (a.getD k dm=b.getD k dm→∀ j,j < k+1→a.getD j dm=b.getD j dm):=fun h j hj=>by
     rcases Nat.lt_succ_iff_lt_or_eq.1 hj with h2 | rfl
     ·exact hz.out j h2
     ·exact h
    have hneq:=neqE (a.getD k dm) (b.getD k dm)
    generalize a.getD k dm=m1 at *
    generalize b.getD k dm=m2 at *
    rcases hs:sameM m1 m2 with _ | _
    ·rw [hs] at hneq
     have hne:Hid (a≠b):=HF.out (fun e=>by rw [← sameM_iff,hs] at e;cases e)
     go_wp2_with fail
     go_quiet (fail)
     go_wp2_with fail
     go_ret
     exact ⟨false,rfl,⟨fun h=>(by cases h),fun h=>absurd h hne.out⟩,below_drewN hbl _⟩
    ·rw [hs] at hneq
     have heq:Hid (m1=m2):=(sameM_iff m1 m2).1 hs
     go_wp2_with fail
     go_quiet (fail)
     go_wp2_with fail
     go_roundw
     case rel=>exact ⟨k+1,by omega,by go_num,below_drewN hbl _,HZ.out heq.out⟩
     case measure=>simp [intOf];omega
   ·have hfin:Hid (a=b):=by
     apply List.ext_getElem (HN.out.trans HL.out)
     intro j h1 h2
     have:=hz.out j (by have:=HN.out;omega)
     simpa [List.getD,List.getElem?_eq_getElem h1,List.getElem?_eq_getElem h2] using this
    go_wp2_with fail
    go_ret
    exact ⟨true,rfl,⟨fun _=>hfin.out,fun _=>rfl⟩,hbl⟩
 ·have hne:((a.length:Int) != (b.length:Int))=true:=by rw [bne_iff_ne];omega
  have HF:Hid (a≠b):=fun e=>hl (by rw [e])
  clear ha hb
  go_enter Tryz.func56,Tryz.ntmps56
  go_wp2_with fail
  go_ret
  exact ⟨false,rfl,⟨fun h=>(by cases h),fun h=>absurd h HF.out⟩,Below.refl _ _⟩
end Gw
namespace Gw
open Go.RowKit
end Gw
namespace Gw
open Go.RowKit
end Gw
end Go.Proofs.YtffdoiokmiklgaaGreatDoor
