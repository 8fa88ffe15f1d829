import Derived.Test.YtikgjgmgbfjcgaaGreatQ15
import Derived.Test.YtikgjgmgbfjcgaaGreatQ18
import Derived.Test.YtikgjgmgbfjcgaaGreatQ17
import Derived.Laws.EntriesVeiled
import Derived.Test.YtikgjgmgbfjcgaaGreatQ19
import Derived.Test.YtikgjgmgbfjcgaaGreatQ6
import Derived.Test.YtikgjgmgbfjcgaaGreatQ8
import Derived.Test.YtikgjgmgbfjcgaaGreatQ2
import Derived.Lib.SmallJoins
import Derived.Deep.Cut
import Derived.Below
namespace Go.Proofs.YtikgjgmgbfjcgaaGreat
open Go.RowKit
set_option maxHeartbeats 800000 in
theorem wIsIt_any (m:Mem) (nb:Nat) (nm:ByteArray) (w:World) (h:w.cell? ⟨nb,0,none⟩=some (.string nm)) :
 Calls Tryz.prog 154 #[.agg #[.string m.name,.int .i64 m.state,.int .i64 m.life,.int .i64 m.addr,.bool m.server],.pointer (some ⟨nb,0,none⟩)] w fun e w'=>e=.returned (.bool (decide (m.name=nm)))∧w'=w.alloc (.cells #[.string m.name,.int .i64 m.state,.int .i64 m.life,.int .i64 m.addr,.bool m.server] 37):=by
 have hb:nb < w.heap.size:=World.block_lt_of_cell? w _ h
 have h2:∀ ob,(w.alloc ob).cell? ⟨nb,0,none⟩=some (.string nm):=fun ob=>by
  rw [((Below.refl w.heap.size w).alloc (Nat.le_refl _) ob).cell (p:=⟨nb,0,none⟩) hb];exact h
 obtain ⟨mn,st,lf,ad,sv⟩:=m
 go_enter Tryz.func154,Tryz.ntmps154
 go_wp2_with fail
 go_ret
 exact ⟨ret_bool (beq_names _ _),rfl⟩
set_option maxHeartbeats 1600000 in
theorem wIndex_any (ms:List Mem) (pa:Option Addr) (n c nb:Nat) (nm:ByteArray) (w:World) (hv:Sl w (.slice pa n c) ms) (hsm:n≤1000) (ht:w.cell? ⟨nb,0,none⟩=some (.string nm)) :
 Calls Tryz.prog 155 #[.slice pa n c,.func (.func 154) #[] #[.pointer (some ⟨nb,0,none⟩)]] w fun e w'=>
  ((e=.returned (.int .i64 (-1))∧Hid (fstM ms nm=none))∨(∃ i:Nat,i < n∧e=.returned (.int .i64 i)∧Hid (fstM ms nm=some (ms.getD i dm))))∧Below w.heap.size w w':=by
 obtain ⟨pa',ca,he,_,ha⟩:=hv
 simp only [Value.slice.injEq] at he
 obtain ⟨rfl,hN,rfl⟩:=he
 have HA:Hid (ms=[]∨∃ b off,pa=some ⟨b,off,none⟩∧b < w.heap.size∧Row w b off ms):=ha
 have HN:Hid (ms.length=n):=hN.symm
 have HT:Hid (w.cell? ⟨nb,0,none⟩=some (.string nm)):=ht
 have htb:nb < w.heap.size:=World.block_lt_of_cell? w _ ht
 clear ha hN ht
 go_enter Tryz.func155,Tryz.ntmps155
 go_wp2_with fail
 go_loopw [8] (fun i wr=>∃ k:Nat,k≤n∧i=.int .i64 k∧Hid (∀ j,j < k→(ms.getD j dm).name≠nm)∧Hid (Below w.heap.size w wr)) (fun i _=>n - (intOf i).toNat)
 case atStart=>exact ⟨0,Nat.zero_le _,rfl,fun j hj=>by omega,Below.refl _ _⟩
 case round=>
  obtain ⟨k,hk,rfl,HZ,HB⟩:=hrel
  by_cases hlt:k < n
  ·obtain ⟨b,off,hp1,hl1,hr⟩:∃ b off,pa=some ⟨b,off,none⟩∧b < w.heap.size∧Row w b off ms:=by
    rcases HA.out with h | h
    ·have:=HN.out;rw [h] at this;simp at this;omega
    ·exact h
   subst hp1
   obtain ⟨c0,c1,c2,c3,c4⟩:=hr.later HB.out hl1 k (by rw [HN.out];exact hlt)
   clear hr
   have ht2:wr.cell? ⟨nb,0,none⟩=some (.string nm):=by rw [HB.out.cell (p:=⟨nb,0,none⟩) htb];exact HT.out
   have HY:Hid ((ms.getD k dm).name=nm→fstM ms nm=some (ms.getD k dm)):=fun h=>fstM_some (by rw [HN.out];exact hlt) HZ.out h
   have HZ2:Hid ((ms.getD k dm).name≠nm→∀ j,j < k+1→(ms.getD j dm).name≠nm):=fun h j hj=>by
    by_cases e:j=k
    ·subst e;exact h
    ·exact HZ.out j (by omega)
   have hF:=fun w h=>wIsIt_any (ms.getD k dm) nb nm w h
   by_cases hkp:(ms.getD k dm).name=nm
   ·have HF:Hid (fstM ms nm=some (ms.getD k dm)):=HY.out hkp
    rw [decide_eq_true hkp] at hF
    clear hkp HZ2 HY
    generalize hmk:ms.getD k dm=mk at *
    have HMK:Hid (ms.getD k dm=mk):=hmk
    clear hmk
    obtain ⟨mn,st,lf,ad,sv⟩:=mk
    simp only at c0 c1 c2 c3 c4 hF
    go_wp2_with fail
    refine (hF _ ht2).mono ?_
    rintro e w1 ⟨rfl,rfl⟩
    go_wp2_with fail
    go_ret
    exact ⟨.inr ⟨k,hlt,rfl,by rw [HMK.out];exact HF⟩,HB.out.alloc HB.out.size _⟩
   ·have HZ3:Hid (∀ j,j < k+1→(ms.getD j dm).name≠nm):=HZ2.out hkp
    rw [decide_eq_false hkp] at hF
    clear hkp HZ2 HY HZ
    generalize ms.getD k dm=mk at *
    obtain ⟨mn,st,lf,ad,sv⟩:=mk
    simp only at c0 c1 c2 c3 c4 hF
    go_wp2_with fail
    refine (hF _ ht2).mono ?_
    rintro e w1 ⟨rfl,rfl⟩
    go_wp2_with fail
    go_roundw
    case rel=>exact ⟨k+1,by omega,by go_num,HZ3,HB.out.alloc HB.out.size _⟩
    case measure=>simp [intOf];omega
  ·have HZ3:Hid (fstM ms nm=none):=fstM_none fun j hj=>HZ.out j (by have:=HN.out;omega)
   clear HZ
   go_wp2_with fail
   go_ret
   exact ⟨.inl ⟨rfl,HZ3⟩,HB.out⟩
theorem mOf_some {ms:List Mem} {t:ByteArray} {m:Mem} (h:fstM ms t=some m):mOf ms t=m:=by unfold mOf;rw [h];rfl
theorem mOf_none {ms:List Mem} {t:ByteArray} (h:fstM ms t=none):mOf ms t=dm:=by unfold mOf;rw [h];rfl
set_option maxHeartbeats 3200000 in
set_option maxRecDepth 100000 in
theorem wmember_any (b:Nat) (pm:Option Addr) (nm cm:Nat) (ms:List Mem) (t:ByteArray) (w:World) (hc:w.cell? ⟨b,2,none⟩=some (.slice pm nm cm)) (hm:Sl w (.slice pm nm cm) ms) (hn:nm≤1000) :
 Calls Tryz.prog 104 #[.pointer (some ⟨b,0,none⟩),.string t] w fun e w'=>e=.returned (.tuple #[.agg #[.string (mOf ms t).name,.int .i64 (mOf ms t).state,.int .i64 (mOf ms t).life,.int .i64 (mOf ms t).addr,.bool (mOf ms t).server],.bool (fstM ms t).isSome])∧Below w.heap.size w w':=by
 have HM:Hid (Sl w (.slice pm nm cm) ms):=hm
 have hb:b < w.heap.size:=World.block_lt_of_cell? w _ hc
 have HC:Hid (w.cell? ⟨b,2,none⟩=some (.slice pm nm cm)):=hc
 clear hm
 obtain ⟨W,hW⟩:∃ W,W=(w.alloc (.cells #[.string t] 9)).alloc (.cells #[.string ⟨#[]⟩,.int .i64 0,.int .i64 0,.int .i64 0,.bool false] 37):=⟨_,rfl⟩
 have hbW:Below w.heap.size w W:=by rw [hW];exact ((Below.refl _ _).alloc (Nat.le_refl _) _).alloc (by simp) _
 have hg1:W.heap[w.heap.size]?=some (.cells #[.string t] 9 (0,0)):=by
  rw [hW,Below.heap_alloc _ _ _ (by simp)];exact heap_alloc_new w _
 have hg2:W.heap[w.heap.size+1]?=some (.cells #[.string ⟨#[]⟩,.int .i64 0,.int .i64 0,.int .i64 0,.bool false] 37 (0,0)):=by
  have h:=heap_alloc_new (w.alloc (.cells #[.string t] 9)) (.cells #[.string ⟨#[]⟩,.int .i64 0,.int .i64 0,.int .i64 0,.bool false] 37)
  rw [hW];simpa using h
 have hsW:W.heap.size=w.heap.size+2:=by rw [hW];simp
 go_enter Tryz.func104,Tryz.ntmps104
 go_wp2_with fail
 rw [← hW]
 clear hW
 refine (wIndex_any ms pm nm cm _ t W (HM.out.below hbW) hn (cellsAt hg1 0)).mono ?_
 rintro e w1 ⟨hor,hb1⟩
 have h2:w1.heap[w.heap.size+1]?=_:=(hb1.block _ (by omega)).trans hg2
 have HB:Hid (Below w.heap.size w w1):=hbW.trans (hb1.mono (by omega))
 have HM1:Hid (Sl w1 (.slice pm nm cm) ms):=HM.out.below HB.out
 have d2:w1.cell? ⟨b,2,none⟩=some (.slice pm nm cm):=by rw [HB.out.cell (p:=⟨b,2,none⟩) hb];exact HC.out
 have r0:w1.cell? ⟨w.heap.size+1,0,none⟩=some (.string ⟨#[]⟩):=cellsAt h2 0
 have r1:w1.cell? ⟨w.heap.size+1,1,none⟩=some (.int .i64 0):=cellsAt h2 1
 have r2:w1.cell? ⟨w.heap.size+1,2,none⟩=some (.int .i64 0):=cellsAt h2 2
 have r3:w1.cell? ⟨w.heap.size+1,3,none⟩=some (.int .i64 0):=cellsAt h2 3
 have r4:w1.cell? ⟨w.heap.size+1,4,none⟩=some (.bool false):=cellsAt h2 4
 have z0:w1.frozen? ⟨w.heap.size+1,0,none⟩=false:=by simp [World.frozen?,h2]
 have z1:w1.frozen? ⟨w.heap.size+1,1,none⟩=false:=by simp [World.frozen?,h2]
 have z2:w1.frozen? ⟨w.heap.size+1,2,none⟩=false:=by simp [World.frozen?,h2]
 have z3:w1.frozen? ⟨w.heap.size+1,3,none⟩=false:=by simp [World.frozen?,h2]
 have z4:w1.frozen? ⟨w.heap.size+1,4,none⟩=false:=by simp [World.frozen?,h2]
 have hz2:w.heap.size+1 < w1.heap.size:=(Array.getElem?_eq_some_iff.1 h2).1
 clear hbW hg1 hg2 hb1 h2 hsW hc
 rcases hor with ⟨rfl,HF⟩ | ⟨i,hi,rfl,HF⟩
 ·have HO:Hid (mOf ms t=dm∧(fstM ms t).isSome=false):=⟨mOf_none HF.out,by rw [HF.out];rfl⟩
  go_wp2_with fail
  refine bodyPost_ret (v:=.tuple #[.agg #[.string ⟨#[]⟩,.int .i64 0,.int .i64 0,.int .i64 0,.bool false],.bool false]) ?_ rfl ⟨by rw [HO.out.1,HO.out.2];rfl,?_⟩
  ·simp [results,Tryz.results104,go_sem,r0,r1,r2,r3,r4]
  exact ((((HB.out.setCell (p:=⟨w.heap.size+1,0,none⟩) (by simp) _).setCell (p:=⟨w.heap.size+1,1,none⟩) (by simp) _).setCell (p:=⟨w.heap.size+1,2,none⟩) (by simp) _).setCell (p:=⟨w.heap.size+1,3,none⟩) (by simp) _).setCell (p:=⟨w.heap.size+1,4,none⟩) (by simp) _
 ·have HO:Hid (mOf ms t=ms.getD i dm∧(fstM ms t).isSome=true):=⟨mOf_some HF.out,by rw [HF.out];rfl⟩
  obtain ⟨pa',ca,he,_,ha⟩:=HM1.out
  simp only [Value.slice.injEq] at he
  obtain ⟨rfl,hN,rfl⟩:=he
  obtain ⟨b2,off,hp1,hl1,hr⟩:∃ b off,pm=some ⟨b,off,none⟩∧b < w1.heap.size∧Row w1 b off ms:=by
   rcases ha with h | h
   ·rw [h] at hN;simp at hN;omega
   ·exact h
  subst hp1
  obtain ⟨c0,c1,c2,c3,c4⟩:=hr i (by omega)
  clear hr hN ha HF
  generalize ms.getD i dm=mk at *
  obtain ⟨mn,st,lf,ad,sv⟩:=mk
  simp only at c0 c1 c2 c3 c4
  go_wp2_with fail
  refine bodyPost_ret (v:=.tuple #[.agg #[.string mn,.int .i64 st,.int .i64 lf,.int .i64 ad,.bool sv],.bool true]) ?_ rfl ⟨by rw [HO.out.1,HO.out.2],?_⟩
  ·simp [results,Tryz.results104,go_sem,r0,r1,r2,r3,r4]
  exact ((((HB.out.setCell (p:=⟨w.heap.size+1,0,none⟩) (by simp) _).setCell (p:=⟨w.heap.size+1,1,none⟩) (by simp) _).setCell (p:=⟨w.heap.size+1,2,none⟩) (by simp) _).setCell (p:=⟨w.heap.size+1,3,none⟩) (by simp) _).setCell (p:=⟨w.heap.size+1,4,none⟩) (by simp) _
def aheadP (ms:List Mem) (r:Rum):Bool:=match fstM ms r.m.name with
 | none=>true
 | some k=>newE r.m k == 0 && newM r.m k
set_option maxHeartbeats 3200000 in
set_option maxRecDepth 100000 in
theorem isAhead_any (b:Nat) (pm:Option Addr) (nm cm:Nat) (ms:List Mem) (r:Rum) (w:World) (hc:w.cell? ⟨b,2,none⟩=some (.slice pm nm cm)) (hm:Sl w (.slice pm nm cm) ms) (hn:nm≤1000) (hr:r.m.name.size≤maxLen) :
 Calls Tryz.prog 106 #[.pointer (some ⟨b,0,none⟩),.agg #[.string r.m.name,.int .i64 r.m.state,.int .i64 r.m.life,.int .i64 r.m.addr,.bool r.m.server,.int .i64 r.told]] w fun e w'=>e=.returned (.bool (aheadP ms r))∧Below w.heap.size w w':=by
 have hb:b < w.heap.size:=World.block_lt_of_cell? w _ hc
 have HS:Hid (∀ m,fstM ms r.m.name=some m→m.name.size≤maxLen):=fun m h=>by
  obtain ⟨a,c,he,hs,_⟩:=hm
  exact ns_mem hs m (fstM_mem h).1
 have HD:Hid (aheadP ms r=match fstM ms r.m.name with
  | none=>true
  | some k=>newE r.m k == 0 && newM r.m k):=rfl
 generalize aheadP ms r=res at *
 obtain ⟨W,hW⟩:∃ W,W=w.alloc (.cells #[.string r.m.name,.int .i64 r.m.state,.int .i64 r.m.life,.int .i64 r.m.addr,.bool r.m.server,.int .i64 r.told] 82):=⟨_,rfl⟩
 have hbW:Below w.heap.size w W:=by rw [hW];exact (Below.refl _ _).alloc (Nat.le_refl _) _
 have hg:W.heap[w.heap.size]?=some (.cells #[.string r.m.name,.int .i64 r.m.state,.int .i64 r.m.life,.int .i64 r.m.addr,.bool r.m.server,.int .i64 r.told] 82 (0,0)):=by rw [hW];exact heap_alloc_new w _
 have HCW:Hid (Calls Tryz.prog 104 #[.pointer (some ⟨b,0,none⟩),.string r.m.name] W fun e w'=>e=.returned (.tuple #[.agg #[.string (mOf ms r.m.name).name,.int .i64 (mOf ms r.m.name).state,.int .i64 (mOf ms r.m.name).life,.int .i64 (mOf ms r.m.name).addr,.bool (mOf ms r.m.name).server],.bool (fstM ms r.m.name).isSome])∧Below W.heap.size W w'):=
  wmember_any b pm nm cm ms r.m.name W (by rw [hbW.cell (p:=⟨b,2,none⟩) hb];exact hc) (hm.below hbW) hn
 have x0:W.cell? ⟨w.heap.size,0,none⟩=some (.string r.m.name):=cellsAt hg 0
 have hsW:W.heap.size=w.heap.size+1:=by rw [hW];simp
 clear hc hm
 go_enter Tryz.func106,Tryz.ntmps106
 go_wp2_with fail
 rw [← hW]
 clear hW
 refine HCW.out.mono ?_
 rintro e w1 ⟨rfl,hb1⟩
 have hg1:w1.heap[w.heap.size]?=_:=(hb1.block _ (by omega)).trans hg
 have y0:w1.cell? ⟨w.heap.size,0,none⟩=some (.string r.m.name):=cellsAt hg1 0
 have y1:w1.cell? ⟨w.heap.size,1,none⟩=some (.int .i64 r.m.state):=cellsAt hg1 1
 have y2:w1.cell? ⟨w.heap.size,2,none⟩=some (.int .i64 r.m.life):=cellsAt hg1 2
 have y3:w1.cell? ⟨w.heap.size,3,none⟩=some (.int .i64 r.m.addr):=cellsAt hg1 3
 have y4:w1.cell? ⟨w.heap.size,4,none⟩=some (.bool r.m.server):=cellsAt hg1 4
 have hs1:w.heap.size < w1.heap.size:=(Array.getElem?_eq_some_iff.1 hg1).1
 have HB1:Hid (Below w.heap.size w w1):=hbW.trans (hb1.mono (by omega))
 clear hb1 hg1 hg hbW HCW x0
 rcases hf:fstM ms r.m.name with _ | k
 ·have HR:Hid (res=true):=HD.out.trans (by rw [hf])
  have hmo:mOf ms r.m.name=dm:=mOf_none hf
  rw [hmo]
  clear hf hmo
  go_wp2_with fail
  go_ret
  exact ⟨ret_bool HR.out.symm,HB1.out.alloc HB1.out.size _⟩
 ·have HR:Hid (res=(newE r.m k == 0 && newM r.m k)):=HD.out.trans (by rw [hf])
  have hk:=HS.out k hf
  have hmo:mOf ms r.m.name=k:=mOf_some hf
  rw [hmo]
  clear hf hmo
  have HN:Hid (∀ W,Calls Tryz.prog 157 #[.agg #[.string r.m.name,.int .i64 r.m.state,.int .i64 r.m.life,.int .i64 r.m.addr,.bool r.m.server],.agg #[.string k.name,.int .i64 k.state,.int .i64 k.life,.int .i64 k.addr,.bool k.server]] W fun e w'=>e=.returned (.tuple #[.bool (newE r.m k == 0 && newM r.m k),.int .i64 (newE r.m k)])∧Below W.heap.size W w'):=fun W=>newer2_any r.m k W hr hk
  generalize (newE r.m k == 0 && newM r.m k)=q at *
  go_wp2_with fail
  refine (HN.out _).mono ?_
  rintro e w2 ⟨rfl,hb2⟩
  have HB2:Hid (Below w.heap.size w w2):=(HB1.out.alloc HB1.out.size _).trans (hb2.mono (by have:=HB1.out.size;simp;omega))
  clear hb2
  go_wp2_with fail
  go_ret
  exact ⟨ret_bool HR.out.symm,HB2.out⟩
set_option maxHeartbeats 1600000 in
set_option maxRecDepth 100000 in
theorem cIndex_any (b:Nat) (pm:Option Addr) (nm cm:Nat) (ms:List Mem) (rs:List Rum) (v:Value) (w:World) (hv:RSl w v rs) (hc:w.cell? ⟨b,2,none⟩=some (.slice pm nm cm)) (hm:Sl w (.slice pm nm cm) ms) (hn:nm≤1000) (hsm:rs.length≤1000) :
 Calls Tryz.prog 156 #[v,.func (.func 106) #[.pointer (some ⟨b,0,none⟩)] #[]] w fun e w'=>
  ((e=.returned (.int .i64 (-1))∧Hid (rs.any (aheadP ms)=false))∨(∃ i:Nat,i < rs.length∧e=.returned (.int .i64 i)∧Hid (rs.any (aheadP ms)=true)))∧Below w.heap.size w w':=by
 obtain ⟨pa,ca,rfl,hs,ha⟩:=hv
 have hb:b < w.heap.size:=World.block_lt_of_cell? w _ hc
 have HA:Hid (rs=[]∨∃ b off,pa=some ⟨b,off,none⟩∧b < w.heap.size∧RRow w b off rs):=ha
 have HS:Hid (∀ j,(rs.getD j dr).m.name.size≤maxLen):=hs
 have HI:Hid (∀ W,Below w.heap.size w W→∀ r:Rum,r.m.name.size≤maxLen→Calls Tryz.prog 106 #[.pointer (some ⟨b,0,none⟩),.agg #[.string r.m.name,.int .i64 r.m.state,.int .i64 r.m.life,.int .i64 r.m.addr,.bool r.m.server,.int .i64 r.told]] W fun e w'=>e=.returned (.bool (aheadP ms r))∧Below W.heap.size W w'):=fun W hW r hr=>
  isAhead_any b pm nm cm ms r W (by rw [hW.cell (p:=⟨b,2,none⟩) hb];exact hc) (hm.below hW) hn hr
 clear ha hs hc hm
 generalize hN:rs.length=n at *
 have HN:Hid (rs.length=n):=hN
 clear hN
 go_enter Tryz.func156,Tryz.ntmps156
 go_wp2_with fail
 go_loopw [8] (fun i wr=>∃ k:Nat,k≤n∧i=.int .i64 k∧Hid (∀ j,j < k→aheadP ms (rs.getD j dr)=false)∧Hid (Below w.heap.size w wr)) (fun i _=>n - (intOf i).toNat)
 case atStart=>exact ⟨0,Nat.zero_le _,rfl,fun j hj=>by omega,Below.refl _ _⟩
 case round=>
  obtain ⟨k,hk,rfl,HZ,HB⟩:=hrel
  by_cases hlt:k < n
  ·obtain ⟨b2,off,hp1,hl1,hr⟩:∃ b off,pa=some ⟨b,off,none⟩∧b < w.heap.size∧RRow w b off rs:=by
    rcases HA.out with h | h
    ·have:=HN.out;rw [h] at this;simp at this;omega
    ·exact h
   subst hp1
   obtain ⟨c0,c1,c2,c3,c4,c5⟩:=hr.below HB.out hl1 k (by rw [HN.out];exact hlt)
   clear hr
   have hnm:=HS.out k
   have HY:Hid (aheadP ms (rs.getD k dr)=true→rs.any (aheadP ms)=true):=fun h=>by
    rw [show rs.getD k dr=rs[k]'(by rw [HN.out];exact hlt) by simp [List.getD,List.getElem?_eq_getElem (show k < rs.length by rw [HN.out];exact hlt)]] at h
    exact List.any_eq_true.2 ⟨_,List.getElem_mem _,h⟩
   have HZ2:Hid (aheadP ms (rs.getD k dr)=false→∀ j,j < k+1→aheadP ms (rs.getD j dr)=false):=fun h j hj=>by
    by_cases e:j=k
    ·subst e;exact h
    ·exact HZ.out j (by omega)
   have HF:Hid (∀ W,Below w.heap.size w W→Calls Tryz.prog 106 #[.pointer (some ⟨b,0,none⟩),.agg #[.string (rs.getD k dr).m.name,.int .i64 (rs.getD k dr).m.state,.int .i64 (rs.getD k dr).m.life,.int .i64 (rs.getD k dr).m.addr,.bool (rs.getD k dr).m.server,.int .i64 (rs.getD k dr).told]] W fun e w'=>e=.returned (.bool (aheadP ms (rs.getD k dr)))∧Below W.heap.size W w'):=fun W hW=>HI.out W hW _ hnm
   generalize hah:aheadP ms (rs.getD k dr)=ah at *
   clear hah
   generalize rs.getD k dr=rk at *
   obtain ⟨⟨mn,st,lf,ad,sv⟩,td⟩:=rk
   simp only at c0 c1 c2 c3 c4 c5 HF
   clear HZ
   have hsz:=HB.out.size
   cases ah
   ·have HZ3:Hid (∀ j,j < k+1→aheadP ms (rs.getD j dr)=false):=HZ2.out rfl
    clear HY HZ2
    go_wp2_with fail
    refine (HF.out _ HB.out).mono ?_
    rintro e w1 ⟨rfl,hb1⟩
    have HB1:Hid (Below w.heap.size w w1):=HB.out.trans (hb1.mono hsz)
    clear hb1
    go_wp2_with fail
    go_roundw
    case rel=>exact ⟨k+1,by omega,by go_num,HZ3,HB1⟩
    case measure=>simp [intOf];omega
   ·have HR:Hid (rs.any (aheadP ms)=true):=HY.out rfl
    clear HY HZ2
    go_wp2_with fail
    refine (HF.out _ HB.out).mono ?_
    rintro e w1 ⟨rfl,hb1⟩
    have HB1:Hid (Below w.heap.size w w1):=HB.out.trans (hb1.mono hsz)
    clear hb1
    go_wp2_with fail
    go_ret
    exact ⟨.inr ⟨k,hlt,rfl,HR⟩,HB1.out⟩
  ·have HZ3:Hid (rs.any (aheadP ms)=false):=by
    rcases h:rs.any (aheadP ms) with _ | _
    ·rfl
    ·obtain ⟨r,hr,h2⟩:=List.any_eq_true.1 h
     obtain ⟨j,hj,rfl⟩:=List.getElem_of_mem hr
     have h3:=HZ.out j (by have:=HN.out;omega)
     rw [show rs.getD j dr=rs[j] by simp [List.getD,List.getElem?_eq_getElem hj],h2] at h3
     cases h3
   clear HZ
   go_wp2_with fail
   go_ret
   exact ⟨.inl ⟨rfl,HZ3⟩,HB.out⟩
set_option maxHeartbeats 1600000 in
theorem contains_any (b:Nat) (pm:Option Addr) (nm cm:Nat) (ms:List Mem) (rs:List Rum) (v:Value) (w:World) (hv:RSl w v rs) (hc:w.cell? ⟨b,2,none⟩=some (.slice pm nm cm)) (hm:Sl w (.slice pm nm cm) ms) (hn:nm≤1000) (hsm:rs.length≤1000) :
 Calls Tryz.prog 105 #[v,.func (.func 106) #[.pointer (some ⟨b,0,none⟩)] #[]] w fun e w'=>e=.returned (.bool (rs.any (aheadP ms)))∧Below w.heap.size w w':=by
 have HI:Hid (Calls Tryz.prog 156 #[v,.func (.func 106) #[.pointer (some ⟨b,0,none⟩)] #[]] w fun e w'=>
  ((e=.returned (.int .i64 (-1))∧Hid (rs.any (aheadP ms)=false))∨(∃ i:Nat,i < rs.length∧e=.returned (.int .i64 i)∧Hid (rs.any (aheadP ms)=true)))∧Below w.heap.size w w'):=cIndex_any b pm nm cm ms rs v w hv hc hm hn hsm
 clear hv hc hm
 generalize rs.any (aheadP ms)=q at *
 go_enter Tryz.func105,Tryz.ntmps105
 go_wp2_with fail
 refine HI.out.mono ?_
 rintro e w1 ⟨hor,hb1⟩
 have HB:Hid (Below w.heap.size w w1):=hb1
 clear hb1
 rcases hor with ⟨rfl,HF⟩ | ⟨i,hi,rfl,HF⟩
 ·go_wp2_with fail
  go_ret
  exact ⟨ret_bool HF.out.symm,HB.out⟩
 ·go_wp2_with fail
  go_ret
  exact ⟨ret_bool HF.out.symm,HB.out⟩
abbrev ndA (n:Nd) (vm vr vs vg vw:Value):Array Value:=#[.string n.name,.string n.centre,vm,vr,vs,vg,.int .i64 n.p.x,.int .i64 n.p.y,.int .i64 n.p.z,.int .i64 n.p.h,.int .i64 n.p.s,vw]
structure NdIs (w:World) (n:Nd) (vm vr vs vg vw:Value):Prop where
 ms:Sl w vm n.ms
 rs:RSl w vr n.rs
 sv:Sv.Sl w vs n.sv
 gw:Gw.Sl w vg n.gw
 wh:Wh.Sl w vw n.wh
 name:n.name.size≤maxLen
 centre:n.centre.size≤maxLen
theorem NdIs.below {w w':World} {n:Nd} {vm vr vs vg vw:Value} (h:NdIs w n vm vr vs vg vw) (hb:Below w.heap.size w w'):NdIs w' n vm vr vs vg vw:=⟨h.ms.below hb,h.rs.below hb,h.sv.below hb,h.gw.below hb,h.wh.below hb,h.name,h.centre⟩
theorem Sl_nil (w:World):Sl w (.slice none 0 0) []:=⟨none,0,rfl,ns_get (fun m hm=>by simp at hm),.inl rfl⟩
theorem Sv.Sl_nil (w:World):Sv.Sl w (.slice none 0 0) []:=⟨none,0,rfl,Sv.ns_get (fun m hm=>by simp at hm),.inl rfl⟩
theorem Gw.Sl_nil (w:World):Gw.Sl w (.slice none 0 0) []:=⟨none,0,rfl,Gw.ns_get (fun m hm=>by simp at hm),.inl rfl⟩
theorem Wh.Sl_nil (w:World):Wh.Sl w (.slice none 0 0) []:=⟨none,0,rfl,Wh.ns_get (fun m hm=>by simp at hm),.inl rfl⟩
theorem pk_where {nm:ByteArray} {wh:List Wh.Whe} (h:labB nm=true):Pk.e ⟨nm,true,[],[],[],wh⟩=Wh.chk wh:=by
 unfold Pk.e
 rw [if_pos (by simp [h])]
 rfl
theorem roomy_nil:Roomy (.slice none 0 0):=by unfold Roomy;exact Nat.le_refl _
theorem pcheck_where (nm:ByteArray) (wh:List Wh.Whe) (vw:Value) (W:World) (hwh:Wh.Sl W vw wh) (hnm:nm.size≤maxLen) (hl:labB nm=true) :
 Calls Tryz.prog 103 #[.agg #[.string nm,.bool true,.slice none 0 0,.slice none 0 0,.slice none 0 0,vw]] W fun e w'=>e=.returned (.int .i64 (Wh.chk wh))∧Below W.heap.size W w':=by
 have hp:PkIs W ⟨nm,true,[],[],[],wh⟩ (.slice none 0 0) (.slice none 0 0) (.slice none 0 0) vw:=⟨Sl_nil W,Sv.Sl_nil W,Gw.Sl_nil W,hwh,hnm,roomy_nil⟩
 rw [← pk_where hl]
 exact pcheck_any ⟨nm,true,[],[],[],wh⟩ (.slice none 0 0) (.slice none 0 0) (.slice none 0 0) vw W hp (.inl rfl)
theorem cell_topW {W:World} {cs:Array Value} {t:TypeId} {g k:Nat} (hg:g=W.heap.size):((W.alloc (.cells cs t)).drew).cell? ⟨g,k,none⟩=cs[k]?:=by subst hg;exact cellsAt (heap_alloc_new W _) k
theorem lab2_any (a b:ByteArray) (ha:a.size≤maxLen) (hb:b.size≤maxLen) (g c:Nat) (W:World) (h0:W.cell? ⟨g,0,none⟩=some (.string a)) (h1:W.cell? ⟨g,1,none⟩=some (.string b)) :
 Calls Tryz.prog 41 #[.slice (some ⟨g,0,none⟩) 2 c] W fun e w'=>e=.returned (.bool (labB a && labB b))∧w'=W:=by
 have h:=labels_any [a,b] g c W (fun j hj=>by
  have:j=0∨j=1:=by simp at hj;omega
  rcases this with rfl | rfl
  ·exact h0
  ·exact h1) (fun j=>by
  match j with
  | 0=>exact ha
  | 1=>exact hb
  | _+2=>simp [List.getD]) (by simp)
 rw [show [a,b].all labB=(labB a && labB b) by simp] at h
 exact h
set_option maxHeartbeats 12800000 in
set_option maxRecDepth 100000 in
theorem checkParts_any (n:Nd) (b:Nat) (vm vr vs vg vw:Value) (w:World) (h:NdIs w n vm vr vs vg vw) (hg:w.heap[b]?=some (.cells (ndA n vm vr vs vg vw) 72 (0,0))) :
 Calls Tryz.prog 44 #[.pointer (some ⟨b,0,none⟩)] w fun e w'=>e=.returned (.int .i64 n.pE)∧Below w.heap.size w w':=by
 obtain ⟨nm,ct,ms,rs,sv,gw,⟨px,py,pz,ph,pq⟩,wh⟩:=n
 obtain ⟨hms,hrs,hsv,hgw,hwh,hnm,hct⟩:=h
 simp only at hms hrs hsv hgw hwh hnm hct hg
 have hb:b < w.heap.size:=(Array.getElem?_eq_some_iff.1 hg).1
 have HM:Hid (∀ W,Below w.heap.size w W→Calls Tryz.prog 98 #[vm] W fun e w'=>e=.returned (.int .i64 (chk ms))∧Below W.heap.size W w'):=fun W hW=>check_any ms vm W (hms.below hW)
 have HRC:Hid (∀ W,Below w.heap.size w W→Calls Tryz.prog 99 #[vr] W fun e w'=>e=.returned (.int .i64 (chkR rs))∧Below W.heap.size W w'):=fun W hW=>checkR_any rs vr W (hrs.below hW)
 have HS:Hid (∀ W,Below w.heap.size w W→Calls Tryz.prog 100 #[vs] W fun e w'=>e=.returned (.int .i64 (Sv.chk sv))∧Below W.heap.size W w'):=fun W hW=>Sv.check_any sv vs W (hsv.below hW)
 have HG:Hid (∀ W,Below w.heap.size w W→Calls Tryz.prog 101 #[vg] W fun e w'=>e=.returned (.int .i64 (Gw.chk gw))∧Below W.heap.size W w'):=fun W hW=>Gw.check_any gw vg W (hgw.below hW)
 have HP:Hid (∀ W,Below w.heap.size w W→Calls Tryz.prog 102 #[.agg #[.int .i64 px,.int .i64 py,.int .i64 pz,.int .i64 ph,.int .i64 pq]] W fun e w'=>e=.returned (.int .i64 (chkP ⟨px,py,pz,ph,pq⟩))∧Below W.heap.size W w'):=fun W _=>checkP_any ⟨px,py,pz,ph,pq⟩ W
 have HX:Hid (∀ W,Below w.heap.size w W→W.cell? ⟨b,0,none⟩=some (.string nm)∧W.cell? ⟨b,1,none⟩=some (.string ct)∧W.cell? ⟨b,2,none⟩=some vm∧W.cell? ⟨b,3,none⟩=some vr∧W.cell? ⟨b,4,none⟩=some vs∧W.cell? ⟨b,5,none⟩=some vg∧W.cell? ⟨b,6,none⟩=some (.int .i64 px)∧W.cell? ⟨b,7,none⟩=some (.int .i64 py)∧W.cell? ⟨b,8,none⟩=some (.int .i64 pz)∧W.cell? ⟨b,9,none⟩=some (.int .i64 ph)∧W.cell? ⟨b,10,none⟩=some (.int .i64 pq)∧W.cell? ⟨b,11,none⟩=some vw):=fun W hW=>
  have hg':=(hW.block _ hb).trans hg
  ⟨cellsAt hg' 0,cellsAt hg' 1,cellsAt hg' 2,cellsAt hg' 3,cellsAt hg' 4,cellsAt hg' 5,cellsAt hg' 6,cellsAt hg' 7,cellsAt hg' 8,cellsAt hg' 9,cellsAt hg' 10,cellsAt hg' 11⟩
 have HE:Nd.pE ⟨nm,ct,ms,rs,sv,gw,⟨px,py,pz,ph,pq⟩,wh⟩=if (labB nm && labB ct)=true then
  (if chk ms=0 then (if chkR rs=0 then (if Sv.chk sv=0 then (if Gw.chk gw=0 then (if chkP ⟨px,py,pz,ph,pq⟩=0 then Wh.chk wh else chkP ⟨px,py,pz,ph,pq⟩) else Gw.chk gw) else Sv.chk sv) else chkR rs) else chk ms) else 1:=by unfold Nd.pE;with_reducible rfl
 have HL:Hid (∀ (W:World) (g:Nat),W.cell? ⟨g,0,none⟩=some (.string nm)→W.cell? ⟨g,1,none⟩=some (.string ct)→Calls Tryz.prog 41 #[.slice (some ⟨g,0,none⟩) 2 2] W fun e w'=>e=.returned (.bool (labB nm && labB ct))∧w'=W):=fun W g h0 h1=>lab2_any nm ct hnm hct g 2 W h0 h1
 have HW:Hid (labB nm=true→∀ W,Below w.heap.size w W→Calls Tryz.prog 103 #[.agg #[.string nm,.bool true,.slice none 0 0,.slice none 0 0,.slice none 0 0,vw]] W fun e w'=>e=.returned (.int .i64 (Wh.chk wh))∧Below W.heap.size W w'):=fun hl W hW=>pcheck_where nm wh vw W (hwh.below hW) hnm hl
 have HLN:Hid ((labB nm && labB ct)=true→labB nm=true):=fun h=>by rw [Bool.and_eq_true] at h;exact h.1
 generalize (labB nm && labB ct)=lb at *
 generalize Nd.pE ⟨nm,ct,ms,rs,sv,gw,⟨px,py,pz,ph,pq⟩,wh⟩=res at *
 generalize chk ms=m1 at *
 generalize chkR rs=r1 at *
 generalize Sv.chk sv=s1 at *
 generalize Gw.chk gw=g1 at *
 generalize chkP ⟨px,py,pz,ph,pq⟩=p1 at *
 generalize Wh.chk wh=wz at *
 obtain ⟨a5,c5,rfl,_,_⟩:=hwh
 generalize wh.length=n5 at *
 clear hms hrs hsv hgw
 obtain ⟨y0,y1,y2,y3,y4,y5,y6,y7,y8,y9,y10,y11⟩:=HX.out w (Below.refl _ _)
 clear hg
 go_enter Tryz.func44,Tryz.ntmps44
 go_wp2_with fail
 go_region_held3 (fun w'=>w'.cell? ⟨b,0,none⟩=some (.string nm)∧w'.cell? ⟨b,1,none⟩=some (.string ct)) (go_keep) (first | (go_at_call 41;refine (HL.out _ _ (cell_topW rfl) (cell_topW rfl)).mono ?_;rintro e w' ⟨rfl,rfl⟩))
 obtain ⟨W0,hW0⟩:∃ W0,W0=(w.alloc (.cells #[.string nm,.string ct] 9)).drew:=⟨_,rfl⟩
 have HB0:Hid (Below w.heap.size w W0):=by rw [hW0];exact ((Below.refl _ _).alloc (Nat.le_refl _) _).drew
 rw [← hW0]
 clear hW0 HL y0 y1 y2 y3 y4 y5 y6 y7 y8 y9 y10 y11
 obtain ⟨y0,y1,y2,y3,y4,y5,y6,y7,y8,y9,y10,y11⟩:=HX.out W0 HB0.out
 cases lb
 ·rw [if_neg (by simp)] at HE
  have HR:Hid (res=1):=HE
  clear HE
  go_wp2_with fail
  go_ret
  exact ⟨ret_int HR.out.symm,HB0.out⟩
 rw [if_pos rfl] at HE
 have HW:Hid (∀ W,Below w.heap.size w W→Calls Tryz.prog 103 #[.agg #[.string nm,.bool true,.slice none 0 0,.slice none 0 0,.slice none 0 0,.slice a5 n5 c5]] W fun e w'=>e=.returned (.int .i64 wz)∧Below W.heap.size W w'):=HW.out (HLN.out rfl)
 go_wp2_with fail
 refine (HM.out _ HB0.out).mono ?_
 rintro e w1 ⟨rfl,hb1⟩
 have HB1:Hid (Below w.heap.size w w1):=HB0.out.trans (hb1.mono HB0.out.size)
 clear hb1 y0 y1 y2 y3 y4 y5 y6 y7 y8 y9 y10 y11
 obtain ⟨y0,y1,y2,y3,y4,y5,y6,y7,y8,y9,y10,y11⟩:=HX.out w1 HB1.out
 by_cases hm1:m1=0
 ·rw [if_pos hm1] at HE
  subst hm1
  go_wp2_with fail
  refine (HRC.out _ HB1.out).mono ?_
  rintro e w2 ⟨rfl,hb2⟩
  have HB2:Hid (Below w.heap.size w w2):=HB1.out.trans (hb2.mono HB1.out.size)
  clear hb2 y0 y1 y2 y3 y4 y5 y6 y7 y8 y9 y10 y11
  obtain ⟨y0,y1,y2,y3,y4,y5,y6,y7,y8,y9,y10,y11⟩:=HX.out w2 HB2.out
  by_cases hr1:r1=0
  ·rw [if_pos hr1] at HE
   subst hr1
   go_wp2_with fail
   refine (HS.out _ HB2.out).mono ?_
   rintro e w3 ⟨rfl,hb3⟩
   have HB3:Hid (Below w.heap.size w w3):=HB2.out.trans (hb3.mono HB2.out.size)
   clear hb3 y0 y1 y2 y3 y4 y5 y6 y7 y8 y9 y10 y11
   obtain ⟨y0,y1,y2,y3,y4,y5,y6,y7,y8,y9,y10,y11⟩:=HX.out w3 HB3.out
   by_cases hs1:s1=0
   ·rw [if_pos hs1] at HE
    subst hs1
    go_wp2_with fail
    refine (HG.out _ HB3.out).mono ?_
    rintro e w4 ⟨rfl,hb4⟩
    have HB4:Hid (Below w.heap.size w w4):=HB3.out.trans (hb4.mono HB3.out.size)
    clear hb4 y0 y1 y2 y3 y4 y5 y6 y7 y8 y9 y10 y11
    obtain ⟨y0,y1,y2,y3,y4,y5,y6,y7,y8,y9,y10,y11⟩:=HX.out w4 HB4.out
    by_cases hg1:g1=0
    ·rw [if_pos hg1] at HE
     subst hg1
     go_wp2_with fail
     refine (HP.out _ HB4.out).mono ?_
     rintro e w5 ⟨rfl,hb5⟩
     have HB5:Hid (Below w.heap.size w w5):=HB4.out.trans (hb5.mono HB4.out.size)
     clear hb5 y0 y1 y2 y3 y4 y5 y6 y7 y8 y9 y10 y11
     obtain ⟨y0,y1,y2,y3,y4,y5,y6,y7,y8,y9,y10,y11⟩:=HX.out w5 HB5.out
     by_cases hp1:p1=0
     ·rw [if_pos hp1] at HE
      subst hp1
      go_wp2_with fail
      go_region_held3 (fun w'=>w'.cell? ⟨b,0,none⟩=some (.string nm)∧w'.cell? ⟨b,11,none⟩=some (.slice a5 n5 c5)) (first | assumption | go_keep) (first | (go_at_call 103;refine (HW.out _ HB5.out.drew).mono ?_;rintro e w9 ⟨rfl,hb9⟩;have HB9:Hid (Below w.heap.size w w9):=HB5.out.drew.trans (hb9.mono HB5.out.size);have hS:w9.cell? ⟨b,0,none⟩=some (.string nm)∧w9.cell? ⟨b,11,none⟩=some (.slice a5 n5 c5):=⟨(HX.out w9 HB9.out).1,(HX.out w9 HB9.out).2.2.2.2.2.2.2.2.2.2.2⟩))
      go_wp2_with fail
      go_ret
      exact ⟨ret_int HE.symm,HB9.out⟩
     ·have hp1':(p1 != 0)=true:=by simpa using hp1
      rw [if_neg hp1] at HE
      have HR:Hid (res=p1):=HE
      clear hp1 HE
      go_wp2_with fail
      go_ret
      exact ⟨ret_int HR.out.symm,HB5.out⟩
    ·have hg1':(g1 != 0)=true:=by simpa using hg1
     rw [if_neg hg1] at HE
     have HR:Hid (res=g1):=HE
     clear hg1 HE
     go_wp2_with fail
     go_ret
     exact ⟨ret_int HR.out.symm,HB4.out⟩
   ·have hs1':(s1 != 0)=true:=by simpa using hs1
    rw [if_neg hs1] at HE
    have HR:Hid (res=s1):=HE
    clear hs1 HE
    go_wp2_with fail
    go_ret
    exact ⟨ret_int HR.out.symm,HB3.out⟩
  ·have hr1':(r1 != 0)=true:=by simpa using hr1
   rw [if_neg hr1] at HE
   have HR:Hid (res=r1):=HE
   clear hr1 HE
   go_wp2_with fail
   go_ret
   exact ⟨ret_int HR.out.symm,HB2.out⟩
 ·have hm1':(m1 != 0)=true:=by simpa using hm1
  rw [if_neg hm1] at HE
  have HR:Hid (res=m1):=HE
  clear hm1 HE
  go_wp2_with fail
  go_ret
  exact ⟨ret_int HR.out.symm,HB1.out⟩
theorem newE0n {a b:Mem} (ha:a.e=0) (hb:b.e=0) (hn:a.name=b.name):newE a b=0:=by
 unfold newE
 have h:chkTwo [a] [b]=0:=by
  unfold chkTwo
  rw [chk_oneR,chk_oneR,if_pos ha,hb]
 rw [if_pos h,if_pos hn]
theorem chk_e0 {ms:List Mem} (h:chk ms=0):∀ m∈ms,m.e=0:=by
 obtain ⟨_,_,h3⟩:=chk_zero h
 exact firstE_mem ms h3
theorem chkR_e0 {rs:List Rum} (h:chkR rs=0):rs.length≤20∧(∀ r∈rs,r.m.e=0)∧AllTold rs∧Distinct rs:=by
 unfold chkR at h
 split at h
 ·cases h
 ·rename_i hn
  split at h
  ·rename_i h1
   split at h
   ·rename_i h2
    split at h
    ·rename_i h3
     refine ⟨by omega,fun r hr=>?_,h2,h3⟩
     exact firstE_mem _ h1 r.m (List.mem_map.2 ⟨r,hr,rfl⟩)
    ·cases h
   ·cases h
  ·rename_i h1;exact absurd h h1
theorem aheadP_eq {ms:List Mem} {r:Rum} (h:chk ms=0) (hr:r.m.e=0):aheadP ms r=aheadB ms r:=by
 unfold aheadP aheadB
 rcases hf:fstM ms r.m.name with _ | k
 ·rfl
 ·have hk:=fstM_mem hf
  simp only
  rw [newE0n hr (chk_e0 h k hk.1) hk.2.symm]
  simp
theorem any_ahead {ms:List Mem} {rs:List Rum} (h:chk ms=0) (hr:chkR rs=0):rs.any (aheadP ms)=rs.any (aheadB ms):=by
 have h2:=(chkR_e0 hr).2.1
 clear hr
 induction rs with
 | nil=>rfl
 | cons r l ih=>
   rw [List.any_cons,List.any_cons,aheadP_eq h (h2 r (by simp)),ih (fun x hx=>h2 x (by simp [hx]))]
set_option maxHeartbeats 6400000 in
set_option maxRecDepth 100000 in
theorem checkWhole_any (n:Nd) (b:Nat) (vm vr vs vg vw:Value) (w:World) (h:NdIs w n vm vr vs vg vw) (hg:w.heap[b]?=some (.cells (ndA n vm vr vs vg vw) 72 (0,0))) (hp:n.pE=0) :
 Calls Tryz.prog 45 #[.pointer (some ⟨b,0,none⟩)] w fun e w'=>e=.returned (.int .i64 n.wE)∧Below w.heap.size w w':=by
 have HPT:Hid n.Parts:=Nd.parts hp
 have hb:b < w.heap.size:=(Array.getElem?_eq_some_iff.1 hg).1
 have hml:n.ms.length≤20:=(chk_zero HPT.out.ms).1
 have hrl:n.rs.length≤20:=(chkR_e0 HPT.out.rs).1
 have HWE:Hid (n.wE=match fstM n.ms n.name with
  | none=>5
  | some m=>if m.state=2∨m.state=3 then 4 else if n.rs.any (aheadP n.ms)=true then 4 else 0):=by
  show n.wE=_
  rw [any_ahead HPT.out.ms HPT.out.rs];rfl
 obtain ⟨nm,ct,ms,rs,sv,gw,⟨px,py,pz,ph,pq⟩,wh⟩:=n
 obtain ⟨hms,hrs,_,_,_,_,_⟩:=h
 simp only at hms hrs hg hml hrl HWE
 generalize Nd.wE ⟨nm,ct,ms,rs,sv,gw,⟨px,py,pz,ph,pq⟩,wh⟩=res at *
 obtain ⟨am,cm,rfl,hms1,hms2⟩:=hms
 have hms:Sl w (.slice am ms.length cm) ms:=⟨am,cm,rfl,hms1,hms2⟩
 clear hms1 hms2
 have HX:Hid (∀ W,Below w.heap.size w W→W.cell? ⟨b,0,none⟩=some (.string nm)∧W.cell? ⟨b,2,none⟩=some (.slice am ms.length cm)∧W.cell? ⟨b,3,none⟩=some vr):=fun W hW=>
  have hg':=(hW.block _ hb).trans hg
  ⟨cellsAt hg' 0,cellsAt hg' 2,cellsAt hg' 3⟩
 have HMB:Hid (∀ (W:World) (t:ByteArray),Below w.heap.size w W→Calls Tryz.prog 104 #[.pointer (some ⟨b,0,none⟩),.string t] W fun e w'=>e=.returned (.tuple #[.agg #[.string (mOf ms t).name,.int .i64 (mOf ms t).state,.int .i64 (mOf ms t).life,.int .i64 (mOf ms t).addr,.bool (mOf ms t).server],.bool (fstM ms t).isSome])∧Below W.heap.size W w'):=fun W t hW=>
  wmember_any b am ms.length cm ms t W (HX.out W hW).2.1 (hms.below hW) (by omega)
 have HCF:Hid (∀ W,Below w.heap.size w W→Calls Tryz.prog 105 #[vr,.func (.func 106) #[.pointer (some ⟨b,0,none⟩)] #[]] W fun e w'=>e=.returned (.bool (rs.any (aheadP ms)))∧Below W.heap.size W w'):=fun W hW=>
  contains_any b am ms.length cm ms rs vr W (hrs.below hW) (HX.out W hW).2.1 (hms.below hW) (by omega) (by omega)
 clear hms hrs
 generalize rs.any (aheadP ms)=ab at *
 obtain ⟨y0,y2,y3⟩:=HX.out w (Below.refl _ _)
 clear hg
 go_enter Tryz.func45,Tryz.ntmps45
 go_wp2_with fail
 refine (HMB.out _ nm (Below.refl _ _)).mono ?_
 rintro e w1 ⟨rfl,hb1⟩
 have HB1:Hid (Below w.heap.size w w1):=hb1
 clear hb1 y0 y2 y3
 rcases hf:fstM ms nm with _ | m
 ·have HR:Hid (res=5):=HWE.out.trans (by rw [hf])
  have hmo:mOf ms nm=dm:=mOf_none hf
  rw [hmo]
  clear hf hmo
  go_wp2_with fail
  go_ret
  exact ⟨ret_int HR.out.symm,HB1.out.alloc HB1.out.size _⟩
 ·have HR:Hid (res=if m.state=2∨m.state=3 then 4 else if ab=true then 4 else 0):=HWE.out.trans (by rw [hf])
  have hmo:mOf ms nm=m:=mOf_some hf
  rw [hmo]
  clear hf hmo
  obtain ⟨mn,st,lf,ad,sv2⟩:=m
  simp only at HR
  by_cases h2:st=2
  ·subst h2
   have HR2:Hid (res=4):=HR.out.trans (by simp)
   go_wp2_with fail
   go_ret
   exact ⟨ret_int HR2.out.symm,HB1.out.alloc HB1.out.size _⟩
  ·by_cases h3:st=3
   ·subst h3
    have HR2:Hid (res=4):=HR.out.trans (by simp)
    go_wp2_with fail
    go_ret
    exact ⟨ret_int HR2.out.symm,HB1.out.alloc HB1.out.size _⟩
   ·have HR2:Hid (res=if ab=true then 4 else 0):=HR.out.trans (if_neg (by omega))
    have h2':(st == 2)=false:=by simpa using h2
    have h3':(st == 3)=false:=by simpa using h3
    clear h2 h3 HR
    obtain ⟨W2,hW2⟩:∃ W2,W2=w1.alloc (.cells #[.string mn,.int .i64 st,.int .i64 lf,.int .i64 ad,.bool sv2] 37):=⟨_,rfl⟩
    have HB2:Hid (Below w.heap.size w W2):=by rw [hW2];exact HB1.out.alloc HB1.out.size _
    obtain ⟨y0,y2,y3⟩:=HX.out W2 HB2.out
    rw [hW2] at y0 y2 y3
    go_wp2_with fail
    rw [← hW2]
    refine (HCF.out _ HB2.out).mono ?_
    rintro e w3 ⟨rfl,hb3⟩
    have HB3:Hid (Below w.heap.size w w3):=HB2.out.trans (hb3.mono HB2.out.size)
    clear hb3 y0 y2 y3 hW2
    cases ab
    ·go_wp2_with fail
     go_ret
     exact ⟨ret_int HR2.out.symm,HB3.out⟩
    ·go_wp2_with fail
     go_ret
     exact ⟨ret_int HR2.out.symm,HB3.out⟩
set_option maxHeartbeats 6400000 in
set_option maxRecDepth 100000 in
theorem ncheck_any (n:Nd) (vm vr vs vg vw:Value) (w:World) (h:NdIs w n vm vr vs vg vw) :
 Calls Tryz.prog 17 #[.agg (ndA n vm vr vs vg vw)] w fun e w'=>e=.returned (.int .i64 n.e)∧Below w.heap.size w w':=by
 have HI:Hid (NdIs w n vm vr vs vg vw):=h
 have HE:Hid (n.e=if n.pE=0 then n.wE else n.pE):=rfl
 obtain ⟨W,hW⟩:∃ W,W=(w.alloc (.cells (ndA n vm vr vs vg vw) 30)).alloc (.cells (ndA n vm vr vs vg vw) 72):=⟨_,rfl⟩
 have hbW:Below w.heap.size w W:=by rw [hW];exact ((Below.refl _ _).alloc (Nat.le_refl _) _).alloc (by simp) _
 have hg:W.heap[w.heap.size+1]?=some (.cells (ndA n vm vr vs vg vw) 72 (0,0)):=by
  have h:=heap_alloc_new (w.alloc (.cells (ndA n vm vr vs vg vw) 30)) (.cells (ndA n vm vr vs vg vw) 72)
  rw [hW];simpa using h
 have hsW:W.heap.size=w.heap.size+2:=by rw [hW];simp
 have HBW:Hid (Below w.heap.size w W):=hbW
 have HC:Hid (Calls Tryz.prog 44 #[.pointer (some ⟨w.heap.size+1,0,none⟩)] W fun e w'=>e=.returned (.int .i64 n.pE)∧Below W.heap.size W w'):=checkParts_any n (w.heap.size+1) vm vr vs vg vw W (h.below hbW) hg
 have HD:Hid (n.pE=0→∀ W1,Below W.heap.size W W1→Calls Tryz.prog 45 #[.pointer (some ⟨w.heap.size+1,0,none⟩)] W1 fun e w'=>e=.returned (.int .i64 n.wE)∧Below W1.heap.size W1 w'):=fun hp W1 h1=>
  checkWhole_any n (w.heap.size+1) vm vr vs vg vw W1 ((h.below hbW).below h1) ((h1.block _ (by omega)).trans hg) hp
 obtain ⟨nm,ct,ms,rs,sv,gw,⟨px,py,pz,ph,pq⟩,wh⟩:=n
 obtain ⟨⟨am,cm,rfl,_,_⟩,⟨ar,cr,rfl,_,_⟩,⟨aq,cq,rfl,_,_⟩,⟨ag,cg,rfl,_,_⟩,⟨aw,cw,rfl,_,_⟩,_,_⟩:=h
 generalize Nd.e ⟨nm,ct,ms,rs,sv,gw,⟨px,py,pz,ph,pq⟩,wh⟩=res at *
 generalize Nd.pE ⟨nm,ct,ms,rs,sv,gw,⟨px,py,pz,ph,pq⟩,wh⟩=pe at *
 generalize Nd.wE ⟨nm,ct,ms,rs,sv,gw,⟨px,py,pz,ph,pq⟩,wh⟩=we at *
 simp only [ndA] at hW ⊢
 clear hg hbW
 generalize ms.length=nms at *
 generalize rs.length=nrs at *
 generalize sv.length=nsv at *
 generalize gw.length=ngw at *
 generalize wh.length=nwh at *
 go_enter Tryz.func17,Tryz.ntmps17
 go_wp2_with fail
 rw [← hW]
 refine HC.out.mono ?_
 rintro e w1 ⟨rfl,hb1⟩
 have HB1:Hid (Below W.heap.size W w1):=hb1
 have HBW1:Hid (Below w.heap.size w w1):=HBW.out.trans (hb1.mono (by omega))
 clear hb1
 by_cases hp:pe=0
 ·have HD2:=HD.out hp w1 HB1.out
  have HR:Hid (res=we):=HE.out.trans (if_pos hp)
  subst hp
  clear HD HE
  go_wp2_with fail
  refine HD2.mono ?_
  rintro e w2 ⟨rfl,hb2⟩
  have HBW2:Hid (Below w.heap.size w w2):=HBW1.out.trans (hb2.mono HBW1.out.size)
  clear hb2
  go_wp2_with fail
  go_ret
  exact ⟨ret_int HR.out.symm,HBW2.out⟩
 ·have hp':(pe != 0)=true:=by simpa using hp
  have HR:Hid (res=pe):=HE.out.trans (if_neg hp)
  clear hp HD HE
  go_wp2_with fail
  go_ret
  exact ⟨ret_int HR.out.symm,HBW1.out⟩
theorem cells12 {W:World} {b:Nat} {T:TypeId} {f:Nat × Nat} {c0 c1 c2 c3 c4 c5 c6 c7 c8 c9 c10 c11:Value} (h:W.heap[b]?=some (.cells #[c0,c1,c2,c3,c4,c5,c6,c7,c8,c9,c10,c11] T f)):W.cell? ⟨b,0,none⟩=some c0∧W.cell? ⟨b,1,none⟩=some c1∧W.cell? ⟨b,2,none⟩=some c2∧W.cell? ⟨b,3,none⟩=some c3∧W.cell? ⟨b,4,none⟩=some c4∧W.cell? ⟨b,5,none⟩=some c5∧W.cell? ⟨b,6,none⟩=some c6∧W.cell? ⟨b,7,none⟩=some c7∧W.cell? ⟨b,8,none⟩=some c8∧W.cell? ⟨b,9,none⟩=some c9∧W.cell? ⟨b,10,none⟩=some c10∧W.cell? ⟨b,11,none⟩=some c11:=⟨cellsAt h 0,cellsAt h 1,cellsAt h 2,cellsAt h 3,cellsAt h 4,cellsAt h 5,cellsAt h 6,cellsAt h 7,cellsAt h 8,cellsAt h 9,cellsAt h 10,cellsAt h 11⟩
theorem frz12 {W:World} {b:Nat} {T:TypeId} {cs:Array Value} (h:W.heap[b]?=some (.cells cs T (0,0))):W.frozen? ⟨b,0,none⟩=false∧W.frozen? ⟨b,1,none⟩=false∧W.frozen? ⟨b,2,none⟩=false∧W.frozen? ⟨b,3,none⟩=false∧W.frozen? ⟨b,4,none⟩=false∧W.frozen? ⟨b,5,none⟩=false∧W.frozen? ⟨b,6,none⟩=false∧W.frozen? ⟨b,7,none⟩=false∧W.frozen? ⟨b,8,none⟩=false∧W.frozen? ⟨b,9,none⟩=false∧W.frozen? ⟨b,10,none⟩=false∧W.frozen? ⟨b,11,none⟩=false:=by simp [World.frozen?,h]
theorem cells6 {W:World} {b:Nat} {T:TypeId} {f:Nat × Nat} {c0 c1 c2 c3 c4 c5:Value} (h:W.heap[b]?=some (.cells #[c0,c1,c2,c3,c4,c5] T f)):W.cell? ⟨b,0,none⟩=some c0∧W.cell? ⟨b,1,none⟩=some c1∧W.cell? ⟨b,2,none⟩=some c2∧W.cell? ⟨b,3,none⟩=some c3∧W.cell? ⟨b,4,none⟩=some c4∧W.cell? ⟨b,5,none⟩=some c5:=⟨cellsAt h 0,cellsAt h 1,cellsAt h 2,cellsAt h 3,cellsAt h 4,cellsAt h 5⟩
theorem frz6 {W:World} {b:Nat} {T:TypeId} {cs:Array Value} (h:W.heap[b]?=some (.cells cs T (0,0))):W.frozen? ⟨b,0,none⟩=false∧W.frozen? ⟨b,1,none⟩=false∧W.frozen? ⟨b,2,none⟩=false∧W.frozen? ⟨b,3,none⟩=false∧W.frozen? ⟨b,4,none⟩=false∧W.frozen? ⟨b,5,none⟩=false:=by simp [World.frozen?,h]
theorem cells5 {W:World} {b:Nat} {T:TypeId} {f:Nat × Nat} {c0 c1 c2 c3 c4:Value} (h:W.heap[b]?=some (.cells #[c0,c1,c2,c3,c4] T f)):W.cell? ⟨b,0,none⟩=some c0∧W.cell? ⟨b,1,none⟩=some c1∧W.cell? ⟨b,2,none⟩=some c2∧W.cell? ⟨b,3,none⟩=some c3∧W.cell? ⟨b,4,none⟩=some c4:=⟨cellsAt h 0,cellsAt h 1,cellsAt h 2,cellsAt h 3,cellsAt h 4⟩
theorem below_set12 {B b:Nat} {a w:World} (h:Below B a w) (hb:B≤b) (x0 x1 x2 x3 x4 x5 x6 x7 x8 x9 x10 x11:Value):Below B a ((((((((((((w.setCell ⟨b,0,none⟩ x0).setCell ⟨b,1,none⟩ x1).setCell ⟨b,2,none⟩ x2).setCell ⟨b,3,none⟩ x3).setCell ⟨b,4,none⟩ x4).setCell ⟨b,5,none⟩ x5).setCell ⟨b,6,none⟩ x6).setCell ⟨b,7,none⟩ x7).setCell ⟨b,8,none⟩ x8).setCell ⟨b,9,none⟩ x9).setCell ⟨b,10,none⟩ x10).setCell ⟨b,11,none⟩ x11):=((((((((((((h).setCell (p:=⟨b,0,none⟩) hb _).setCell (p:=⟨b,1,none⟩) hb _).setCell (p:=⟨b,2,none⟩) hb _).setCell (p:=⟨b,3,none⟩) hb _).setCell (p:=⟨b,4,none⟩) hb _).setCell (p:=⟨b,5,none⟩) hb _).setCell (p:=⟨b,6,none⟩) hb _).setCell (p:=⟨b,7,none⟩) hb _).setCell (p:=⟨b,8,none⟩) hb _).setCell (p:=⟨b,9,none⟩) hb _).setCell (p:=⟨b,10,none⟩) hb _).setCell (p:=⟨b,11,none⟩) hb _
theorem owns_set12 {base b n k:Nat} {T:TypeId} {w:World} {v:Value} {xs:List Value} (h:w.ownsRow base T k v n xs) (hb:b < base) (x0 x1 x2 x3 x4 x5 x6 x7 x8 x9 x10 x11:Value):((((((((((((w.setCell ⟨b,0,none⟩ x0).setCell ⟨b,1,none⟩ x1).setCell ⟨b,2,none⟩ x2).setCell ⟨b,3,none⟩ x3).setCell ⟨b,4,none⟩ x4).setCell ⟨b,5,none⟩ x5).setCell ⟨b,6,none⟩ x6).setCell ⟨b,7,none⟩ x7).setCell ⟨b,8,none⟩ x8).setCell ⟨b,9,none⟩ x9).setCell ⟨b,10,none⟩ x10).setCell ⟨b,11,none⟩ x11).ownsRow base T k v n xs:=ownsRow_setCell_below (ownsRow_setCell_below (ownsRow_setCell_below (ownsRow_setCell_below (ownsRow_setCell_below (ownsRow_setCell_below (ownsRow_setCell_below (ownsRow_setCell_below (ownsRow_setCell_below (ownsRow_setCell_below (ownsRow_setCell_below (ownsRow_setCell_below (h) (a:=⟨b,0,none⟩) hb _) (a:=⟨b,1,none⟩) hb _) (a:=⟨b,2,none⟩) hb _) (a:=⟨b,3,none⟩) hb _) (a:=⟨b,4,none⟩) hb _) (a:=⟨b,5,none⟩) hb _) (a:=⟨b,6,none⟩) hb _) (a:=⟨b,7,none⟩) hb _) (a:=⟨b,8,none⟩) hb _) (a:=⟨b,9,none⟩) hb _) (a:=⟨b,10,none⟩) hb _) (a:=⟨b,11,none⟩) hb _
structure NdOwn (B:Nat) (w:World) (n:Nd) (vm vr vs vg vw:Value):Prop where
 ms:Own B w vm n.ms
 rs:ROwn B w vr n.rs
 sv:Sv.Own B w vs n.sv
 gw:Gw.Own B w vg n.gw
 wh:Wh.Own B w vw n.wh
theorem own_slice {base n k:Nat} {T:TypeId} {w:World} {v:Value} {xs:List Value} (h:w.ownsRow base T k v n xs):∃ a c,v=.slice a n c∧n≤c:=by
 rcases h.2 with ⟨h1,h2⟩ | ⟨g,c,cur,h1,_,_,hn,_⟩
 ·subst h2;exact ⟨none,0,h1,Nat.le_refl _⟩
 ·exact ⟨_,c,h1,hn⟩
theorem NdOwn.below {B:Nat} {w w':World} {n:Nd} {vm vr vs vg vw:Value} (h:NdOwn B w n vm vr vs vg vw) (hb:Below w.heap.size w w'):NdOwn B w' n vm vr vs vg vw:=⟨h.ms.below hb,h.rs.below hb,h.sv.below hb,h.gw.below hb,h.wh.below hb⟩
structure NdOk (n:Nd):Prop where
 ms:∀ m∈n.ms,m.name.size≤maxLen
 rs:∀ r∈n.rs,r.m.name.size≤maxLen
 sv:∀ m∈n.sv,m.ok
 gw:∀ m∈n.gw,m.ok
 wh:∀ m∈n.wh,m.ok
 name:n.name.size≤maxLen
 centre:n.centre.size≤maxLen
theorem NdIs.ok {w:World} {n:Nd} {vm vr vs vg vw:Value} (h:NdIs w n vm vr vs vg vw):NdOk n:=by
 obtain ⟨⟨_,_,_,h1,_⟩,⟨_,_,_,h2,_⟩,⟨_,_,_,h3,_⟩,⟨_,_,_,h4,_⟩,⟨_,_,_,h5,_⟩,h6,h7⟩:=h
 exact ⟨ns_mem h1,rns_mem h2,Sv.ns_mem h3,Gw.ns_mem h4,Wh.ns_mem h5,h6,h7⟩
theorem NdOwn.is {B:Nat} {w:World} {n:Nd} {vm vr vs vg vw:Value} (h:NdOwn B w n vm vr vs vg vw) (hk:NdOk n):NdIs w n vm vr vs vg vw:=
 ⟨h.ms.sl (ns_get hk.ms),h.rs.sl (rns_get hk.rs),h.sv.sl (Sv.ns_get hk.sv),h.gw.sl (Gw.ns_get hk.gw),h.wh.sl (Wh.ns_get hk.wh),hk.name,hk.centre⟩
set_option maxHeartbeats 12800000 in
set_option maxRecDepth 100000 in
theorem fresh_any (n:Nd) (vm vr vs vg vw:Value) (w:World) (h:NdIs w n vm vr vs vg vw) (l1:n.ms.length≤1000) (l2:n.rs.length≤1000) (l3:n.sv.length≤1000) (l4:n.gw.length≤1000) (l5:n.wh.length≤1000) :
 Calls Tryz.prog 57 #[.agg (ndA n vm vr vs vg vw)] w fun e w'=>∃ um ur us ug uw,e=.returned (.agg (ndA n um ur us ug uw))∧NdOwn w.heap.size w' n um ur us ug uw∧Below w.heap.size w w':=by
 obtain ⟨nm,ct,ms,rs,sv,gw,⟨px,py,pz,ph,pq⟩,wh⟩:=n
 obtain ⟨hm,hr,hs,hgw,hh,_,_⟩:=h
 simp only at hm hr hs hgw hh l1 l2 l3 l4 l5
 have Hm:Hid (∀ W,Below w.heap.size w W→Calls Tryz.prog 116 #[vm] W fun e w'=>∃ v',e=.returned v'∧Own W.heap.size w' v' ms∧Below W.heap.size W w'):=fun W hW=>clone_any ms vm W (hm.below hW) l1
 have Hr:Hid (∀ W,Below w.heap.size w W→Calls Tryz.prog 117 #[vr] W fun e w'=>∃ v',e=.returned v'∧ROwn W.heap.size w' v' rs∧Below W.heap.size W w'):=fun W hW=>rclone_any rs vr W (hr.below hW) l2
 have Hs:Hid (∀ W,Below w.heap.size w W→Calls Tryz.prog 118 #[vs] W fun e w'=>∃ v',e=.returned v'∧Sv.Own W.heap.size w' v' sv∧Below W.heap.size W w'):=fun W hW=>Sv.clone_any sv vs W (hs.below hW) l3
 have Hg:Hid (∀ W,Below w.heap.size w W→Calls Tryz.prog 119 #[vg] W fun e w'=>∃ v',e=.returned v'∧Gw.Own W.heap.size w' v' gw∧Below W.heap.size W w'):=fun W hW=>Gw.clone_any gw vg W (hgw.below hW) l4
 have Hh:Hid (∀ W,Below w.heap.size w W→Calls Tryz.prog 120 #[vw] W fun e w'=>∃ v',e=.returned v'∧Wh.Own W.heap.size w' v' wh∧Below W.heap.size W w'):=fun W hW=>Wh.clone_any wh vw W (hh.below hW) l5
 obtain ⟨em,cm,rfl,_,_⟩:=hm
 obtain ⟨er,cr,rfl,_,_⟩:=hr
 obtain ⟨es,cs,rfl,_,_⟩:=hs
 obtain ⟨eg,cg,rfl,_,_⟩:=hgw
 obtain ⟨eh,ch,rfl,_,_⟩:=hh
 generalize hNm:ms.length=km at *
 have HNm:Hid (ms.length=km):=hNm
 clear hNm
 generalize hNr:rs.length=kr at *
 have HNr:Hid (rs.length=kr):=hNr
 clear hNr
 generalize hNs:sv.length=ks at *
 have HNs:Hid (sv.length=ks):=hNs
 clear hNs
 generalize hNg:gw.length=kg at *
 have HNg:Hid (gw.length=kg):=hNg
 clear hNg
 generalize hNh:wh.length=kh at *
 have HNh:Hid (wh.length=kh):=hNh
 clear hNh
 simp only [ndA]
 obtain ⟨W0,hW0⟩:∃ W0,W0=(w.alloc (.cells #[.string nm,.string ct,.slice em km cm,.slice er kr cr,.slice es ks cs,.slice eg kg cg,.int .i64 px,.int .i64 py,.int .i64 pz,.int .i64 ph,.int .i64 pq,.slice eh kh ch] 30)).alloc (.cells #[.string ⟨#[]⟩,.string ⟨#[]⟩,.slice none 0 0,.slice none 0 0,.slice none 0 0,.slice none 0 0,.int .i64 0,.int .i64 0,.int .i64 0,.int .i64 0,.int .i64 0,.slice none 0 0] 30):=⟨_,rfl⟩
 have hb0:Below w.heap.size w W0:=by rw [hW0];exact ((Below.refl _ _).alloc (Nat.le_refl _) _).alloc (by simp) _
 have hg0:W0.heap[w.heap.size]?=some (.cells #[.string nm,.string ct,.slice em km cm,.slice er kr cr,.slice es ks cs,.slice eg kg cg,.int .i64 px,.int .i64 py,.int .i64 pz,.int .i64 ph,.int .i64 pq,.slice eh kh ch] 30 (0,0)):=by
  rw [hW0,Below.heap_alloc _ _ _ (by simp)];exact heap_alloc_new w _
 have hz0:W0.heap[w.heap.size+1]?=some (.cells #[.string ⟨#[]⟩,.string ⟨#[]⟩,.slice none 0 0,.slice none 0 0,.slice none 0 0,.slice none 0 0,.int .i64 0,.int .i64 0,.int .i64 0,.int .i64 0,.int .i64 0,.slice none 0 0] 30 (0,0)):=by
  have h:=heap_alloc_new (w.alloc (.cells #[.string nm,.string ct,.slice em km cm,.slice er kr cr,.slice es ks cs,.slice eg kg cg,.int .i64 px,.int .i64 py,.int .i64 pz,.int .i64 ph,.int .i64 pq,.slice eh kh ch] 30)) (.cells #[.string ⟨#[]⟩,.string ⟨#[]⟩,.slice none 0 0,.slice none 0 0,.slice none 0 0,.slice none 0 0,.int .i64 0,.int .i64 0,.int .i64 0,.int .i64 0,.int .i64 0,.slice none 0 0] 30)
  rw [hW0];simpa using h
 have hs0:w.heap.size+1 < W0.heap.size:=by rw [hW0];simp
 have HB0:Hid (Below w.heap.size w W0):=hb0
 have HG0:Hid (W0.heap[w.heap.size]?=some (.cells #[.string nm,.string ct,.slice em km cm,.slice er kr cr,.slice es ks cs,.slice eg kg cg,.int .i64 px,.int .i64 py,.int .i64 pz,.int .i64 ph,.int .i64 pq,.slice eh kh ch] 30 (0,0))):=hg0
 have HZ0:Hid (W0.heap[w.heap.size+1]?=some (.cells #[.string ⟨#[]⟩,.string ⟨#[]⟩,.slice none 0 0,.slice none 0 0,.slice none 0 0,.slice none 0 0,.int .i64 0,.int .i64 0,.int .i64 0,.int .i64 0,.int .i64 0,.slice none 0 0] 30 (0,0))):=hz0
 clear hb0 hg0 hz0
 go_enter Tryz.func57,Tryz.ntmps57
 go_wp2_with fail
 rw [← hW0]
 clear hW0
 refine (Hm.out W0 HB0.out).mono ?_
 rintro e X1 ⟨v',rfl,ho,hx⟩
 obtain ⟨bm,dm',hv',_⟩:=own_slice ho
 rw [HNm.out] at hv'
 subst hv'
 have hgx:X1.heap[w.heap.size]?=some (.cells #[.string nm,.string ct,.slice em km cm,.slice er kr cr,.slice es ks cs,.slice eg kg cg,.int .i64 px,.int .i64 py,.int .i64 pz,.int .i64 ph,.int .i64 pq,.slice eh kh ch] 30 (0,0)):=(hx.block _ (by omega)).trans HG0.out
 obtain ⟨y0,y1,y2,y3,y4,y5,y6,y7,y8,y9,y10,y11⟩:=cells12 hgx
 have z2:X1.frozen? ⟨w.heap.size,2,none⟩=false:=by simp [World.frozen?,hgx]
 have hsx:w.heap.size < X1.heap.size:=by have:=hx.size;omega
 obtain ⟨W1,hW1⟩:∃ W1,W1=X1.setCell ⟨w.heap.size,2,none⟩ (.slice bm km dm'):=⟨_,rfl⟩
 have HG1:Hid (W1.heap[w.heap.size]?=some (.cells #[.string nm,.string ct,.slice bm km dm',.slice er kr cr,.slice es ks cs,.slice eg kg cg,.int .i64 px,.int .i64 py,.int .i64 pz,.int .i64 ph,.int .i64 pq,.slice eh kh ch] 30 (0,0))):=by rw [hW1];exact Joins.block_setCell (i:=2) hgx _
 have HZ1:Hid (W1.heap[w.heap.size+1]?=some (.cells #[.string ⟨#[]⟩,.string ⟨#[]⟩,.slice none 0 0,.slice none 0 0,.slice none 0 0,.slice none 0 0,.int .i64 0,.int .i64 0,.int .i64 0,.int .i64 0,.int .i64 0,.slice none 0 0] 30 (0,0))):=by rw [hW1];exact (Below.heap_setCell _ _ _ _ (by simp)).trans ((hx.block _ (by omega)).trans HZ0.out)
 have HOm1:Hid (Own (w.heap.size+2) W1 (.slice bm km dm') ms):=by rw [hW1];exact ownsRow_setCell_below (ho.mono (by omega)) (by simp) _
 have HB1:Hid (Below w.heap.size w W1):=by rw [hW1];exact (HB0.out.trans (hx.mono HB0.out.size)).setCell (p:=⟨w.heap.size,2,none⟩) (by simp) _
 have hs1:w.heap.size+1 < W1.heap.size:=(Array.getElem?_eq_some_iff.1 HZ1.out).1
 clear ho hx hgx hs0
 go_wp2_with fail
 rw [← hW1]
 clear hW1 y0 y1 y2 y3 y4 y5 y6 y7 y8 y9 y10 y11 z2 hsx
 refine (Hr.out W1 HB1.out).mono ?_
 rintro e X2 ⟨v',rfl,ho,hx⟩
 obtain ⟨br,dr',hv',_⟩:=own_slice ho
 rw [HNr.out] at hv'
 subst hv'
 have hgx:X2.heap[w.heap.size]?=some (.cells #[.string nm,.string ct,.slice bm km dm',.slice er kr cr,.slice es ks cs,.slice eg kg cg,.int .i64 px,.int .i64 py,.int .i64 pz,.int .i64 ph,.int .i64 pq,.slice eh kh ch] 30 (0,0)):=(hx.block _ (by omega)).trans HG1.out
 obtain ⟨y0,y1,y2,y3,y4,y5,y6,y7,y8,y9,y10,y11⟩:=cells12 hgx
 have z3:X2.frozen? ⟨w.heap.size,3,none⟩=false:=by simp [World.frozen?,hgx]
 have hsx:w.heap.size < X2.heap.size:=by have:=hx.size;omega
 obtain ⟨W2,hW2⟩:∃ W2,W2=X2.setCell ⟨w.heap.size,3,none⟩ (.slice br kr dr'):=⟨_,rfl⟩
 have HG2:Hid (W2.heap[w.heap.size]?=some (.cells #[.string nm,.string ct,.slice bm km dm',.slice br kr dr',.slice es ks cs,.slice eg kg cg,.int .i64 px,.int .i64 py,.int .i64 pz,.int .i64 ph,.int .i64 pq,.slice eh kh ch] 30 (0,0))):=by rw [hW2];exact Joins.block_setCell (i:=3) hgx _
 have HZ2:Hid (W2.heap[w.heap.size+1]?=some (.cells #[.string ⟨#[]⟩,.string ⟨#[]⟩,.slice none 0 0,.slice none 0 0,.slice none 0 0,.slice none 0 0,.int .i64 0,.int .i64 0,.int .i64 0,.int .i64 0,.int .i64 0,.slice none 0 0] 30 (0,0))):=by rw [hW2];exact (Below.heap_setCell _ _ _ _ (by simp)).trans ((hx.block _ (by omega)).trans HZ1.out)
 have HOr2:Hid (ROwn (w.heap.size+2) W2 (.slice br kr dr') rs):=by rw [hW2];exact ownsRow_setCell_below (ho.base (by omega)) (by simp) _
 have HOm2:Hid (Own (w.heap.size+2) W2 (.slice bm km dm') ms):=by rw [hW2];exact ownsRow_setCell_below (HOm1.out.below hx) (by simp) _
 have HB2:Hid (Below w.heap.size w W2):=by rw [hW2];exact (HB1.out.trans (hx.mono HB1.out.size)).setCell (p:=⟨w.heap.size,3,none⟩) (by simp) _
 have hs2:w.heap.size+1 < W2.heap.size:=(Array.getElem?_eq_some_iff.1 HZ2.out).1
 clear ho hx hgx hs1
 go_wp2_with fail
 rw [← hW2]
 clear hW2 y0 y1 y2 y3 y4 y5 y6 y7 y8 y9 y10 y11 z3 hsx
 refine (Hs.out W2 HB2.out).mono ?_
 rintro e X3 ⟨v',rfl,ho,hx⟩
 obtain ⟨bs,ds',hv',_⟩:=own_slice ho
 rw [HNs.out] at hv'
 subst hv'
 have hgx:X3.heap[w.heap.size]?=some (.cells #[.string nm,.string ct,.slice bm km dm',.slice br kr dr',.slice es ks cs,.slice eg kg cg,.int .i64 px,.int .i64 py,.int .i64 pz,.int .i64 ph,.int .i64 pq,.slice eh kh ch] 30 (0,0)):=(hx.block _ (by omega)).trans HG2.out
 obtain ⟨y0,y1,y2,y3,y4,y5,y6,y7,y8,y9,y10,y11⟩:=cells12 hgx
 have z4:X3.frozen? ⟨w.heap.size,4,none⟩=false:=by simp [World.frozen?,hgx]
 have hsx:w.heap.size < X3.heap.size:=by have:=hx.size;omega
 obtain ⟨W3,hW3⟩:∃ W3,W3=X3.setCell ⟨w.heap.size,4,none⟩ (.slice bs ks ds'):=⟨_,rfl⟩
 have HG3:Hid (W3.heap[w.heap.size]?=some (.cells #[.string nm,.string ct,.slice bm km dm',.slice br kr dr',.slice bs ks ds',.slice eg kg cg,.int .i64 px,.int .i64 py,.int .i64 pz,.int .i64 ph,.int .i64 pq,.slice eh kh ch] 30 (0,0))):=by rw [hW3];exact Joins.block_setCell (i:=4) hgx _
 have HZ3:Hid (W3.heap[w.heap.size+1]?=some (.cells #[.string ⟨#[]⟩,.string ⟨#[]⟩,.slice none 0 0,.slice none 0 0,.slice none 0 0,.slice none 0 0,.int .i64 0,.int .i64 0,.int .i64 0,.int .i64 0,.int .i64 0,.slice none 0 0] 30 (0,0))):=by rw [hW3];exact (Below.heap_setCell _ _ _ _ (by simp)).trans ((hx.block _ (by omega)).trans HZ2.out)
 have HOs3:Hid (Sv.Own (w.heap.size+2) W3 (.slice bs ks ds') sv):=by rw [hW3];exact ownsRow_setCell_below (ho.mono (by omega)) (by simp) _
 have HOm3:Hid (Own (w.heap.size+2) W3 (.slice bm km dm') ms):=by rw [hW3];exact ownsRow_setCell_below (HOm2.out.below hx) (by simp) _
 have HOr3:Hid (ROwn (w.heap.size+2) W3 (.slice br kr dr') rs):=by rw [hW3];exact ownsRow_setCell_below (HOr2.out.below hx) (by simp) _
 have HB3:Hid (Below w.heap.size w W3):=by rw [hW3];exact (HB2.out.trans (hx.mono HB2.out.size)).setCell (p:=⟨w.heap.size,4,none⟩) (by simp) _
 have hs3:w.heap.size+1 < W3.heap.size:=(Array.getElem?_eq_some_iff.1 HZ3.out).1
 clear ho hx hgx hs2
 go_wp2_with fail
 rw [← hW3]
 clear hW3 y0 y1 y2 y3 y4 y5 y6 y7 y8 y9 y10 y11 z4 hsx
 refine (Hg.out W3 HB3.out).mono ?_
 rintro e X4 ⟨v',rfl,ho,hx⟩
 obtain ⟨bg,dg',hv',_⟩:=own_slice ho
 rw [HNg.out] at hv'
 subst hv'
 have hgx:X4.heap[w.heap.size]?=some (.cells #[.string nm,.string ct,.slice bm km dm',.slice br kr dr',.slice bs ks ds',.slice eg kg cg,.int .i64 px,.int .i64 py,.int .i64 pz,.int .i64 ph,.int .i64 pq,.slice eh kh ch] 30 (0,0)):=(hx.block _ (by omega)).trans HG3.out
 obtain ⟨y0,y1,y2,y3,y4,y5,y6,y7,y8,y9,y10,y11⟩:=cells12 hgx
 have z5:X4.frozen? ⟨w.heap.size,5,none⟩=false:=by simp [World.frozen?,hgx]
 have hsx:w.heap.size < X4.heap.size:=by have:=hx.size;omega
 obtain ⟨W4,hW4⟩:∃ W4,W4=X4.setCell ⟨w.heap.size,5,none⟩ (.slice bg kg dg'):=⟨_,rfl⟩
 have HG4:Hid (W4.heap[w.heap.size]?=some (.cells #[.string nm,.string ct,.slice bm km dm',.slice br kr dr',.slice bs ks ds',.slice bg kg dg',.int .i64 px,.int .i64 py,.int .i64 pz,.int .i64 ph,.int .i64 pq,.slice eh kh ch] 30 (0,0))):=by rw [hW4];exact Joins.block_setCell (i:=5) hgx _
 have HZ4:Hid (W4.heap[w.heap.size+1]?=some (.cells #[.string ⟨#[]⟩,.string ⟨#[]⟩,.slice none 0 0,.slice none 0 0,.slice none 0 0,.slice none 0 0,.int .i64 0,.int .i64 0,.int .i64 0,.int .i64 0,.int .i64 0,.slice none 0 0] 30 (0,0))):=by rw [hW4];exact (Below.heap_setCell _ _ _ _ (by simp)).trans ((hx.block _ (by omega)).trans HZ3.out)
 have HOg4:Hid (Gw.Own (w.heap.size+2) W4 (.slice bg kg dg') gw):=by rw [hW4];exact ownsRow_setCell_below (ho.mono (by omega)) (by simp) _
 have HOm4:Hid (Own (w.heap.size+2) W4 (.slice bm km dm') ms):=by rw [hW4];exact ownsRow_setCell_below (HOm3.out.below hx) (by simp) _
 have HOr4:Hid (ROwn (w.heap.size+2) W4 (.slice br kr dr') rs):=by rw [hW4];exact ownsRow_setCell_below (HOr3.out.below hx) (by simp) _
 have HOs4:Hid (Sv.Own (w.heap.size+2) W4 (.slice bs ks ds') sv):=by rw [hW4];exact ownsRow_setCell_below (HOs3.out.below hx) (by simp) _
 have HB4:Hid (Below w.heap.size w W4):=by rw [hW4];exact (HB3.out.trans (hx.mono HB3.out.size)).setCell (p:=⟨w.heap.size,5,none⟩) (by simp) _
 have hs4:w.heap.size+1 < W4.heap.size:=(Array.getElem?_eq_some_iff.1 HZ4.out).1
 clear ho hx hgx hs3
 go_wp2_with fail
 rw [← hW4]
 clear hW4 y0 y1 y2 y3 y4 y5 y6 y7 y8 y9 y10 y11 z5 hsx
 refine (Hh.out W4 HB4.out).mono ?_
 rintro e X5 ⟨v',rfl,ho,hx⟩
 obtain ⟨bh,dh',hv',_⟩:=own_slice ho
 rw [HNh.out] at hv'
 subst hv'
 have hgx:X5.heap[w.heap.size]?=some (.cells #[.string nm,.string ct,.slice bm km dm',.slice br kr dr',.slice bs ks ds',.slice bg kg dg',.int .i64 px,.int .i64 py,.int .i64 pz,.int .i64 ph,.int .i64 pq,.slice eh kh ch] 30 (0,0)):=(hx.block _ (by omega)).trans HG4.out
 obtain ⟨y0,y1,y2,y3,y4,y5,y6,y7,y8,y9,y10,y11⟩:=cells12 hgx
 have z11:X5.frozen? ⟨w.heap.size,11,none⟩=false:=by simp [World.frozen?,hgx]
 have hsx:w.heap.size < X5.heap.size:=by have:=hx.size;omega
 obtain ⟨W5,hW5⟩:∃ W5,W5=X5.setCell ⟨w.heap.size,11,none⟩ (.slice bh kh dh'):=⟨_,rfl⟩
 have HG5:Hid (W5.heap[w.heap.size]?=some (.cells #[.string nm,.string ct,.slice bm km dm',.slice br kr dr',.slice bs ks ds',.slice bg kg dg',.int .i64 px,.int .i64 py,.int .i64 pz,.int .i64 ph,.int .i64 pq,.slice bh kh dh'] 30 (0,0))):=by rw [hW5];exact Joins.block_setCell (i:=11) hgx _
 have HZ5:Hid (W5.heap[w.heap.size+1]?=some (.cells #[.string ⟨#[]⟩,.string ⟨#[]⟩,.slice none 0 0,.slice none 0 0,.slice none 0 0,.slice none 0 0,.int .i64 0,.int .i64 0,.int .i64 0,.int .i64 0,.int .i64 0,.slice none 0 0] 30 (0,0))):=by rw [hW5];exact (Below.heap_setCell _ _ _ _ (by simp)).trans ((hx.block _ (by omega)).trans HZ4.out)
 have HOh5:Hid (Wh.Own (w.heap.size+2) W5 (.slice bh kh dh') wh):=by rw [hW5];exact ownsRow_setCell_below (ho.mono (by omega)) (by simp) _
 have HOm5:Hid (Own (w.heap.size+2) W5 (.slice bm km dm') ms):=by rw [hW5];exact ownsRow_setCell_below (HOm4.out.below hx) (by simp) _
 have HOr5:Hid (ROwn (w.heap.size+2) W5 (.slice br kr dr') rs):=by rw [hW5];exact ownsRow_setCell_below (HOr4.out.below hx) (by simp) _
 have HOs5:Hid (Sv.Own (w.heap.size+2) W5 (.slice bs ks ds') sv):=by rw [hW5];exact ownsRow_setCell_below (HOs4.out.below hx) (by simp) _
 have HOg5:Hid (Gw.Own (w.heap.size+2) W5 (.slice bg kg dg') gw):=by rw [hW5];exact ownsRow_setCell_below (HOg4.out.below hx) (by simp) _
 have HB5:Hid (Below w.heap.size w W5):=by rw [hW5];exact (HB4.out.trans (hx.mono HB4.out.size)).setCell (p:=⟨w.heap.size,11,none⟩) (by simp) _
 have hs5:w.heap.size+1 < W5.heap.size:=(Array.getElem?_eq_some_iff.1 HZ5.out).1
 have hz5:=HZ5.out
 have q0:W5.cell? ⟨w.heap.size+1,0,none⟩=_:=cellsAt hz5 0
 have p0:W5.cell? ⟨w.heap.size,0,none⟩=_:=cellsAt HG5.out 0
 have zz0:W5.frozen? ⟨w.heap.size+1,0,none⟩=false:=by simp [World.frozen?,hz5]
 have q1:W5.cell? ⟨w.heap.size+1,1,none⟩=_:=cellsAt hz5 1
 have p1:W5.cell? ⟨w.heap.size,1,none⟩=_:=cellsAt HG5.out 1
 have zz1:W5.frozen? ⟨w.heap.size+1,1,none⟩=false:=by simp [World.frozen?,hz5]
 have q2:W5.cell? ⟨w.heap.size+1,2,none⟩=_:=cellsAt hz5 2
 have p2:W5.cell? ⟨w.heap.size,2,none⟩=_:=cellsAt HG5.out 2
 have zz2:W5.frozen? ⟨w.heap.size+1,2,none⟩=false:=by simp [World.frozen?,hz5]
 have q3:W5.cell? ⟨w.heap.size+1,3,none⟩=_:=cellsAt hz5 3
 have p3:W5.cell? ⟨w.heap.size,3,none⟩=_:=cellsAt HG5.out 3
 have zz3:W5.frozen? ⟨w.heap.size+1,3,none⟩=false:=by simp [World.frozen?,hz5]
 have q4:W5.cell? ⟨w.heap.size+1,4,none⟩=_:=cellsAt hz5 4
 have p4:W5.cell? ⟨w.heap.size,4,none⟩=_:=cellsAt HG5.out 4
 have zz4:W5.frozen? ⟨w.heap.size+1,4,none⟩=false:=by simp [World.frozen?,hz5]
 have q5:W5.cell? ⟨w.heap.size+1,5,none⟩=_:=cellsAt hz5 5
 have p5:W5.cell? ⟨w.heap.size,5,none⟩=_:=cellsAt HG5.out 5
 have zz5:W5.frozen? ⟨w.heap.size+1,5,none⟩=false:=by simp [World.frozen?,hz5]
 have q6:W5.cell? ⟨w.heap.size+1,6,none⟩=_:=cellsAt hz5 6
 have p6:W5.cell? ⟨w.heap.size,6,none⟩=_:=cellsAt HG5.out 6
 have zz6:W5.frozen? ⟨w.heap.size+1,6,none⟩=false:=by simp [World.frozen?,hz5]
 have q7:W5.cell? ⟨w.heap.size+1,7,none⟩=_:=cellsAt hz5 7
 have p7:W5.cell? ⟨w.heap.size,7,none⟩=_:=cellsAt HG5.out 7
 have zz7:W5.frozen? ⟨w.heap.size+1,7,none⟩=false:=by simp [World.frozen?,hz5]
 have q8:W5.cell? ⟨w.heap.size+1,8,none⟩=_:=cellsAt hz5 8
 have p8:W5.cell? ⟨w.heap.size,8,none⟩=_:=cellsAt HG5.out 8
 have zz8:W5.frozen? ⟨w.heap.size+1,8,none⟩=false:=by simp [World.frozen?,hz5]
 have q9:W5.cell? ⟨w.heap.size+1,9,none⟩=_:=cellsAt hz5 9
 have p9:W5.cell? ⟨w.heap.size,9,none⟩=_:=cellsAt HG5.out 9
 have zz9:W5.frozen? ⟨w.heap.size+1,9,none⟩=false:=by simp [World.frozen?,hz5]
 have q10:W5.cell? ⟨w.heap.size+1,10,none⟩=_:=cellsAt hz5 10
 have p10:W5.cell? ⟨w.heap.size,10,none⟩=_:=cellsAt HG5.out 10
 have zz10:W5.frozen? ⟨w.heap.size+1,10,none⟩=false:=by simp [World.frozen?,hz5]
 have q11:W5.cell? ⟨w.heap.size+1,11,none⟩=_:=cellsAt hz5 11
 have p11:W5.cell? ⟨w.heap.size,11,none⟩=_:=cellsAt HG5.out 11
 have zz11:W5.frozen? ⟨w.heap.size+1,11,none⟩=false:=by simp [World.frozen?,hz5]
 clear ho hx hgx hs4 hz5
 go_upto_region 6 with fail
 rw [← hW5]
 clear hW5 y0 y1 y2 y3 y4 y5 y6 y7 y8 y9 y10 y11 z11 hsx
 go_wp2_with fail
 refine bodyPost_ret (v:=.agg #[.string nm,.string ct,.slice bm km dm',.slice br kr dr',.slice bs ks ds',.slice bg kg dg',.int .i64 px,.int .i64 py,.int .i64 pz,.int .i64 ph,.int .i64 pq,.slice bh kh dh']) ?_ rfl ⟨.slice bm km dm',.slice br kr dr',.slice bs ks ds',.slice bg kg dg',.slice bh kh dh',rfl,⟨?_,?_,?_,?_,?_⟩,?_⟩
 ·simp [results,Tryz.results57,go_sem,q0,q1,q2,q3,q4,q5,q6,q7,q8,q9,q10,q11]
 ·exact Own.mono (owns_set12 (HOm5.out) (by simp) _ _ _ _ _ _ _ _ _ _ _ _) (by omega)
 ·exact ROwn.base (owns_set12 (HOr5.out) (by simp) _ _ _ _ _ _ _ _ _ _ _ _) (by omega)
 ·exact Sv.Own.mono (owns_set12 (HOs5.out) (by simp) _ _ _ _ _ _ _ _ _ _ _ _) (by omega)
 ·exact Gw.Own.mono (owns_set12 (HOg5.out) (by simp) _ _ _ _ _ _ _ _ _ _ _ _) (by omega)
 ·exact Wh.Own.mono (owns_set12 (HOh5.out) (by simp) _ _ _ _ _ _ _ _ _ _ _ _) (by omega)
 ·exact below_set12 HB5.out (by simp) _ _ _ _ _ _ _ _ _ _ _ _
end Go.Proofs.YtikgjgmgbfjcgaaGreat
