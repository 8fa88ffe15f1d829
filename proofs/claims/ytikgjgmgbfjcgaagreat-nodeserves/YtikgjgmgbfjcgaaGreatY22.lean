import Derived.Test.YtikgjgmgbfjcgaaGreatY18
import Derived.Test.YtikgjgmgbfjcgaaGreatY21
import Derived.Test.YtikgjgmgbfjcgaaGreatY19
import Derived.Laws.EntriesVeiled
namespace Go.Proofs.YtikgjgmgbfjcgaaGreat
open Go.RowKit
set_option maxHeartbeats 800000 in
theorem wIsIt_any (m:Mem) (nb:Nat) (nm:ByteArray) (w:World) (h:w.cell? ⟨nb,0,none⟩=some (.string nm)) :
 Calls Tryz.prog 154 #[.agg #[.string m.name,.int .i64 m.state,.int .i64 m.life,.int .i64 m.addr,.bool m.server],.pointer (some ⟨nb,0,none⟩)] w fun e w'=>e=.returned (.bool (decide (m.name=nm)))∧w'=w.alloc (.cells #[.string m.name,.int .i64 m.state,.int .i64 m.life,.int .i64 m.addr,.bool m.server] 37):=by
 have hb:nb < w.heap.size:=World.block_lt_of_cell? w _ h
 have h2:∀ ob,(w.alloc ob).cell? ⟨nb,0,none⟩=some (.string nm):=fun ob=>by
  rw [((Below.refl w.heap.size w).alloc (Nat.le_refl _) ob).cell (p:=⟨nb,0,none⟩) hb];exact h
 obtain ⟨mn,st,lf,ad,sv⟩:=m
 go_enter Tryz.func154,Tryz.ntmps154
 go_wp2_with fail
 go_ret
 exact ⟨ret_bool (beq_names _ _),rfl⟩
set_option maxHeartbeats 1600000 in
theorem wIndex_any (ms:List Mem) (pa:Option Addr) (n c nb:Nat) (nm:ByteArray) (w:World) (hv:Sl w (.slice pa n c) ms) (hsm:n≤1000) (ht:w.cell? ⟨nb,0,none⟩=some (.string nm)) :
 Calls Tryz.prog 155 #[.slice pa n c,.func (.func 154) #[] #[.pointer (some ⟨nb,0,none⟩)]] w fun e w'=>
  ((e=.returned (.int .i64 (-1))∧Hid (fstM ms nm=none))∨(∃ i:Nat,i < n∧e=.returned (.int .i64 i)∧Hid (fstM ms nm=some (ms.getD i dm))))∧Below w.heap.size w w':=by
 obtain ⟨pa',ca,he,_,ha⟩:=hv
 simp only [Value.slice.injEq] at he
 obtain ⟨rfl,hN,rfl⟩:=he
 have HA:Hid (ms=[]∨∃ b off,pa=some ⟨b,off,none⟩∧b < w.heap.size∧Row w b off ms):=ha
 have HN:Hid (ms.length=n):=hN.symm
 have HT:Hid (w.cell? ⟨nb,0,none⟩=some (.string nm)):=ht
 have htb:nb < w.heap.size:=World.block_lt_of_cell? w _ ht
 clear ha hN ht
 go_enter Tryz.func155,Tryz.ntmps155
 go_wp2_with fail
 go_loopw [8] (fun i wr=>∃ k:Nat,k≤n∧i=.int .i64 k∧Hid (∀ j,j < k→(ms.getD j dm).name≠nm)∧Hid (Below w.heap.size w wr)) (fun i _=>n - (intOf i).toNat)
 case atStart=>exact ⟨0,Nat.zero_le _,rfl,fun j hj=>by omega,Below.refl _ _⟩
 case round=>
  obtain ⟨k,hk,rfl,HZ,HB⟩:=hrel
  by_cases hlt:k < n
  ·obtain ⟨b,off,hp1,hl1,hr⟩:∃ b off,pa=some ⟨b,off,none⟩∧b < w.heap.size∧Row w b off ms:=by
    rcases HA.out with h | h
    ·have:=HN.out;rw [h] at this;simp at this;omega
    ·exact h
   subst hp1
   obtain ⟨c0,c1,c2,c3,c4⟩:=hr.later HB.out hl1 k (by rw [HN.out];exact hlt)
   clear hr
   have ht2:wr.cell? ⟨nb,0,none⟩=some (.string nm):=by rw [HB.out.cell (p:=⟨nb,0,none⟩) htb];exact HT.out
   have HY:Hid ((ms.getD k dm).name=nm→fstM ms nm=some (ms.getD k dm)):=fun h=>fstM_some (by rw [HN.out];exact hlt) HZ.out h
   have HZ2:Hid ((ms.getD k dm).name≠nm→∀ j,j < k+1→(ms.getD j dm).name≠nm):=fun h j hj=>by
    by_cases e:j=k
    ·subst e;exact h
    ·exact HZ.out j (by omega)
   have hF:=fun w h=>wIsIt_any (ms.getD k dm) nb nm w h
   by_cases hkp:(ms.getD k dm).name=nm
   ·have HF:Hid (fstM ms nm=some (ms.getD k dm)):=HY.out hkp
    rw [decide_eq_true hkp] at hF
    clear hkp HZ2 HY
    generalize hmk:ms.getD k dm=mk at *
    have HMK:Hid (ms.getD k dm=mk):=hmk
    clear hmk
    obtain ⟨mn,st,lf,ad,sv⟩:=mk
    simp only at c0 c1 c2 c3 c4 hF
    go_wp2_with fail
    refine (hF _ ht2).mono ?_
    rintro e w1 ⟨rfl,rfl⟩
    go_wp2_with fail
    go_ret
    exact ⟨.inr ⟨k,hlt,rfl,by rw [HMK.out];exact HF⟩,HB.out.alloc HB.out.size _⟩
   ·have HZ3:Hid (∀ j,j < k+1→(ms.getD j dm).name≠nm):=HZ2.out hkp
    rw [decide_eq_false hkp] at hF
    clear hkp HZ2 HY HZ
    generalize ms.getD k dm=mk at *
    obtain ⟨mn,st,lf,ad,sv⟩:=mk
    simp only at c0 c1 c2 c3 c4 hF
    go_wp2_with fail
    refine (hF _ ht2).mono ?_
    rintro e w1 ⟨rfl,rfl⟩
    go_wp2_with fail
    go_roundw
    case rel=>exact ⟨k+1,by omega,by go_num,HZ3,HB.out.alloc HB.out.size _⟩
    case measure=>simp [intOf];omega
  ·have HZ3:Hid (fstM ms nm=none):=fstM_none fun j hj=>HZ.out j (by have:=HN.out;omega)
   clear HZ
   go_wp2_with fail
   go_ret
   exact ⟨.inl ⟨rfl,HZ3⟩,HB.out⟩
theorem mOf_some {ms:List Mem} {t:ByteArray} {m:Mem} (h:fstM ms t=some m):mOf ms t=m:=by unfold mOf;rw [h];rfl
theorem mOf_none {ms:List Mem} {t:ByteArray} (h:fstM ms t=none):mOf ms t=dm:=by unfold mOf;rw [h];rfl
set_option maxHeartbeats 3200000 in
set_option maxRecDepth 100000 in
theorem wmember_any (b:Nat) (pm:Option Addr) (nm cm:Nat) (ms:List Mem) (t:ByteArray) (w:World) (hc:w.cell? ⟨b,2,none⟩=some (.slice pm nm cm)) (hm:Sl w (.slice pm nm cm) ms) (hn:nm≤1000) :
 Calls Tryz.prog 104 #[.pointer (some ⟨b,0,none⟩),.string t] w fun e w'=>e=.returned (.tuple #[.agg #[.string (mOf ms t).name,.int .i64 (mOf ms t).state,.int .i64 (mOf ms t).life,.int .i64 (mOf ms t).addr,.bool (mOf ms t).server],.bool (fstM ms t).isSome])∧Below w.heap.size w w':=by
 have HM:Hid (Sl w (.slice pm nm cm) ms):=hm
 have hb:b < w.heap.size:=World.block_lt_of_cell? w _ hc
 have HC:Hid (w.cell? ⟨b,2,none⟩=some (.slice pm nm cm)):=hc
 clear hm
 obtain ⟨W,hW⟩:∃ W,W=(w.alloc (.cells #[.string t] 9)).alloc (.cells #[.string ⟨#[]⟩,.int .i64 0,.int .i64 0,.int .i64 0,.bool false] 37):=⟨_,rfl⟩
 have hbW:Below w.heap.size w W:=by rw [hW];exact ((Below.refl _ _).alloc (Nat.le_refl _) _).alloc (by simp) _
 have hg1:W.heap[w.heap.size]?=some (.cells #[.string t] 9 (0,0)):=by
  rw [hW,Below.heap_alloc _ _ _ (by simp)];exact heap_alloc_new w _
 have hg2:W.heap[w.heap.size+1]?=some (.cells #[.string ⟨#[]⟩,.int .i64 0,.int .i64 0,.int .i64 0,.bool false] 37 (0,0)):=by
  have h:=heap_alloc_new (w.alloc (.cells #[.string t] 9)) (.cells #[.string ⟨#[]⟩,.int .i64 0,.int .i64 0,.int .i64 0,.bool false] 37)
  rw [hW];simpa using h
 have hsW:W.heap.size=w.heap.size+2:=by rw [hW];simp
 go_enter Tryz.func104,Tryz.ntmps104
 go_wp2_with fail
 rw [← hW]
 clear hW
 refine (wIndex_any ms pm nm cm _ t W (HM.out.below hbW) hn (cellsAt hg1 0)).mono ?_
 rintro e w1 ⟨hor,hb1⟩
 have h2:w1.heap[w.heap.size+1]?=_:=(hb1.block _ (by omega)).trans hg2
 have HB:Hid (Below w.heap.size w w1):=hbW.trans (hb1.mono (by omega))
 have HM1:Hid (Sl w1 (.slice pm nm cm) ms):=HM.out.below HB.out
 have d2:w1.cell? ⟨b,2,none⟩=some (.slice pm nm cm):=by rw [HB.out.cell (p:=⟨b,2,none⟩) hb];exact HC.out
 have r0:w1.cell? ⟨w.heap.size+1,0,none⟩=some (.string ⟨#[]⟩):=cellsAt h2 0
 have r1:w1.cell? ⟨w.heap.size+1,1,none⟩=some (.int .i64 0):=cellsAt h2 1
 have r2:w1.cell? ⟨w.heap.size+1,2,none⟩=some (.int .i64 0):=cellsAt h2 2
 have r3:w1.cell? ⟨w.heap.size+1,3,none⟩=some (.int .i64 0):=cellsAt h2 3
 have r4:w1.cell? ⟨w.heap.size+1,4,none⟩=some (.bool false):=cellsAt h2 4
 have z0:w1.frozen? ⟨w.heap.size+1,0,none⟩=false:=by simp [World.frozen?,h2]
 have z1:w1.frozen? ⟨w.heap.size+1,1,none⟩=false:=by simp [World.frozen?,h2]
 have z2:w1.frozen? ⟨w.heap.size+1,2,none⟩=false:=by simp [World.frozen?,h2]
 have z3:w1.frozen? ⟨w.heap.size+1,3,none⟩=false:=by simp [World.frozen?,h2]
 have z4:w1.frozen? ⟨w.heap.size+1,4,none⟩=false:=by simp [World.frozen?,h2]
 have hz2:w.heap.size+1 < w1.heap.size:=(Array.getElem?_eq_some_iff.1 h2).1
 clear hbW hg1 hg2 hb1 h2 hsW hc
 rcases hor with ⟨rfl,HF⟩ | ⟨i,hi,rfl,HF⟩
 ·have HO:Hid (mOf ms t=dm∧(fstM ms t).isSome=false):=⟨mOf_none HF.out,by rw [HF.out];rfl⟩
  go_wp2_with fail
  refine bodyPost_ret (v:=.tuple #[.agg #[.string ⟨#[]⟩,.int .i64 0,.int .i64 0,.int .i64 0,.bool false],.bool false]) ?_ rfl ⟨by rw [HO.out.1,HO.out.2];rfl,?_⟩
  ·simp [results,Tryz.results104,go_sem,r0,r1,r2,r3,r4]
  exact ((((HB.out.setCell (p:=⟨w.heap.size+1,0,none⟩) (by simp) _).setCell (p:=⟨w.heap.size+1,1,none⟩) (by simp) _).setCell (p:=⟨w.heap.size+1,2,none⟩) (by simp) _).setCell (p:=⟨w.heap.size+1,3,none⟩) (by simp) _).setCell (p:=⟨w.heap.size+1,4,none⟩) (by simp) _
 ·have HO:Hid (mOf ms t=ms.getD i dm∧(fstM ms t).isSome=true):=⟨mOf_some HF.out,by rw [HF.out];rfl⟩
  obtain ⟨pa',ca,he,_,ha⟩:=HM1.out
  simp only [Value.slice.injEq] at he
  obtain ⟨rfl,hN,rfl⟩:=he
  obtain ⟨b2,off,hp1,hl1,hr⟩:∃ b off,pm=some ⟨b,off,none⟩∧b < w1.heap.size∧Row w1 b off ms:=by
   rcases ha with h | h
   ·rw [h] at hN;simp at hN;omega
   ·exact h
  subst hp1
  obtain ⟨c0,c1,c2,c3,c4⟩:=hr i (by omega)
  clear hr hN ha HF
  generalize ms.getD i dm=mk at *
  obtain ⟨mn,st,lf,ad,sv⟩:=mk
  simp only at c0 c1 c2 c3 c4
  go_wp2_with fail
  refine bodyPost_ret (v:=.tuple #[.agg #[.string mn,.int .i64 st,.int .i64 lf,.int .i64 ad,.bool sv],.bool true]) ?_ rfl ⟨by rw [HO.out.1,HO.out.2],?_⟩
  ·simp [results,Tryz.results104,go_sem,r0,r1,r2,r3,r4]
  exact ((((HB.out.setCell (p:=⟨w.heap.size+1,0,none⟩) (by simp) _).setCell (p:=⟨w.heap.size+1,1,none⟩) (by simp) _).setCell (p:=⟨w.heap.size+1,2,none⟩) (by simp) _).setCell (p:=⟨w.heap.size+1,3,none⟩) (by simp) _).setCell (p:=⟨w.heap.size+1,4,none⟩) (by simp) _
def aheadP (ms:List Mem) (r:Rum):Bool:=match fstM ms r.m.name with
 | none=>true
 | some k=>newE r.m k == 0 && newM r.m k
set_option maxHeartbeats 3200000 in
set_option maxRecDepth 100000 in
theorem isAhead_any (b:Nat) (pm:Option Addr) (nm cm:Nat) (ms:List Mem) (r:Rum) (w:World) (hc:w.cell? ⟨b,2,none⟩=some (.slice pm nm cm)) (hm:Sl w (.slice pm nm cm) ms) (hn:nm≤1000) (hr:r.m.name.size≤maxLen) :
 Calls Tryz.prog 106 #[.pointer (some ⟨b,0,none⟩),.agg #[.string r.m.name,.int .i64 r.m.state,.int .i64 r.m.life,.int .i64 r.m.addr,.bool r.m.server,.int .i64 r.told]] w fun e w'=>e=.returned (.bool (aheadP ms r))∧Below w.heap.size w w':=by
 have hb:b < w.heap.size:=World.block_lt_of_cell? w _ hc
 have HS:Hid (∀ m,fstM ms r.m.name=some m→m.name.size≤maxLen):=fun m h=>by
  obtain ⟨a,c,he,hs,_⟩:=hm
  exact ns_mem hs m (fstM_mem h).1
 have HD:Hid (aheadP ms r=match fstM ms r.m.name with
  | none=>true
  | some k=>newE r.m k == 0 && newM r.m k):=rfl
 generalize aheadP ms r=res at *
 obtain ⟨W,hW⟩:∃ W,W=w.alloc (.cells #[.string r.m.name,.int .i64 r.m.state,.int .i64 r.m.life,.int .i64 r.m.addr,.bool r.m.server,.int .i64 r.told] 82):=⟨_,rfl⟩
 have hbW:Below w.heap.size w W:=by rw [hW];exact (Below.refl _ _).alloc (Nat.le_refl _) _
 have hg:W.heap[w.heap.size]?=some (.cells #[.string r.m.name,.int .i64 r.m.state,.int .i64 r.m.life,.int .i64 r.m.addr,.bool r.m.server,.int .i64 r.told] 82 (0,0)):=by rw [hW];exact heap_alloc_new w _
 have HCW:Hid (Calls Tryz.prog 104 #[.pointer (some ⟨b,0,none⟩),.string r.m.name] W fun e w'=>e=.returned (.tuple #[.agg #[.string (mOf ms r.m.name).name,.int .i64 (mOf ms r.m.name).state,.int .i64 (mOf ms r.m.name).life,.int .i64 (mOf ms r.m.name).addr,.bool (mOf ms r.m.name).server],.bool (fstM ms r.m.name).isSome])∧Below W.heap.size W w'):=
  wmember_any b pm nm cm ms r.m.name W (by rw [hbW.cell (p:=⟨b,2,none⟩) hb];exact hc) (hm.below hbW) hn
 have x0:W.cell? ⟨w.heap.size,0,none⟩=some (.string r.m.name):=cellsAt hg 0
 have hsW:W.heap.size=w.heap.size+1:=by rw [hW];simp
 clear hc hm
 go_enter Tryz.func106,Tryz.ntmps106
 go_wp2_with fail
 rw [← hW]
 clear hW
 refine HCW.out.mono ?_
 rintro e w1 ⟨rfl,hb1⟩
 have hg1:w1.heap[w.heap.size]?=_:=(hb1.block _ (by omega)).trans hg
 have y0:w1.cell? ⟨w.heap.size,0,none⟩=some (.string r.m.name):=cellsAt hg1 0
 have y1:w1.cell? ⟨w.heap.size,1,none⟩=some (.int .i64 r.m.state):=cellsAt hg1 1
 have y2:w1.cell? ⟨w.heap.size,2,none⟩=some (.int .i64 r.m.life):=cellsAt hg1 2
 have y3:w1.cell? ⟨w.heap.size,3,none⟩=some (.int .i64 r.m.addr):=cellsAt hg1 3
 have y4:w1.cell? ⟨w.heap.size,4,none⟩=some (.bool r.m.server):=cellsAt hg1 4
 have hs1:w.heap.size < w1.heap.size:=(Array.getElem?_eq_some_iff.1 hg1).1
 have HB1:Hid (Below w.heap.size w w1):=hbW.trans (hb1.mono (by omega))
 clear hb1 hg1 hg hbW HCW x0
 rcases hf:fstM ms r.m.name with _ | k
 ·have HR:Hid (res=true):=HD.out.trans (by rw [hf])
  have hmo:mOf ms r.m.name=dm:=mOf_none hf
  rw [hmo]
  clear hf hmo
  go_wp2_with fail
  go_ret
  exact ⟨ret_bool HR.out.symm,HB1.out.alloc HB1.out.size _⟩
 ·have HR:Hid (res=(newE r.m k == 0 && newM r.m k)):=HD.out.trans (by rw [hf])
  have hk:=HS.out k hf
  have hmo:mOf ms r.m.name=k:=mOf_some hf
  rw [hmo]
  clear hf hmo
  have HN:Hid (∀ W,Calls Tryz.prog 157 #[.agg #[.string r.m.name,.int .i64 r.m.state,.int .i64 r.m.life,.int .i64 r.m.addr,.bool r.m.server],.agg #[.string k.name,.int .i64 k.state,.int .i64 k.life,.int .i64 k.addr,.bool k.server]] W fun e w'=>e=.returned (.tuple #[.bool (newE r.m k == 0 && newM r.m k),.int .i64 (newE r.m k)])∧Below W.heap.size W w'):=fun W=>newer2_any r.m k W hr hk
  generalize (newE r.m k == 0 && newM r.m k)=q at *
  go_wp2_with fail
  refine (HN.out _).mono ?_
  rintro e w2 ⟨rfl,hb2⟩
  have HB2:Hid (Below w.heap.size w w2):=(HB1.out.alloc HB1.out.size _).trans (hb2.mono (by have:=HB1.out.size;simp;omega))
  clear hb2
  go_wp2_with fail
  go_ret
  exact ⟨ret_bool HR.out.symm,HB2.out⟩
set_option maxHeartbeats 1600000 in
set_option maxRecDepth 100000 in
theorem cIndex_any (b:Nat) (pm:Option Addr) (nm cm:Nat) (ms:List Mem) (rs:List Rum) (v:Value) (w:World) (hv:RSl w v rs) (hc:w.cell? ⟨b,2,none⟩=some (.slice pm nm cm)) (hm:Sl w (.slice pm nm cm) ms) (hn:nm≤1000) (hsm:rs.length≤1000) :
 Calls Tryz.prog 156 #[v,.func (.func 106) #[.pointer (some ⟨b,0,none⟩)] #[]] w fun e w'=>
  ((e=.returned (.int .i64 (-1))∧Hid (rs.any (aheadP ms)=false))∨(∃ i:Nat,i < rs.length∧e=.returned (.int .i64 i)∧Hid (rs.any (aheadP ms)=true)))∧Below w.heap.size w w':=by
 obtain ⟨pa,ca,rfl,hs,ha⟩:=hv
 have hb:b < w.heap.size:=World.block_lt_of_cell? w _ hc
 have HA:Hid (rs=[]∨∃ b off,pa=some ⟨b,off,none⟩∧b < w.heap.size∧RRow w b off rs):=ha
 have HS:Hid (∀ j,(rs.getD j dr).m.name.size≤maxLen):=hs
 have HI:Hid (∀ W,Below w.heap.size w W→∀ r:Rum,r.m.name.size≤maxLen→Calls Tryz.prog 106 #[.pointer (some ⟨b,0,none⟩),.agg #[.string r.m.name,.int .i64 r.m.state,.int .i64 r.m.life,.int .i64 r.m.addr,.bool r.m.server,.int .i64 r.told]] W fun e w'=>e=.returned (.bool (aheadP ms r))∧Below W.heap.size W w'):=fun W hW r hr=>
  isAhead_any b pm nm cm ms r W (by rw [hW.cell (p:=⟨b,2,none⟩) hb];exact hc) (hm.below hW) hn hr
 clear ha hs hc hm
 generalize hN:rs.length=n at *
 have HN:Hid (rs.length=n):=hN
 clear hN
 go_enter Tryz.func156,Tryz.ntmps156
 go_wp2_with fail
 go_loopw [8] (fun i wr=>∃ k:Nat,k≤n∧i=.int .i64 k∧Hid (∀ j,j < k→aheadP ms (rs.getD j dr)=false)∧Hid (Below w.heap.size w wr)) (fun i _=>n - (intOf i).toNat)
 case atStart=>exact ⟨0,Nat.zero_le _,rfl,fun j hj=>by omega,Below.refl _ _⟩
 case round=>
  obtain ⟨k,hk,rfl,HZ,HB⟩:=hrel
  by_cases hlt:k < n
  ·obtain ⟨b2,off,hp1,hl1,hr⟩:∃ b off,pa=some ⟨b,off,none⟩∧b < w.heap.size∧RRow w b off rs:=by
    rcases HA.out with h | h
    ·have:=HN.out;rw [h] at this;simp at this;omega
    ·exact h
   subst hp1
   obtain ⟨c0,c1,c2,c3,c4,c5⟩:=hr.below HB.out hl1 k (by rw [HN.out];exact hlt)
   clear hr
   have hnm:=HS.out k
   have HY:Hid (aheadP ms (rs.getD k dr)=true→rs.any (aheadP ms)=true):=fun h=>by
    rw [show rs.getD k dr=rs[k]'(by rw [HN.out];exact hlt) by simp [List.getD,List.getElem?_eq_getElem (show k < rs.length by rw [HN.out];exact hlt)]] at h
    exact List.any_eq_true.2 ⟨_,List.getElem_mem _,h⟩
   have HZ2:Hid (aheadP ms (rs.getD k dr)=false→∀ j,j < k+1→aheadP ms (rs.getD j dr)=false):=fun h j hj=>by
    by_cases e:j=k
    ·subst e;exact h
    ·exact HZ.out j (by omega)
   have HF:Hid (∀ W,Below w.heap.size w W→Calls Tryz.prog 106 #[.pointer (some ⟨b,0,none⟩),.agg #[.string (rs.getD k dr).m.name,.int .i64 (rs.getD k dr).m.state,.int .i64 (rs.getD k dr).m.life,.int .i64 (rs.getD k dr).m.addr,.bool (rs.getD k dr).m.server,.int .i64 (rs.getD k dr).told]] W fun e w'=>e=.returned (.bool (aheadP ms (rs.getD k dr)))∧Below W.heap.size W w'):=fun W hW=>HI.out W hW _ hnm
   generalize hah:aheadP ms (rs.getD k dr)=ah at *
   clear hah
   generalize rs.getD k dr=rk at *
   obtain ⟨⟨mn,st,lf,ad,sv⟩,td⟩:=rk
   simp only at c0 c1 c2 c3 c4 c5 HF
   clear HZ
   have hsz:=HB.out.size
   cases ah
   ·have HZ3:Hid (∀ j,j < k+1→aheadP ms (rs.getD j dr)=false):=HZ2.out rfl
    clear HY HZ2
    go_wp2_with fail
    refine (HF.out _ HB.out).mono ?_
    rintro e w1 ⟨rfl,hb1⟩
    have HB1:Hid (Below w.heap.size w w1):=HB.out.trans (hb1.mono hsz)
    clear hb1
    go_wp2_with fail
    go_roundw
    case rel=>exact ⟨k+1,by omega,by go_num,HZ3,HB1⟩
    case measure=>simp [intOf];omega
   ·have HR:Hid (rs.any (aheadP ms)=true):=HY.out rfl
    clear HY HZ2
    go_wp2_with fail
    refine (HF.out _ HB.out).mono ?_
    rintro e w1 ⟨rfl,hb1⟩
    have HB1:Hid (Below w.heap.size w w1):=HB.out.trans (hb1.mono hsz)
    clear hb1
    go_wp2_with fail
    go_ret
    exact ⟨.inr ⟨k,hlt,rfl,HR⟩,HB1.out⟩
  ·have HZ3:Hid (rs.any (aheadP ms)=false):=by
    rcases h:rs.any (aheadP ms) with _ | _
    ·rfl
    ·obtain ⟨r,hr,h2⟩:=List.any_eq_true.1 h
     obtain ⟨j,hj,rfl⟩:=List.getElem_of_mem hr
     have h3:=HZ.out j (by have:=HN.out;omega)
     rw [show rs.getD j dr=rs[j] by simp [List.getD,List.getElem?_eq_getElem hj],h2] at h3
     cases h3
   clear HZ
   go_wp2_with fail
   go_ret
   exact ⟨.inl ⟨rfl,HZ3⟩,HB.out⟩
set_option maxHeartbeats 1600000 in
theorem contains_any (b:Nat) (pm:Option Addr) (nm cm:Nat) (ms:List Mem) (rs:List Rum) (v:Value) (w:World) (hv:RSl w v rs) (hc:w.cell? ⟨b,2,none⟩=some (.slice pm nm cm)) (hm:Sl w (.slice pm nm cm) ms) (hn:nm≤1000) (hsm:rs.length≤1000) :
 Calls Tryz.prog 105 #[v,.func (.func 106) #[.pointer (some ⟨b,0,none⟩)] #[]] w fun e w'=>e=.returned (.bool (rs.any (aheadP ms)))∧Below w.heap.size w w':=by
 have HI:Hid (Calls Tryz.prog 156 #[v,.func (.func 106) #[.pointer (some ⟨b,0,none⟩)] #[]] w fun e w'=>
  ((e=.returned (.int .i64 (-1))∧Hid (rs.any (aheadP ms)=false))∨(∃ i:Nat,i < rs.length∧e=.returned (.int .i64 i)∧Hid (rs.any (aheadP ms)=true)))∧Below w.heap.size w w'):=cIndex_any b pm nm cm ms rs v w hv hc hm hn hsm
 clear hv hc hm
 generalize rs.any (aheadP ms)=q at *
 go_enter Tryz.func105,Tryz.ntmps105
 go_wp2_with fail
 refine HI.out.mono ?_
 rintro e w1 ⟨hor,hb1⟩
 have HB:Hid (Below w.heap.size w w1):=hb1
 clear hb1
 rcases hor with ⟨rfl,HF⟩ | ⟨i,hi,rfl,HF⟩
 ·go_wp2_with fail
  go_ret
  exact ⟨ret_bool HF.out.symm,HB.out⟩
 ·go_wp2_with fail
  go_ret
  exact ⟨ret_bool HF.out.symm,HB.out⟩
end Go.Proofs.YtikgjgmgbfjcgaaGreat
