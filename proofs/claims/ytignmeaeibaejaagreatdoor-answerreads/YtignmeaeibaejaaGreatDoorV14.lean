import Derived.Test.YtignmeaeibaejaaGreatDoorV2
import Derived.Test.YtignmeaeibaejaaGreatDoorV11
import Derived.Laws.EntriesVeiled
namespace Go.Proofs.YtignmeaeibaejaaGreatDoor
open Go.RowKit
def oneE (nm:ByteArray) (st lf ad:Int):Int:=
 if labB nm=true then (if within st 1 4=true then (if within lf 1 1000000=true then (if within ad 0 4294967295=true then 0 else 3) else 3) else 7) else 1
set_option maxHeartbeats 800000 in
theorem checkOne_any (nm:ByteArray) (st lf ad:Int) (sv:Bool) (w:World) (hs:nm.size≤maxLen) :
 Calls Tryz.prog 68 #[.agg #[.string nm,.int .i64 st,.int .i64 lf,.int .i64 ad,.bool sv]] w fun e w'=>e=.returned (.int .i64 (oneE nm st lf ad))∧w'=w.alloc (.cells #[.string nm,.int .i64 st,.int .i64 lf,.int .i64 ad,.bool sv] 89):=by
 rcases h1:labB nm with _ | _
 ·go_enter Tryz.func68,Tryz.ntmps68
  go_wp2_with (go_at_call 26;refine (label_any _ _ hs).mono ?_;rintro e w' ⟨rfl,rfl⟩;rw [h1])
  go_ret
  exact ⟨ret_int (by simp [oneE,h1]),rfl⟩
 ·rcases h2:within st 1 4 with _ | _
  ·go_enter Tryz.func68,Tryz.ntmps68
   go_wp2_with (first | (go_at_call 26;refine (label_any _ _ hs).mono ?_;rintro e w' ⟨rfl,rfl⟩;rw [h1]) | (go_at_call 53;refine (within_any _ _ _ _).mono ?_;rintro e w' ⟨rfl,rfl⟩;rw [h2]))
   go_ret
   exact ⟨ret_int (by simp [oneE,h1,h2]),rfl⟩
  ·rcases h3:within lf 1 1000000 with _ | _
   ·go_enter Tryz.func68,Tryz.ntmps68
    go_wp2_with (first | (go_at_call 26;refine (label_any _ _ hs).mono ?_;rintro e w' ⟨rfl,rfl⟩;rw [h1]) | (go_at_call 53;refine (within_any _ _ _ _).mono ?_;rintro e w' ⟨rfl,rfl⟩;first | rw [h2] | rw [h3]))
    go_ret
    exact ⟨ret_int (by simp [oneE,h1,h2,h3]),rfl⟩
   ·rcases h4:within ad 0 4294967295 with _ | _
    all_goals
     go_enter Tryz.func68,Tryz.ntmps68
     go_wp2_with (first | (go_at_call 26;refine (label_any _ _ hs).mono ?_;rintro e w' ⟨rfl,rfl⟩;rw [h1]) | (go_at_call 53;refine (within_any _ _ _ _).mono ?_;rintro e w' ⟨rfl,rfl⟩;first | rw [h2] | rw [h3]) | (go_at_call 88;refine (address_any _ _).mono ?_;rintro e w' ⟨rfl,rfl⟩;rw [h4]))
     go_ret
     exact ⟨ret_int (by simp [oneE,h1,h2,h3,h4]),rfl⟩
def Mem.e (m:Mem):Int:=oneE m.name m.state m.life m.addr
def firstE:List Mem→Int
 | []=>0
 | m :: r=>if m.e=0 then firstE r else m.e
theorem firstE_zero:∀ (ms:List Mem),(∀ j,j < ms.length→(ms.getD j dm).e=0)→firstE ms=0
 | [],_=>rfl
 | m :: r,h=>by
   have h0:=h 0 (by simp)
   simp only [List.getD_cons_zero] at h0
   rw [firstE,if_pos h0]
   exact firstE_zero r fun j hj=>by have:=h (j+1) (by simpa using hj);simpa using this
theorem firstE_at:∀ (ms:List Mem) (k:Nat),k < ms.length→(∀ j,j < k→(ms.getD j dm).e=0)→(ms.getD k dm).e≠0→firstE ms=(ms.getD k dm).e
 | [],k,h,_,_=>by simp at h
 | m :: r,0,_,_,hne=>by
   simp only [List.getD_cons_zero] at hne ⊢
   rw [firstE,if_neg hne]
 | m :: r,k+1,h,hz,hne=>by
   have h0:=hz 0 (by omega)
   simp only [List.getD_cons_zero] at h0
   rw [firstE,if_pos h0,List.getD_cons_succ]
   rw [List.getD_cons_succ] at hne
   exact firstE_at r k (by simpa using h) (fun j hj=>by have:=hz (j+1) (by omega);simpa using this) hne
def risesB:List Mem→Bool
 | a :: b :: r=>less a.name b.name && risesB (b :: r)
 | _=>true
theorem rises_all:∀ (ms:List Mem),(∀ j,j+1 < ms.length→less (ms.getD j dm).name (ms.getD (j+1) dm).name=true)→risesB ms=true
 | [],_=>rfl
 | [_],_=>rfl
 | a :: b :: r,h=>by
   have h0:=h 0 (by simp)
   simp only [List.getD_cons_zero,List.getD_cons_succ] at h0
   rw [risesB,h0,Bool.true_and]
   exact rises_all (b :: r) fun j hj=>by have:=h (j+1) (by simpa using hj);simpa using this
theorem rises_get:∀ (ms:List Mem),risesB ms=true→∀ j,j+1 < ms.length→less (ms.getD j dm).name (ms.getD (j+1) dm).name=true
 | [],_,j,h=>by simp at h
 | [_],_,j,h=>by simp at h
 | a :: b :: r,hr,0,_=>by
   rw [risesB,Bool.and_eq_true] at hr
   simpa using hr.1
 | a :: b :: r,hr,j+1,h=>by
   rw [risesB,Bool.and_eq_true] at hr
   have:=rises_get (b :: r) hr.2 j (by simpa using h)
   simpa using this
def chk (ms:List Mem):Int:=if 20 < ms.length then 2 else if firstE ms=0 then (if risesB ms=true then 0 else 4) else firstE ms
theorem chk_e (ms:List Mem) (k:Nat) (hn:ms.length≤20) (hk:k < ms.length) (hz:∀ j,j < k→(ms.getD j dm).e=0) (hne:(ms.getD k dm).e≠0):chk ms=(ms.getD k dm).e:=by
 have h:=firstE_at ms k hk hz hne
 rw [chk,if_neg (by omega),h,if_neg hne]
abbrev Rise (ms:List Mem):Prop:=ms.Pairwise fun a b=>less a.name b.name=true
theorem rise_of:∀ ms:List Mem,risesB ms=true→Rise ms
 | [],_=>.nil
 | [x],_=>by simp [Rise]
 | a :: b :: r,h=>by
   rw [risesB,Bool.and_eq_true] at h
   have ih:=rise_of (b :: r) h.2
   refine List.pairwise_cons.2 ⟨fun c hc=>?_,ih⟩
   rcases List.mem_cons.1 hc with rfl | hc
   ·exact h.1
   ·exact less_trans h.1 (List.rel_of_pairwise_cons ih hc)
theorem chk_zero {ms:List Mem} (h:chk ms=0):ms.length≤20∧Rise ms∧firstE ms=0:=by
 unfold chk at h
 split at h
 ·omega
 ·split at h
  ·rename_i h1 h2
   split at h
   ·rename_i h3
    exact ⟨by omega,rise_of ms h3,h2⟩
   ·omega
  ·rename_i h1 h2;exact absurd h h2
theorem rises_allO (ms:List Mem) (h:∀ j,j+1 < ms.length→cmpI (ms.getD j dm).name (ms.getD (j+1) dm).name < 0):risesB ms=true:=rises_all ms fun j hj=>(cmpI_lt _ _).1 (h j hj)
theorem rises_getO (ms:List Mem) (h:risesB ms=true):∀ j,j+1 < ms.length→cmpI (ms.getD j dm).name (ms.getD (j+1) dm).name < 0:=fun j hj=>(cmpI_lt _ _).2 (rises_get ms h j hj)
theorem chk_r (ms:List Mem) (hn:ms.length≤20) (hz:∀ j,j < ms.length→(ms.getD j dm).e=0):chk ms=if risesB ms=true then 0 else 4:=by
 rw [chk,if_neg (by omega),firstE_zero ms hz,if_pos rfl]
def fstM (ms:List Mem) (t:ByteArray):Option Mem:=ms.find? fun m=>decide (m.name=t)
def mOf (ms:List Mem) (t:ByteArray):Mem:=(fstM ms t).getD dm
def outB (ms:List Mem) (t:ByteArray):Bool:=decide ((mOf ms t).state=3) || decide ((mOf ms t).state=4)
theorem fstM_none {ms:List Mem} {t:ByteArray} (h:∀ j,j < ms.length→(ms.getD j dm).name≠t):fstM ms t=none:=by
 unfold fstM
 rw [List.find?_eq_none]
 intro x hx
 obtain ⟨j,hj,rfl⟩:=List.getElem_of_mem hx
 have:=h j hj
 rw [show ms.getD j dm=ms[j] by simp [List.getD,List.getElem?_eq_getElem hj]] at this
 simpa using this
theorem fstM_some {ms:List Mem} {t:ByteArray} {k:Nat} (hk:k < ms.length) (h1:∀ j,j < k→(ms.getD j dm).name≠t) (h2:(ms.getD k dm).name=t):fstM ms t=some (ms.getD k dm):=by
 unfold fstM
 rw [show ms.getD k dm=ms[k] by simp [List.getD,List.getElem?_eq_getElem hk]] at h2 ⊢
 rw [List.find?_eq_some_iff_getElem]
 refine ⟨by simpa using h2,k,hk,rfl,fun j hj=>?_⟩
 have:=h1 j hj
 rw [show ms.getD j dm=ms[j]'(by omega) by simp [List.getD,List.getElem?_eq_getElem (show j < ms.length by omega)]] at this
 simpa using this
theorem fstM_mem {ms:List Mem} {t:ByteArray} {m:Mem} (h:fstM ms t=some m):m∈ms∧m.name=t:=by
 unfold fstM at h
 exact ⟨List.mem_of_find?_eq_some h,by simpa using List.find?_some h⟩
theorem beq_nm (a b:ByteArray):(a.toList == b.toList)=decide (a=b):=by
 by_cases h:a=b
 ·subst h;simp
 ·rw [(beq_name h).1,decide_eq_false h]
set_option maxHeartbeats 800000 in
theorem isIt_any (m:Mem) (nb:Nat) (nm:ByteArray) (w:World) (h:w.cell? ⟨nb,0,none⟩=some (.string nm)) :
 Calls Tryz.prog 131 #[.agg #[.string m.name,.int .i64 m.state,.int .i64 m.life,.int .i64 m.addr,.bool m.server],.pointer (some ⟨nb,0,none⟩)] w fun e w'=>e=.returned (.bool (decide (m.name=nm)))∧w'=w.alloc (.cells #[.string m.name,.int .i64 m.state,.int .i64 m.life,.int .i64 m.addr,.bool m.server] 89):=by
 have hb:nb < w.heap.size:=World.block_lt_of_cell? w _ h
 have h2:∀ ob,(w.alloc ob).cell? ⟨nb,0,none⟩=some (.string nm):=fun ob=>by
  rw [((Below.refl w.heap.size w).alloc (Nat.le_refl _) ob).cell (p:=⟨nb,0,none⟩) hb];exact h
 obtain ⟨mn,st,lf,ad,sv⟩:=m
 go_enter Tryz.func131,Tryz.ntmps131
 go_wp2_with fail
 go_ret
 exact ⟨ret_bool (beq_nm _ _),rfl⟩
set_option maxHeartbeats 1600000 in
theorem mIndex_any (ms:List Mem) (pa:Option Addr) (n c nb:Nat) (nm:ByteArray) (w:World) (hv:Sl w (.slice pa n c) ms) (hsm:n≤1000) (ht:w.cell? ⟨nb,0,none⟩=some (.string nm)) :
 Calls Tryz.prog 132 #[.slice pa n c,.func (.func 131) #[] #[.pointer (some ⟨nb,0,none⟩)]] w fun e w'=>
  ((e=.returned (.int .i64 (-1))∧Hid (fstM ms nm=none))∨(∃ i:Nat,i < n∧e=.returned (.int .i64 i)∧Hid (fstM ms nm=some (ms.getD i dm))))∧Below w.heap.size w w':=by
 obtain ⟨pa',ca,he,_,ha⟩:=hv
 simp only [Value.slice.injEq] at he
 obtain ⟨rfl,hN,rfl⟩:=he
 have HA:Hid (ms=[]∨∃ b off,pa=some ⟨b,off,none⟩∧b < w.heap.size∧Row w b off ms):=ha
 have HN:Hid (ms.length=n):=hN.symm
 have HT:Hid (w.cell? ⟨nb,0,none⟩=some (.string nm)):=ht
 have htb:nb < w.heap.size:=World.block_lt_of_cell? w _ ht
 clear ha hN ht
 go_enter Tryz.func132,Tryz.ntmps132
 go_wp2_with fail
 go_loopw [8] (fun i wr=>∃ k:Nat,k≤n∧i=.int .i64 k∧Hid (∀ j,j < k→(ms.getD j dm).name≠nm)∧Hid (Below w.heap.size w wr)) (fun i _=>n - (intOf i).toNat)
 case atStart=>exact ⟨0,Nat.zero_le _,rfl,fun j hj=>by omega,Below.refl _ _⟩
 case round=>
  obtain ⟨k,hk,rfl,HZ,HB⟩:=hrel
  by_cases hlt:k < n
  ·obtain ⟨b,off,hp1,hl1,hr⟩:∃ b off,pa=some ⟨b,off,none⟩∧b < w.heap.size∧Row w b off ms:=by
    rcases HA.out with h | h
    ·have:=HN.out;rw [h] at this;simp at this;omega
    ·exact h
   subst hp1
   obtain ⟨c0,c1,c2,c3,c4⟩:=hr.later HB.out hl1 k (by rw [HN.out];exact hlt)
   clear hr
   have ht2:wr.cell? ⟨nb,0,none⟩=some (.string nm):=by rw [HB.out.cell (p:=⟨nb,0,none⟩) htb];exact HT.out
   have HY:Hid ((ms.getD k dm).name=nm→fstM ms nm=some (ms.getD k dm)):=fun h=>fstM_some (by rw [HN.out];exact hlt) HZ.out h
   have HZ2:Hid ((ms.getD k dm).name≠nm→∀ j,j < k+1→(ms.getD j dm).name≠nm):=fun h j hj=>by
    by_cases e:j=k
    ·subst e;exact h
    ·exact HZ.out j (by omega)
   have hF:=fun w h=>isIt_any (ms.getD k dm) nb nm w h
   by_cases hkp:(ms.getD k dm).name=nm
   ·have HF:Hid (fstM ms nm=some (ms.getD k dm)):=HY.out hkp
    rw [decide_eq_true hkp] at hF
    clear hkp HZ2 HY
    generalize hmk:ms.getD k dm=mk at *
    have HMK:Hid (ms.getD k dm=mk):=hmk
    clear hmk
    obtain ⟨mn,st,lf,ad,sv⟩:=mk
    simp only at c0 c1 c2 c3 c4 hF
    go_wp2_with fail
    refine (hF _ ht2).mono ?_
    rintro e w1 ⟨rfl,rfl⟩
    go_wp2_with fail
    go_ret
    exact ⟨.inr ⟨k,hlt,rfl,by rw [HMK.out];exact HF⟩,HB.out.alloc HB.out.size _⟩
   ·have HZ3:Hid (∀ j,j < k+1→(ms.getD j dm).name≠nm):=HZ2.out hkp
    rw [decide_eq_false hkp] at hF
    clear hkp HZ2 HY HZ
    generalize ms.getD k dm=mk at *
    obtain ⟨mn,st,lf,ad,sv⟩:=mk
    simp only at c0 c1 c2 c3 c4 hF
    go_wp2_with fail
    refine (hF _ ht2).mono ?_
    rintro e w1 ⟨rfl,rfl⟩
    go_wp2_with fail
    go_roundw
    case rel=>exact ⟨k+1,by omega,by go_num,HZ3,HB.out.alloc HB.out.size _⟩
    case measure=>simp [intOf];omega
  ·have HZ3:Hid (fstM ms nm=none):=fstM_none fun j hj=>HZ.out j (by have:=HN.out;omega)
   clear HZ
   go_wp2_with fail
   go_ret
   exact ⟨.inl ⟨rfl,HZ3⟩,HB.out⟩
abbrev knA (here:ByteArray) (vs vm:Value) (px py pz ph pq:Int) (vw:Value):Array Value:=#[.string here,vs,vm,.int .i64 px,.int .i64 py,.int .i64 pz,.int .i64 ph,.int .i64 pq,vw]
theorem mOf_some {ms:List Mem} {t:ByteArray} {m:Mem} (h:fstM ms t=some m):mOf ms t=m:=by unfold mOf;rw [h];rfl
theorem mOf_none {ms:List Mem} {t:ByteArray} (h:fstM ms t=none):mOf ms t=dm:=by unfold mOf;rw [h];rfl
set_option maxHeartbeats 3200000 in
set_option maxRecDepth 100000 in
theorem kmember_any (here:ByteArray) (ps pm pw:Option Addr) (ns cs nm cm nw cw:Nat) (px py pz ph pq:Int) (ms:List Mem) (t:ByteArray) (w:World) (hm:Sl w (.slice pm nm cm) ms) (hn:nm≤1000) :
 Calls Tryz.prog 108 #[.agg (knA here (.slice ps ns cs) (.slice pm nm cm) px py pz ph pq (.slice pw nw cw)),.string t] w fun e w'=>e=.returned (.agg #[.string (mOf ms t).name,.int .i64 (mOf ms t).state,.int .i64 (mOf ms t).life,.int .i64 (mOf ms t).addr,.bool (mOf ms t).server])∧Below w.heap.size w w':=by
 have HM:Hid (Sl w (.slice pm nm cm) ms):=hm
 clear hm
 go_enter Tryz.func108,Tryz.ntmps108
 go_wp2_with fail
 obtain ⟨W,hW⟩:∃ W,W=((w.alloc (.cells (knA here (.slice ps ns cs) (.slice pm nm cm) px py pz ph pq (.slice pw nw cw)) 45)).alloc (.cells #[.string t] 9)).alloc (.cells #[.string ⟨#[]⟩,.int .i64 0,.int .i64 0,.int .i64 0,.bool false] 89):=⟨_,rfl⟩
 rw [← hW]
 have hbW:Below w.heap.size w W:=by rw [hW];exact (((Below.refl _ _).alloc (Nat.le_refl _) _).alloc (by simp) _).alloc (by simp;omega) _
 have hg0:W.heap[w.heap.size]?=some (.cells (knA here (.slice ps ns cs) (.slice pm nm cm) px py pz ph pq (.slice pw nw cw)) 45 (0,0)):=by
  rw [hW,Below.heap_alloc _ _ _ (by simp;omega),Below.heap_alloc _ _ _ (by simp)];exact heap_alloc_new w _
 have hg1:W.heap[w.heap.size+1]?=some (.cells #[.string t] 9 (0,0)):=by
  rw [hW,Below.heap_alloc _ _ _ (by simp)]
  have h:=heap_alloc_new (w.alloc (.cells (knA here (.slice ps ns cs) (.slice pm nm cm) px py pz ph pq (.slice pw nw cw)) 45)) (.cells #[.string t] 9)
  simpa using h
 have hg2:W.heap[w.heap.size+2]?=some (.cells #[.string ⟨#[]⟩,.int .i64 0,.int .i64 0,.int .i64 0,.bool false] 89 (0,0)):=by
  rw [hW]
  have h:=heap_alloc_new ((w.alloc (.cells (knA here (.slice ps ns cs) (.slice pm nm cm) px py pz ph pq (.slice pw nw cw)) 45)).alloc (.cells #[.string t] 9)) (.cells #[.string ⟨#[]⟩,.int .i64 0,.int .i64 0,.int .i64 0,.bool false] 89)
  simpa using h
 have hsW:w.heap.size+3≤W.heap.size:=by rw [hW];simp
 clear hW
 refine (mIndex_any ms pm nm cm _ t W (HM.out.below hbW) hn (cellsAt hg1 0)).mono ?_
 rintro e w1 ⟨hor,hb1⟩
 have h0:w1.heap[w.heap.size]?=_:=(hb1.block _ (by omega)).trans hg0
 have h2:w1.heap[w.heap.size+2]?=_:=(hb1.block _ (by omega)).trans hg2
 have HB:Hid (Below w.heap.size w w1):=hbW.trans (hb1.mono (by omega))
 have HM1:Hid (Sl w1 (.slice pm nm cm) ms):=HM.out.below HB.out
 have d2:w1.cell? ⟨w.heap.size,2,none⟩=some (.slice pm nm cm):=cellsAt h0 2
 have r0:w1.cell? ⟨w.heap.size+2,0,none⟩=some (.string ⟨#[]⟩):=cellsAt h2 0
 have r1:w1.cell? ⟨w.heap.size+2,1,none⟩=some (.int .i64 0):=cellsAt h2 1
 have r2:w1.cell? ⟨w.heap.size+2,2,none⟩=some (.int .i64 0):=cellsAt h2 2
 have r3:w1.cell? ⟨w.heap.size+2,3,none⟩=some (.int .i64 0):=cellsAt h2 3
 have r4:w1.cell? ⟨w.heap.size+2,4,none⟩=some (.bool false):=cellsAt h2 4
 have z0:w1.frozen? ⟨w.heap.size+2,0,none⟩=false:=by simp [World.frozen?,h2]
 have z1:w1.frozen? ⟨w.heap.size+2,1,none⟩=false:=by simp [World.frozen?,h2]
 have z2:w1.frozen? ⟨w.heap.size+2,2,none⟩=false:=by simp [World.frozen?,h2]
 have z3:w1.frozen? ⟨w.heap.size+2,3,none⟩=false:=by simp [World.frozen?,h2]
 have z4:w1.frozen? ⟨w.heap.size+2,4,none⟩=false:=by simp [World.frozen?,h2]
 have hz2:w.heap.size+2 < w1.heap.size:=(Array.getElem?_eq_some_iff.1 h2).1
 clear hbW hg0 hg1 hg2 hb1 h0 h2 hsW
 rcases hor with ⟨rfl,HF⟩ | ⟨i,hi,rfl,HF⟩
 ·have HO:Hid (mOf ms t=dm):=mOf_none HF.out
  go_wp2_with fail
  refine bodyPost_ret (v:=.agg #[.string ⟨#[]⟩,.int .i64 0,.int .i64 0,.int .i64 0,.bool false]) ?_ rfl ⟨by rw [HO.out];rfl,?_⟩
  ·simp [results,Tryz.results108,go_sem,r0,r1,r2,r3,r4]
  exact ((((HB.out.setCell (p:=⟨w.heap.size+2,0,none⟩) (by simp) _).setCell (p:=⟨w.heap.size+2,1,none⟩) (by simp) _).setCell (p:=⟨w.heap.size+2,2,none⟩) (by simp) _).setCell (p:=⟨w.heap.size+2,3,none⟩) (by simp) _).setCell (p:=⟨w.heap.size+2,4,none⟩) (by simp) _
 ·have HO:Hid (mOf ms t=ms.getD i dm):=mOf_some HF.out
  obtain ⟨pa',ca,he,_,ha⟩:=HM1.out
  simp only [Value.slice.injEq] at he
  obtain ⟨rfl,hN,rfl⟩:=he
  obtain ⟨b,off,hp1,hl1,hr⟩:∃ b off,pm=some ⟨b,off,none⟩∧b < w1.heap.size∧Row w1 b off ms:=by
   rcases ha with h | h
   ·rw [h] at hN;simp at hN;omega
   ·exact h
  subst hp1
  obtain ⟨c0,c1,c2,c3,c4⟩:=hr i (by omega)
  clear hr hN ha HF
  generalize ms.getD i dm=mk at *
  obtain ⟨mn,st,lf,ad,sv⟩:=mk
  simp only at c0 c1 c2 c3 c4
  go_wp2_with fail
  refine bodyPost_ret (v:=.agg #[.string mn,.int .i64 st,.int .i64 lf,.int .i64 ad,.bool sv]) ?_ rfl ⟨by rw [HO.out],?_⟩
  ·simp [results,Tryz.results108,go_sem,r0,r1,r2,r3,r4]
  exact ((((HB.out.setCell (p:=⟨w.heap.size+2,0,none⟩) (by simp) _).setCell (p:=⟨w.heap.size+2,1,none⟩) (by simp) _).setCell (p:=⟨w.heap.size+2,2,none⟩) (by simp) _).setCell (p:=⟨w.heap.size+2,3,none⟩) (by simp) _).setCell (p:=⟨w.heap.size+2,4,none⟩) (by simp) _
theorem fld_state (a:ByteArray) (b c d:Int) (e:Bool) (w:World):(Instr.field 89 (.agg #[.string a,.int .i64 b,.int .i64 c,.int .i64 d,.bool e]) 1).run Tryz.prog w=.ok (.int .i64 b) w:=by kernel_rfl
set_option maxHeartbeats 3200000 in
set_option maxRecDepth 100000 in
theorem isOut_any (here:ByteArray) (ps pm pw:Option Addr) (ns cs nm cm nw cw:Nat) (px py pz ph pq:Int) (ms:List Mem) (t:ByteArray) (w:World) (hm:Sl w (.slice pm nm cm) ms) (hn:nm≤1000) :
 Calls Tryz.prog 133 #[.agg (knA here (.slice ps ns cs) (.slice pm nm cm) px py pz ph pq (.slice pw nw cw)),.string t] w fun e w'=>e=.returned (.bool (outB ms t))∧Below w.heap.size w w':=by
 have HM:Hid (Sl w (.slice pm nm cm) ms):=hm
 clear hm
 have HU:Hid (outB ms t=(decide ((mOf ms t).state=3) || decide ((mOf ms t).state=4))):=rfl
 generalize outB ms t=R at *
 go_enter Tryz.func133,Tryz.ntmps133
 go_wp2_with fail
 have hbW:Below w.heap.size w (w.alloc (.cells (knA here (.slice ps ns cs) (.slice pm nm cm) px py pz ph pq (.slice pw nw cw)) 45)):=(Below.refl _ _).alloc (Nat.le_refl _) _
 refine (kmember_any here ps pm pw ns cs nm cm nw cw px py pz ph pq ms t _ (HM.out.below hbW) hn).mono ?_
 rintro e w1 ⟨rfl,hb1⟩
 have HB:Hid (Below w.heap.size w w1):=hbW.trans (hb1.mono (by simp))
 clear hb1 hbW
 generalize mOf ms t=m at *
 obtain ⟨mn,st,lf,ad,sv⟩:=m
 have hfld:=fld_state
 by_cases h3:st=3
 ·have HR:Hid (R=true):=HU.out.trans (by simp [h3])
  subst h3
  go_wp2_with fail
  go_ret
  exact ⟨ret_bool HR.out.symm,HB.out⟩
 ·have HR:Hid (R=decide (st=4)):=HU.out.trans (by simp [h3])
  have h3':(st == 3)=false:=by simpa using h3
  go_wp2_with fail
  go_ret
  exact ⟨ret_bool (by rw [HR.out];rfl),HB.out⟩
end Go.Proofs.YtignmeaeibaejaaGreatDoor
