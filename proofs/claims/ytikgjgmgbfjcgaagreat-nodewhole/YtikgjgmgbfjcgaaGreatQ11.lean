import Derived.Test.YtikgjgmgbfjcgaaGreatQ3
import Derived.Test.YtikgjgmgbfjcgaaGreatQ1
namespace Go.Proofs.YtikgjgmgbfjcgaaGreat
open Go.RowKit
def fstM (ms:List Mem) (t:ByteArray):Option Mem:=ms.find? fun m=>decide (m.name=t)
def mOf (ms:List Mem) (t:ByteArray):Mem:=(fstM ms t).getD dm
theorem fstM_none {ms:List Mem} {t:ByteArray} (h:∀ j,j < ms.length→(ms.getD j dm).name≠t):fstM ms t=none:=by
 unfold fstM
 rw [List.find?_eq_none]
 intro x hx
 obtain ⟨j,hj,rfl⟩:=List.getElem_of_mem hx
 have:=h j hj
 rw [show ms.getD j dm=ms[j] by simp [List.getD,List.getElem?_eq_getElem hj]] at this
 simpa using this
theorem fstM_some {ms:List Mem} {t:ByteArray} {k:Nat} (hk:k < ms.length) (h1:∀ j,j < k→(ms.getD j dm).name≠t) (h2:(ms.getD k dm).name=t):fstM ms t=some (ms.getD k dm):=by
 unfold fstM
 rw [show ms.getD k dm=ms[k] by simp [List.getD,List.getElem?_eq_getElem hk]] at h2 ⊢
 rw [List.find?_eq_some_iff_getElem]
 refine ⟨by simpa using h2,k,hk,rfl,fun j hj=>?_⟩
 have:=h1 j hj
 rw [show ms.getD j dm=ms[j]'(by omega) by simp [List.getD,List.getElem?_eq_getElem (show j < ms.length by omega)]] at this
 simpa using this
theorem fstM_mem {ms:List Mem} {t:ByteArray} {m:Mem} (h:fstM ms t=some m):m∈ms∧m.name=t:=by
 unfold fstM at h
 exact ⟨List.mem_of_find?_eq_some h,by simpa using List.find?_some h⟩
def AtF (ms:List Mem) (t:ByteArray) (r:Int):Prop:=(∃ k:Nat,k < ms.length∧r=k∧fstM ms t=some (ms.getD k dm))∨(r = -1∧fstM ms t=none)
set_option maxHeartbeats 800000 in
theorem memAt_any (ms:List Mem) (v:Value) (t:ByteArray) (w:World) (hv:Sl w v ms) (hn:ms.length≤1000) :
 Calls Tryz.prog 52 #[v,.string t] w fun e w'=>∃ r:Int,e=.returned (.int .i64 r)∧Hid (AtF ms t r)∧w'=w:=by
 obtain ⟨pa,ca,rfl,_,ha⟩:=hv
 have HA:Hid (ms=[]∨∃ b off,pa=some ⟨b,off,none⟩∧b < w.heap.size∧Row w b off ms):=ha
 clear ha
 generalize hna:ms.length=n at *
 have HN:Hid (ms.length=n):=hna
 clear hna
 go_enter Tryz.func52,Tryz.ntmps52
 go_wp2_with fail
 go_loop [5] (fun i=>∃ k:Nat,k≤n∧i=.int .i64 k∧Hid (∀ j,j < k→(ms.getD j dm).name≠t)) (fun i=>n - (intOf i).toNat)
 case atStart=>exact ⟨0,Nat.zero_le _,rfl,fun j h=>absurd h (Nat.not_lt_zero _)⟩
 case round=>
  obtain ⟨k,hk,rfl,hz⟩:=hrel
  by_cases hlt:k < n
  ·obtain ⟨b1,o1,hp1,hl1,hr1⟩:∃ b off,pa=some ⟨b,off,none⟩∧b < w.heap.size∧Row w b off ms:=by
    rcases HA.out with h | h
    ·have:=HN.out;rw [h] at this;simp at this;omega
    ·exact h
   subst hp1
   obtain ⟨c0,_,_,_,_⟩:=hr1 k (by rw [HN.out];exact hlt)
   clear hr1
   have HF:Hid ((ms.getD k dm).name=t→AtF ms t (k:Int)):=fun h=>.inl ⟨k,by rw [HN.out];exact hlt,rfl,fstM_some (by rw [HN.out];exact hlt) hz.out h⟩
   have HZ:Hid ((ms.getD k dm).name≠t→∀ j,j < k+1→(ms.getD j dm).name≠t):=fun h j hj=>by
    rcases Nat.lt_succ_iff_lt_or_eq.1 hj with h2 | rfl
    ·exact hz.out j h2
    ·exact h
   generalize (ms.getD k dm).name=nm at *
   by_cases he:nm=t
   ·subst he
    have HF2:Hid (AtF ms nm (k:Int)):=HF.out rfl
    clear HF HZ
    go_wp2_with fail
    go_ret
    exact ⟨k,rfl,HF2,rfl⟩
   ·obtain ⟨h1,h2⟩:=beq_name he
    have HE:Hid (nm≠t):=he
    clear he
    go_wp2_with fail
    go_round
    case rel=>exact ⟨k+1,by omega,by go_num,HZ.out HE.out⟩
    case measure=>simp [intOf];omega
  ·go_wp2_with fail
   go_ret
   exact ⟨-1,rfl,.inr ⟨rfl,fstM_none fun j hj=>hz.out j (by have:=HN.out;omega)⟩,rfl⟩
end Go.Proofs.YtikgjgmgbfjcgaaGreat
