import Derived.Test.YtikgjgmgbfjcgaaGreatY14
import Derived.Test.YtikgjgmgbfjcgaaGreatY19
namespace Go.Proofs.YtikgjgmgbfjcgaaGreat
namespace Gw
open Go.RowKit
end Gw
namespace Gw
open Go.RowKit
def AtI (ms:List Gwy) (t:ByteArray) (r:Int):Prop:=
 (∃ k:Nat,k < ms.length∧r=k∧(ms.getD k dm).centre=t)∨(r = -1∧∀ j,j < ms.length→(ms.getD j dm).centre≠t)
set_option maxHeartbeats 800000 in
theorem refAt_any (ms:List Gwy) (v:Value) (t:ByteArray) (w:World) (hv:Sl w v ms) (hn:ms.length≤9223372036854775807) :
 Calls Tryz.prog 94 #[v,.string t] w fun e w'=>∃ r:Int,e=.returned (.int .i64 r)∧Hid (AtI ms t r)∧w'=w:=by
 obtain ⟨pa,ca,rfl,_,ha⟩:=hv
 have HA:Hid (ms=[]∨∃ b off,pa=some ⟨b,off,none⟩∧b < w.heap.size∧Row w b off ms):=ha
 clear ha
 generalize hna:ms.length=n at *
 have HN:Hid (ms.length=n):=hna
 clear hna
 go_enter Tryz.func94,Tryz.ntmps94
 go_wp2_with fail
 go_loop [5] (fun i=>∃ k:Nat,k≤n∧i=.int .i64 k∧Hid (∀ j,j < k→(ms.getD j dm).centre≠t)) (fun i=>n - (intOf i).toNat)
 case atStart=>exact ⟨0,Nat.zero_le _,rfl,fun j h=>absurd h (Nat.not_lt_zero _)⟩
 case round=>
  obtain ⟨k,hk,rfl,hz⟩:=hrel
  by_cases hlt:k < n
  ·obtain ⟨b1,o1,hp1,hl1,hr1⟩:∃ b off,pa=some ⟨b,off,none⟩∧b < w.heap.size∧Row w b off ms:=by
    rcases HA.out with h | h
    ·have:=HN.out;rw [h] at this;simp at this;omega
    ·exact h
   subst hp1
   obtain ⟨c0,_,_⟩:=hr1 k (by rw [HN.out];exact hlt)
   clear hr1
   have HF:Hid ((ms.getD k dm).centre=t→AtI ms t (k:Int)):=fun h=>.inl ⟨k,by rw [HN.out];exact hlt,rfl,h⟩
   have HZ:Hid ((ms.getD k dm).centre≠t→∀ j,j < k+1→(ms.getD j dm).centre≠t):=fun h j hj=>by
    rcases Nat.lt_succ_iff_lt_or_eq.1 hj with h2 | rfl
    ·exact hz.out j h2
    ·exact h
   generalize (ms.getD k dm).centre=nm at *
   by_cases he:nm=t
   ·subst he
    have HF2:Hid (AtI ms nm (k:Int)):=HF.out rfl
    clear HF HZ
    go_wp2_with fail
    go_ret
    exact ⟨k,rfl,HF2,rfl⟩
   ·obtain ⟨h1,h2⟩:=beq_name he
    have HE:Hid (nm≠t):=he
    clear he
    go_wp2_with fail
    go_round
    case rel=>exact ⟨k+1,by omega,by go_num,HZ.out HE.out⟩
    case measure=>simp [intOf];omega
  ·go_wp2_with fail
   go_ret
   exact ⟨-1,rfl,.inr ⟨rfl,fun j hj=>hz.out j (by have:=HN.out;omega)⟩,rfl⟩
theorem atI_at {ms:List Gwy} {t:Gwy} {r:Int} {p:Nat} {f:Bool} (hi:AtI ms t.centre r) (ha:At ms t p f) (hr:Rise ms):(f=true→r=p)∧(f=false→r = -1):=by
 rcases hi with ⟨k,hk,rfl,hn⟩ | ⟨rfl,hn⟩
 ·obtain ⟨rfl,rfl⟩:=at_uniq ha (RL.at_of ord dm keyed hr hk ((cmpI_eq _ _).2 hn))
  exact ⟨fun _=>rfl,fun h=>by cases h⟩
 ·refine ⟨fun h=>?_,fun _=>rfl⟩
  have:=ha.is.1 h
  exact absurd ((cmpI_eq _ _).1 this.2) (hn p this.1)
end Gw
end Go.Proofs.YtikgjgmgbfjcgaaGreat
