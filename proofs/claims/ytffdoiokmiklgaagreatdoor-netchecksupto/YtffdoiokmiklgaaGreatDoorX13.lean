import Derived.Test.YtffdoiokmiklgaaGreatDoorX9
import Derived.Test.YtffdoiokmiklgaaGreatDoorX6
import Derived.Test.YtffdoiokmiklgaaGreatDoorX10
import Derived.Test.YtffdoiokmiklgaaGreatDoorX7
import Derived.Test.YtffdoiokmiklgaaGreatDoorX12
import Derived.Lib.QuietBelow
import Derived.Test.YtffdoiokmiklgaaGreatDoorX2
namespace Go.Proofs.YtffdoiokmiklgaaGreatDoor
namespace Wh
open Go.RowKit
def ord (a b:Whe):Int:=cmpI a.node b.node
theorem keyed:RL.Keyed ord:=RL.keyed_txt Whe.node
def newE (_ _:Whe):Bool:=true
abbrev Rise (ms:List Whe):Prop:=RL.Rise ord ms
abbrev hearL (ms:List Whe) (m:Whe):List Whe:=RL.hear ord newE ms m
abbrev risesB (ms:List Whe):Bool:=RL.risesB ord ms
theorem rises_allO (ms:List Whe) (h:∀ j,j+1 < ms.length→ord (ms.getD j dm) (ms.getD (j+1) dm) < 0):risesB ms=true:=RL.rises_all ord dm ms h
theorem rises_getO (ms:List Whe) (h:risesB ms=true):∀ j,j+1 < ms.length→ord (ms.getD j dm) (ms.getD (j+1) dm) < 0:=RL.rises_get ord dm ms h
def Whe.e (m:Whe):Int:=if labB m.node=true then chkP ⟨m.x,m.y,m.z,m.h,m.s⟩ else 1
def firstE:List Whe→Int
 | []=>0
 | m :: r=>if m.e=0 then firstE r else m.e
theorem firstE_zero:∀ (ms:List Whe),(∀ j,j < ms.length→(ms.getD j dm).e=0)→firstE ms=0
 | [],_=>rfl
 | m :: r,h=>by
   have h0:=h 0 (by simp)
   simp only [List.getD_cons_zero] at h0
   rw [firstE,if_pos h0]
   exact firstE_zero r fun j hj=>by have:=h (j+1) (by simpa using hj);simpa using this
theorem firstE_at:∀ (ms:List Whe) (k:Nat),k < ms.length→(∀ j,j < k→(ms.getD j dm).e=0)→(ms.getD k dm).e≠0→firstE ms=(ms.getD k dm).e
 | [],k,h,_,_=>by simp at h
 | m :: r,0,_,_,hne=>by
   simp only [List.getD_cons_zero] at hne ⊢
   rw [firstE,if_neg hne]
 | m :: r,k+1,h,hz,hne=>by
   have h0:=hz 0 (by omega)
   simp only [List.getD_cons_zero] at h0
   rw [firstE,if_pos h0,List.getD_cons_succ]
   rw [List.getD_cons_succ] at hne
   exact firstE_at r k (by simpa using h) (fun j hj=>by have:=hz (j+1) (by omega);simpa using this) hne
theorem firstE_mem:∀ (ms:List Whe),firstE ms=0→∀ m∈ms,m.e=0
 | [],_,m,hm=>by simp at hm
 | x :: r,h,m,hm=>by
   rw [firstE] at h
   split at h
   ·rename_i hx
    rcases List.mem_cons.1 hm with rfl | hm
    ·exact hx
    ·exact firstE_mem r h m hm
   ·rename_i hx;exact absurd h hx
def chk (ms:List Whe):Int:=if 20 < ms.length then 2 else if firstE ms=0 then (if risesB ms=true then 0 else 4) else firstE ms
theorem chk_e (ms:List Whe) (k:Nat) (hn:ms.length≤20) (hk:k < ms.length) (hz:∀ j,j < k→(ms.getD j dm).e=0) (hne:(ms.getD k dm).e≠0):chk ms=(ms.getD k dm).e:=by
 have h:=firstE_at ms k hk hz hne
 rw [chk,if_neg (by omega),h,if_neg hne]
theorem chk_r (ms:List Whe) (hn:ms.length≤20) (hz:∀ j,j < ms.length→(ms.getD j dm).e=0):chk ms=if risesB ms=true then 0 else 4:=by
 rw [chk,if_neg (by omega),firstE_zero ms hz,if_pos rfl]
theorem chk_4 (ms:List Whe) (k:Nat) (hn:ms.length≤20) (hz:∀ j,j < ms.length→(ms.getD j dm).e=0) (hk:k+1 < ms.length) (hl:¬ ord (ms.getD k dm) (ms.getD (k+1) dm) < 0):chk ms=4:=by
 rw [chk_r ms hn hz,if_neg]
 intro h
 exact hl (rises_getO ms h k hk)
theorem chk_0 (ms:List Whe) (hn:ms.length≤20) (hz:∀ j,j < ms.length→(ms.getD j dm).e=0) (hl:∀ j,j+1 < ms.length→ord (ms.getD j dm) (ms.getD (j+1) dm) < 0):chk ms=0:=by
 rw [chk_r ms hn hz,if_pos (rises_allO ms hl)]
theorem chk_zero {ms:List Whe} (h:chk ms=0):ms.length≤20∧Rise ms∧firstE ms=0:=by
 unfold chk at h
 split at h
 ·omega
 ·split at h
  ·rename_i h1 h2
   split at h
   ·rename_i h3
    exact ⟨by omega,RL.rise_of ord keyed ms h3,h2⟩
   ·omega
  ·rename_i h1 h2;exact absurd h h2
end Wh
end Go.Proofs.YtffdoiokmiklgaaGreatDoor
namespace Go.Proofs.YtffdoiokmiklgaaGreatDoor
open Go.RowKit
def fstM (ms:List Mem) (t:ByteArray):Option Mem:=ms.find? fun m=>decide (m.name=t)
def mOf (ms:List Mem) (t:ByteArray):Mem:=(fstM ms t).getD dm
theorem fstM_none {ms:List Mem} {t:ByteArray} (h:∀ j,j < ms.length→(ms.getD j dm).name≠t):fstM ms t=none:=by
 unfold fstM
 rw [List.find?_eq_none]
 intro x hx
 obtain ⟨j,hj,rfl⟩:=List.getElem_of_mem hx
 have:=h j hj
 rw [show ms.getD j dm=ms[j] by simp [List.getD,List.getElem?_eq_getElem hj]] at this
 simpa using this
theorem fstM_some {ms:List Mem} {t:ByteArray} {k:Nat} (hk:k < ms.length) (h1:∀ j,j < k→(ms.getD j dm).name≠t) (h2:(ms.getD k dm).name=t):fstM ms t=some (ms.getD k dm):=by
 unfold fstM
 rw [show ms.getD k dm=ms[k] by simp [List.getD,List.getElem?_eq_getElem hk]] at h2 ⊢
 rw [List.find?_eq_some_iff_getElem]
 refine ⟨by simpa using h2,k,hk,rfl,fun j hj=>?_⟩
 have:=h1 j hj
 rw [show ms.getD j dm=ms[j]'(by omega) by simp [List.getD,List.getElem?_eq_getElem (show j < ms.length by omega)]] at this
 simpa using this
theorem fstM_mem {ms:List Mem} {t:ByteArray} {m:Mem} (h:fstM ms t=some m):m∈ms∧m.name=t:=by
 unfold fstM at h
 exact ⟨List.mem_of_find?_eq_some h,by simpa using List.find?_some h⟩
def Apart (ms:List Mem):Prop:=∀ i j,i < j→j < ms.length→(ms.getD i dm).name≠(ms.getD j dm).name
def apB (ms:List Mem):Bool:=(List.range ms.length).all fun j=>(List.range j).all fun i=>decide ((ms.getD i dm).name≠(ms.getD j dm).name)
theorem apB_iff (ms:List Mem):apB ms=true↔Apart ms:=by
 simp only [apB,List.all_eq_true,List.mem_range,decide_eq_true_eq]
 exact ⟨fun h i j hij hj=>h j hj i hij,fun h j hj i hij=>h i j hij hj⟩
def chkT (ms:List Mem):Int:=if 5 < ms.length then 2 else if firstE ms=0 then (if apB ms=true then 0 else 6) else firstE ms
theorem chkT_many {ms:List Mem} (h:5 < ms.length):chkT ms=2:=if_pos h
theorem chkT_e {ms:List Mem} {k:Nat} (hn:ms.length≤5) (hk:k < ms.length) (hz:∀ j,j < k→(ms.getD j dm).e=0) (hne:(ms.getD k dm).e≠0):chkT ms=(ms.getD k dm).e:=by
 have h:=firstE_at ms k hk hz hne
 rw [chkT,if_neg (by omega),h,if_neg hne]
theorem chkT_twice {ms:List Mem} (hn:ms.length≤5) (hz:∀ j,j < ms.length→(ms.getD j dm).e=0) (hd:¬ Apart ms):chkT ms=6:=by
 rw [chkT,if_neg (by omega),if_pos (firstE_zero ms hz),if_neg (fun h=>hd ((apB_iff ms).1 h))]
theorem chkT_ok {ms:List Mem} (hn:ms.length≤5) (hz:∀ j,j < ms.length→(ms.getD j dm).e=0) (hd:Apart ms):chkT ms=0:=by
 rw [chkT,if_neg (by omega),if_pos (firstE_zero ms hz),if_pos ((apB_iff ms).2 hd)]
theorem chkT_zero {ms:List Mem} (h:chkT ms=0):ms.length≤5∧firstE ms=0∧Apart ms:=by
 unfold chkT at h
 split at h
 ·cases h
 ·split at h
  ·rename_i h1 h2
   split at h
   ·rename_i h3;exact ⟨by omega,h2,(apB_iff ms).1 h3⟩
   ·cases h
  ·rename_i h1 h2;exact absurd h h2
structure Pk where
 frm:ByteArray
 whole:Bool
 ms:List Mem
 sv:List Sv.Svc
 gw:List Gw.Gwy
 wh:List Wh.Whe
def Pk.alone (p:Pk):Bool:=p.sv.isEmpty && (p.gw.isEmpty && p.wh.isEmpty)
def Pk.mE (p:Pk):Int:=if p.whole=true then chk p.ms else chkT p.ms
def Pk.e (p:Pk):Int:=
 if (labB p.frm && (p.whole || p.alone))=true then
  (if p.mE=0 then (if Sv.chk p.sv=0 then (if Gw.chk p.gw=0 then Wh.chk p.wh else Gw.chk p.gw) else Sv.chk p.sv) else p.mE)
 else 1
structure Nd where
 name:ByteArray
 centre:ByteArray
 ms:List Mem
 rs:List Rum
 sv:List Sv.Svc
 gw:List Gw.Gwy
 p:Pl
 wh:List Wh.Whe
def aheadB (ms:List Mem) (r:Rum):Bool:=match fstM ms r.m.name with
 | none=>true
 | some k=>newM r.m k
def Nd.wE (n:Nd):Int:=match fstM n.ms n.name with
 | none=>5
 | some m=>if m.state=2∨m.state=3 then 4 else if n.rs.any (aheadB n.ms)=true then 4 else 0
def Nd.pE (n:Nd):Int:=
 if (labB n.name && labB n.centre)=true then
  (if chk n.ms=0 then (if chkR n.rs=0 then (if Sv.chk n.sv=0 then (if Gw.chk n.gw=0 then (if chkP n.p=0 then Wh.chk n.wh else chkP n.p) else Gw.chk n.gw) else Sv.chk n.sv) else chkR n.rs) else chk n.ms)
 else 1
def Nd.e (n:Nd):Int:=if n.pE=0 then n.wE else n.pE
structure Nd.Parts (n:Nd):Prop where
 name:labB n.name=true
 centre:labB n.centre=true
 ms:chk n.ms=0
 rs:chkR n.rs=0
 sv:Sv.chk n.sv=0
 gw:Gw.chk n.gw=0
 p:chkP n.p=0
 wh:Wh.chk n.wh=0
theorem Nd.parts {n:Nd} (h:n.pE=0):n.Parts:=by
 unfold Nd.pE at h
 split at h
 ·rename_i h0
  rw [Bool.and_eq_true] at h0
  split at h
  ·rename_i h1
   split at h
   ·rename_i h2
    split at h
    ·rename_i h3
     split at h
     ·rename_i h4
      split at h
      ·rename_i h5;exact ⟨h0.1,h0.2,h1,h2,h3,h4,h5,h⟩
      ·rename_i h5;exact absurd h h5
     ·rename_i h4;exact absurd h h4
    ·rename_i h3;exact absurd h h3
   ·rename_i h2;exact absurd h h2
  ·rename_i h1;exact absurd h h1
 ·cases h
theorem Nd.e_zero {n:Nd} (h:n.e=0):n.pE=0∧n.wE=0:=by
 unfold Nd.e at h
 split at h
 ·rename_i h1;exact ⟨h1,h⟩
 ·rename_i h1;exact absurd h h1
end Go.Proofs.YtffdoiokmiklgaaGreatDoor
namespace Go.Proofs.YtffdoiokmiklgaaGreatDoor
namespace Wh
open Go.RowKit
end Wh
namespace Wh
open Go.RowKit
set_option maxHeartbeats 400000 in
theorem rises_none (a:Option Addr) (cap:Nat) (fv:Value) (w:World) :
 Calls Tryz.prog 192 #[.slice a 0 cap,fv] w fun e w'=>e=.returned (.bool true)∧w'=w:=by
 go_enter Tryz.func192,Tryz.ntmps192
 go_wp2_with fail
 go_loop [5] (fun i=>i=.int .i64 1) (fun _=>0)
 case atStart=>rfl
 case round=>
  subst hrel
  go_wp2_with fail
  go_ret
  exact ⟨rfl,rfl⟩
end Wh
end Go.Proofs.YtffdoiokmiklgaaGreatDoor
namespace Go.Proofs.YtffdoiokmiklgaaGreatDoor
open Go.RowKit
def AtF (ms:List Mem) (t:ByteArray) (r:Int):Prop:=(∃ k:Nat,k < ms.length∧r=k∧fstM ms t=some (ms.getD k dm))∨(r = -1∧fstM ms t=none)
set_option maxHeartbeats 800000 in
theorem memAt_any (ms:List Mem) (v:Value) (t:ByteArray) (w:World) (hv:Sl w v ms) (hn:ms.length≤1000) :
 Calls Tryz.prog 17 #[v,.string t] w fun e w'=>∃ r:Int,e=.returned (.int .i64 r)∧Hid (AtF ms t r)∧w'=w:=by
 obtain ⟨pa,ca,rfl,_,ha⟩:=hv
 have HA:Hid (ms=[]∨∃ b off,pa=some ⟨b,off,none⟩∧b < w.heap.size∧Row w b off ms):=ha
 clear ha
 generalize hna:ms.length=n at *
 have HN:Hid (ms.length=n):=hna
 clear hna
 go_enter Tryz.func17,Tryz.ntmps17
 go_wp2_with fail
 go_loop [5] (fun i=>∃ k:Nat,k≤n∧i=.int .i64 k∧Hid (∀ j,j < k→(ms.getD j dm).name≠t)) (fun i=>n - (intOf i).toNat)
 case atStart=>exact ⟨0,Nat.zero_le _,rfl,fun j h=>absurd h (Nat.not_lt_zero _)⟩
 case round=>
  obtain ⟨k,hk,rfl,hz⟩:=hrel
  by_cases hlt:k < n
  ·obtain ⟨b1,o1,hp1,hl1,hr1⟩:∃ b off,pa=some ⟨b,off,none⟩∧b < w.heap.size∧Row w b off ms:=by
    rcases HA.out with h | h
    ·have:=HN.out;rw [h] at this;simp at this;omega
    ·exact h
   subst hp1
   obtain ⟨c0,_,_,_,_⟩:=hr1 k (by rw [HN.out];exact hlt)
   clear hr1
   have HF:Hid ((ms.getD k dm).name=t→AtF ms t (k:Int)):=fun h=>.inl ⟨k,by rw [HN.out];exact hlt,rfl,fstM_some (by rw [HN.out];exact hlt) hz.out h⟩
   have HZ:Hid ((ms.getD k dm).name≠t→∀ j,j < k+1→(ms.getD j dm).name≠t):=fun h j hj=>by
    rcases Nat.lt_succ_iff_lt_or_eq.1 hj with h2 | rfl
    ·exact hz.out j h2
    ·exact h
   generalize (ms.getD k dm).name=nm at *
   by_cases he:nm=t
   ·subst he
    have HF2:Hid (AtF ms nm (k:Int)):=HF.out rfl
    clear HF HZ
    go_wp2_with fail
    go_ret
    exact ⟨k,rfl,HF2,rfl⟩
   ·obtain ⟨h1,h2⟩:=beq_name he
    have HE:Hid (nm≠t):=he
    clear he
    go_wp2_with fail
    go_round
    case rel=>exact ⟨k+1,by omega,by go_num,HZ.out HE.out⟩
    case measure=>simp [intOf];omega
  ·go_wp2_with fail
   go_ret
   exact ⟨-1,rfl,.inr ⟨rfl,fstM_none fun j hj=>hz.out j (by have:=HN.out;omega)⟩,rfl⟩
end Go.Proofs.YtffdoiokmiklgaaGreatDoor
