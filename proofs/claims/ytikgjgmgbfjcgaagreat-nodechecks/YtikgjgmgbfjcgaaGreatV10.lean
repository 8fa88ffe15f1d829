import Derived.Test.YtikgjgmgbfjcgaaGreatV4
import Derived.Test.YtikgjgmgbfjcgaaGreatV1
import Derived.Test.YtikgjgmgbfjcgaaGreatV5
import Derived.Test.YtikgjgmgbfjcgaaGreatV6
import Derived.Test.YtikgjgmgbfjcgaaGreatV2
import Derived.Test.YtikgjgmgbfjcgaaGreatV7
import Derived.Test.YtikgjgmgbfjcgaaGreatV9
namespace Go.Proofs.YtikgjgmgbfjcgaaGreat
namespace Wh
open Go.RowKit
def ord (a b:Whe):Int:=cmpI a.node b.node
theorem keyed:RL.Keyed ord:=RL.keyed_txt Whe.node
def newE (_ _:Whe):Bool:=true
abbrev Rise (ms:List Whe):Prop:=RL.Rise ord ms
abbrev hearL (ms:List Whe) (m:Whe):List Whe:=RL.hear ord newE ms m
abbrev joinL (a b:List Whe):List Whe:=RL.join ord newE a b
abbrev At (ms:List Whe) (t:Whe) (p:Nat) (f:Bool):Prop:=RL.At ord dm ms t p f
abbrev risesB (ms:List Whe):Bool:=RL.risesB ord ms
theorem rise_mono {ms:List Whe} (h:Rise ms) (t:Whe):∀ i j,i≤j→j < ms.length→ord (ms.getD j dm) t < 0→ord (ms.getD i dm) t < 0:=RL.rise_mono ord dm keyed h t
theorem rises_allO (ms:List Whe) (h:∀ j,j+1 < ms.length→ord (ms.getD j dm) (ms.getD (j+1) dm) < 0):risesB ms=true:=RL.rises_all ord dm ms h
theorem rises_getO (ms:List Whe) (h:risesB ms=true):∀ j,j+1 < ms.length→ord (ms.getD j dm) (ms.getD (j+1) dm) < 0:=RL.rises_get ord dm ms h
theorem at_any (ms:List Whe) (hr:Rise ms) (t:Whe):∃ p f,At ms t p f:=RL.at_any ord dm keyed ms hr t
theorem at_uniq {ms:List Whe} {t:Whe} {p q:Nat} {f e:Bool} (h:At ms t p f) (k:At ms t q e):p=q∧f=e:=RL.at_uniq ord dm h k
theorem hearL_at (ms:List Whe) (m:Whe) (p:Nat) (f:Bool) (h:At ms m p f) :
 hearL ms m=if f=true then (if newE m (ms.getD p dm)=true then ms.set p m else ms) else ms.take p++m :: ms.drop p:=RL.hear_at ord newE dm ms m p f h
theorem hearL_mem (ms:List Whe) (m x:Whe) (h:x∈hearL ms m):x=m∨x∈ms:=RL.hear_mem ord newE ms m x h
theorem hearL_rise (ms:List Whe) (m:Whe) (h:Rise ms):Rise (hearL ms m):=RL.hear_rise ord newE keyed ms m h
theorem hearL_len (ms:List Whe) (m:Whe):ms.length≤(hearL ms m).length∧(hearL ms m).length≤ms.length+1:=RL.hear_len ord newE ms m
theorem joinL_rise (b a:List Whe) (h:Rise a):Rise (joinL a b):=RL.join_rise ord newE keyed b a h
theorem joinL_len (b a:List Whe):(joinL a b).length≤a.length+b.length:=RL.join_len ord newE b a
theorem joinL_mem (b a:List Whe) (x:Whe) (h:x∈joinL a b):x∈a∨x∈b:=RL.join_mem ord newE b a x h
theorem joinL_take (a b:List Whe) (j:Nat) (hj:j < b.length):joinL a (b.take (j+1))=hearL (joinL a (b.take j)) (b.getD j dm):=RL.join_take ord newE dm a b j hj
theorem joinL_nil (b:List Whe) (h:Rise b):joinL [] b=b:=RL.join_nil ord newE b h
theorem ns_hear {ms:List Whe} {m:Whe} (h:∀ m∈ms,m.ok) (hm:m.ok):∀ x∈hearL ms m,x.ok:=by
 intro x hx
 rcases hearL_mem ms m x hx with rfl | hx
 ·exact hm
 ·exact h x hx
theorem ns_join (b a:List Whe) (ha:∀ m∈a,m.ok) (hb:∀ m∈b,m.ok):∀ x∈joinL a b,x.ok:=by
 intro x hx
 rcases joinL_mem b a x hx with h | h
 ·exact ha x h
 ·exact hb x h
def Whe.e (m:Whe):Int:=if labB m.node=true then chkP ⟨m.x,m.y,m.z,m.h,m.s⟩ else 1
def firstE:List Whe→Int
 | []=>0
 | m :: r=>if m.e=0 then firstE r else m.e
theorem firstE_zero:∀ (ms:List Whe),(∀ j,j < ms.length→(ms.getD j dm).e=0)→firstE ms=0
 | [],_=>rfl
 | m :: r,h=>by
   have h0:=h 0 (by simp)
   simp only [List.getD_cons_zero] at h0
   rw [firstE,if_pos h0]
   exact firstE_zero r fun j hj=>by have:=h (j+1) (by simpa using hj);simpa using this
theorem firstE_at:∀ (ms:List Whe) (k:Nat),k < ms.length→(∀ j,j < k→(ms.getD j dm).e=0)→(ms.getD k dm).e≠0→firstE ms=(ms.getD k dm).e
 | [],k,h,_,_=>by simp at h
 | m :: r,0,_,_,hne=>by
   simp only [List.getD_cons_zero] at hne ⊢
   rw [firstE,if_neg hne]
 | m :: r,k+1,h,hz,hne=>by
   have h0:=hz 0 (by omega)
   simp only [List.getD_cons_zero] at h0
   rw [firstE,if_pos h0,List.getD_cons_succ]
   rw [List.getD_cons_succ] at hne
   exact firstE_at r k (by simpa using h) (fun j hj=>by have:=hz (j+1) (by omega);simpa using this) hne
theorem firstE_mem:∀ (ms:List Whe),firstE ms=0→∀ m∈ms,m.e=0
 | [],_,m,hm=>by simp at hm
 | x :: r,h,m,hm=>by
   rw [firstE] at h
   split at h
   ·rename_i hx
    rcases List.mem_cons.1 hm with rfl | hm
    ·exact hx
    ·exact firstE_mem r h m hm
   ·rename_i hx;exact absurd h hx
theorem firstE_all:∀ (ms:List Whe),(∀ m∈ms,m.e=0)→firstE ms=0
 | [],_=>rfl
 | x :: r,h=>by rw [firstE,if_pos (h x (by simp))];exact firstE_all r fun m hm=>h m (by simp [hm])
def chk (ms:List Whe):Int:=if 20 < ms.length then 2 else if firstE ms=0 then (if risesB ms=true then 0 else 4) else firstE ms
theorem chk_e (ms:List Whe) (k:Nat) (hn:ms.length≤20) (hk:k < ms.length) (hz:∀ j,j < k→(ms.getD j dm).e=0) (hne:(ms.getD k dm).e≠0):chk ms=(ms.getD k dm).e:=by
 have h:=firstE_at ms k hk hz hne
 rw [chk,if_neg (by omega),h,if_neg hne]
theorem chk_r (ms:List Whe) (hn:ms.length≤20) (hz:∀ j,j < ms.length→(ms.getD j dm).e=0):chk ms=if risesB ms=true then 0 else 4:=by
 rw [chk,if_neg (by omega),firstE_zero ms hz,if_pos rfl]
theorem chk_4 (ms:List Whe) (k:Nat) (hn:ms.length≤20) (hz:∀ j,j < ms.length→(ms.getD j dm).e=0) (hk:k+1 < ms.length) (hl:¬ ord (ms.getD k dm) (ms.getD (k+1) dm) < 0):chk ms=4:=by
 rw [chk_r ms hn hz,if_neg]
 intro h
 exact hl (rises_getO ms h k hk)
theorem chk_0 (ms:List Whe) (hn:ms.length≤20) (hz:∀ j,j < ms.length→(ms.getD j dm).e=0) (hl:∀ j,j+1 < ms.length→ord (ms.getD j dm) (ms.getD (j+1) dm) < 0):chk ms=0:=by
 rw [chk_r ms hn hz,if_pos (rises_allO ms hl)]
theorem chk_zero {ms:List Whe} (h:chk ms=0):ms.length≤20∧Rise ms∧firstE ms=0:=by
 unfold chk at h
 split at h
 ·omega
 ·split at h
  ·rename_i h1 h2
   split at h
   ·rename_i h3
    exact ⟨by omega,RL.rise_of ord keyed ms h3,h2⟩
   ·omega
  ·rename_i h1 h2;exact absurd h h2
theorem chk_of {ms:List Whe} (h1:ms.length≤20) (h2:Rise ms) (h3:∀ m∈ms,m.e=0):chk ms=0:=by
 rw [chk,if_neg (by omega),firstE_all ms h3,if_pos rfl,if_pos (RL.rises_of ord ms h2)]
def chkTwo (a b:List Whe):Int:=if chk a=0 then chk b else chk a
def stg (a b:List Whe) (k:Nat):List Whe:=if k=0 then [] else if k=1 then a else joinL a b
def joinE (a b:List Whe):Int:=if chkTwo a b=0 then (if 20 < (joinL a b).length then 2 else 0) else chkTwo a b
end Wh
namespace Gw
open Go.RowKit
def ord (a b:Gwy):Int:=cmpI a.centre b.centre
theorem keyed:RL.Keyed ord:=RL.keyed_txt Gwy.centre
def newC:Gwy→Gwy→Int:=RL.lex (fun a b=>a.version - b.version) (fun a b=>a.addr - b.addr)
def newE (a b:Gwy):Bool:=decide (0 < newC a b)
abbrev Rise (ms:List Gwy):Prop:=RL.Rise ord ms
abbrev hearL (ms:List Gwy) (m:Gwy):List Gwy:=RL.hear ord newE ms m
abbrev joinL (a b:List Gwy):List Gwy:=RL.join ord newE a b
abbrev At (ms:List Gwy) (t:Gwy) (p:Nat) (f:Bool):Prop:=RL.At ord dm ms t p f
abbrev risesB (ms:List Gwy):Bool:=RL.risesB ord ms
theorem rise_mono {ms:List Gwy} (h:Rise ms) (t:Gwy):∀ i j,i≤j→j < ms.length→ord (ms.getD j dm) t < 0→ord (ms.getD i dm) t < 0:=RL.rise_mono ord dm keyed h t
theorem rises_allO (ms:List Gwy) (h:∀ j,j+1 < ms.length→ord (ms.getD j dm) (ms.getD (j+1) dm) < 0):risesB ms=true:=RL.rises_all ord dm ms h
theorem rises_getO (ms:List Gwy) (h:risesB ms=true):∀ j,j+1 < ms.length→ord (ms.getD j dm) (ms.getD (j+1) dm) < 0:=RL.rises_get ord dm ms h
theorem at_any (ms:List Gwy) (hr:Rise ms) (t:Gwy):∃ p f,At ms t p f:=RL.at_any ord dm keyed ms hr t
theorem at_uniq {ms:List Gwy} {t:Gwy} {p q:Nat} {f e:Bool} (h:At ms t p f) (k:At ms t q e):p=q∧f=e:=RL.at_uniq ord dm h k
theorem hearL_at (ms:List Gwy) (m:Gwy) (p:Nat) (f:Bool) (h:At ms m p f) :
 hearL ms m=if f=true then (if newE m (ms.getD p dm)=true then ms.set p m else ms) else ms.take p++m :: ms.drop p:=RL.hear_at ord newE dm ms m p f h
theorem hearL_mem (ms:List Gwy) (m x:Gwy) (h:x∈hearL ms m):x=m∨x∈ms:=RL.hear_mem ord newE ms m x h
theorem hearL_rise (ms:List Gwy) (m:Gwy) (h:Rise ms):Rise (hearL ms m):=RL.hear_rise ord newE keyed ms m h
theorem hearL_len (ms:List Gwy) (m:Gwy):ms.length≤(hearL ms m).length∧(hearL ms m).length≤ms.length+1:=RL.hear_len ord newE ms m
theorem joinL_rise (b a:List Gwy) (h:Rise a):Rise (joinL a b):=RL.join_rise ord newE keyed b a h
theorem joinL_len (b a:List Gwy):(joinL a b).length≤a.length+b.length:=RL.join_len ord newE b a
theorem joinL_mem (b a:List Gwy) (x:Gwy) (h:x∈joinL a b):x∈a∨x∈b:=RL.join_mem ord newE b a x h
theorem joinL_take (a b:List Gwy) (j:Nat) (hj:j < b.length):joinL a (b.take (j+1))=hearL (joinL a (b.take j)) (b.getD j dm):=RL.join_take ord newE dm a b j hj
theorem joinL_nil (b:List Gwy) (h:Rise b):joinL [] b=b:=RL.join_nil ord newE b h
theorem ns_hear {ms:List Gwy} {m:Gwy} (h:∀ m∈ms,m.ok) (hm:m.ok):∀ x∈hearL ms m,x.ok:=by
 intro x hx
 rcases hearL_mem ms m x hx with rfl | hx
 ·exact hm
 ·exact h x hx
theorem ns_join (b a:List Gwy) (ha:∀ m∈a,m.ok) (hb:∀ m∈b,m.ok):∀ x∈joinL a b,x.ok:=by
 intro x hx
 rcases joinL_mem b a x hx with h | h
 ·exact ha x h
 ·exact hb x h
def Gwy.e (m:Gwy):Int:=if labB m.centre=true then (if within m.addr 0 4294967295=true then (if within m.version 1 1000000=true then 0 else 3) else 3) else 1
def firstE:List Gwy→Int
 | []=>0
 | m :: r=>if m.e=0 then firstE r else m.e
theorem firstE_zero:∀ (ms:List Gwy),(∀ j,j < ms.length→(ms.getD j dm).e=0)→firstE ms=0
 | [],_=>rfl
 | m :: r,h=>by
   have h0:=h 0 (by simp)
   simp only [List.getD_cons_zero] at h0
   rw [firstE,if_pos h0]
   exact firstE_zero r fun j hj=>by have:=h (j+1) (by simpa using hj);simpa using this
theorem firstE_at:∀ (ms:List Gwy) (k:Nat),k < ms.length→(∀ j,j < k→(ms.getD j dm).e=0)→(ms.getD k dm).e≠0→firstE ms=(ms.getD k dm).e
 | [],k,h,_,_=>by simp at h
 | m :: r,0,_,_,hne=>by
   simp only [List.getD_cons_zero] at hne ⊢
   rw [firstE,if_neg hne]
 | m :: r,k+1,h,hz,hne=>by
   have h0:=hz 0 (by omega)
   simp only [List.getD_cons_zero] at h0
   rw [firstE,if_pos h0,List.getD_cons_succ]
   rw [List.getD_cons_succ] at hne
   exact firstE_at r k (by simpa using h) (fun j hj=>by have:=hz (j+1) (by omega);simpa using this) hne
theorem firstE_mem:∀ (ms:List Gwy),firstE ms=0→∀ m∈ms,m.e=0
 | [],_,m,hm=>by simp at hm
 | x :: r,h,m,hm=>by
   rw [firstE] at h
   split at h
   ·rename_i hx
    rcases List.mem_cons.1 hm with rfl | hm
    ·exact hx
    ·exact firstE_mem r h m hm
   ·rename_i hx;exact absurd h hx
theorem firstE_all:∀ (ms:List Gwy),(∀ m∈ms,m.e=0)→firstE ms=0
 | [],_=>rfl
 | x :: r,h=>by rw [firstE,if_pos (h x (by simp))];exact firstE_all r fun m hm=>h m (by simp [hm])
def chk (ms:List Gwy):Int:=if 6 < ms.length then 2 else if firstE ms=0 then (if risesB ms=true then 0 else 4) else firstE ms
theorem chk_e (ms:List Gwy) (k:Nat) (hn:ms.length≤6) (hk:k < ms.length) (hz:∀ j,j < k→(ms.getD j dm).e=0) (hne:(ms.getD k dm).e≠0):chk ms=(ms.getD k dm).e:=by
 have h:=firstE_at ms k hk hz hne
 rw [chk,if_neg (by omega),h,if_neg hne]
theorem chk_r (ms:List Gwy) (hn:ms.length≤6) (hz:∀ j,j < ms.length→(ms.getD j dm).e=0):chk ms=if risesB ms=true then 0 else 4:=by
 rw [chk,if_neg (by omega),firstE_zero ms hz,if_pos rfl]
theorem chk_4 (ms:List Gwy) (k:Nat) (hn:ms.length≤6) (hz:∀ j,j < ms.length→(ms.getD j dm).e=0) (hk:k+1 < ms.length) (hl:¬ ord (ms.getD k dm) (ms.getD (k+1) dm) < 0):chk ms=4:=by
 rw [chk_r ms hn hz,if_neg]
 intro h
 exact hl (rises_getO ms h k hk)
theorem chk_0 (ms:List Gwy) (hn:ms.length≤6) (hz:∀ j,j < ms.length→(ms.getD j dm).e=0) (hl:∀ j,j+1 < ms.length→ord (ms.getD j dm) (ms.getD (j+1) dm) < 0):chk ms=0:=by
 rw [chk_r ms hn hz,if_pos (rises_allO ms hl)]
theorem chk_zero {ms:List Gwy} (h:chk ms=0):ms.length≤6∧Rise ms∧firstE ms=0:=by
 unfold chk at h
 split at h
 ·omega
 ·split at h
  ·rename_i h1 h2
   split at h
   ·rename_i h3
    exact ⟨by omega,RL.rise_of ord keyed ms h3,h2⟩
   ·omega
  ·rename_i h1 h2;exact absurd h h2
theorem chk_of {ms:List Gwy} (h1:ms.length≤6) (h2:Rise ms) (h3:∀ m∈ms,m.e=0):chk ms=0:=by
 rw [chk,if_neg (by omega),firstE_all ms h3,if_pos rfl,if_pos (RL.rises_of ord ms h2)]
def chkTwo (a b:List Gwy):Int:=if chk a=0 then chk b else chk a
def stg (a b:List Gwy) (k:Nat):List Gwy:=if k=0 then [] else if k=1 then a else joinL a b
def joinE (a b:List Gwy):Int:=if chkTwo a b=0 then (if 6 < (joinL a b).length then 2 else 0) else chkTwo a b
end Gw
end Go.Proofs.YtikgjgmgbfjcgaaGreat
namespace Go.Proofs.YtikgjgmgbfjcgaaGreat
open Go.RowKit
def fstM (ms:List Mem) (t:ByteArray):Option Mem:=ms.find? fun m=>decide (m.name=t)
def mOf (ms:List Mem) (t:ByteArray):Mem:=(fstM ms t).getD dm
theorem fstM_none {ms:List Mem} {t:ByteArray} (h:∀ j,j < ms.length→(ms.getD j dm).name≠t):fstM ms t=none:=by
 unfold fstM
 rw [List.find?_eq_none]
 intro x hx
 obtain ⟨j,hj,rfl⟩:=List.getElem_of_mem hx
 have:=h j hj
 rw [show ms.getD j dm=ms[j] by simp [List.getD,List.getElem?_eq_getElem hj]] at this
 simpa using this
theorem fstM_some {ms:List Mem} {t:ByteArray} {k:Nat} (hk:k < ms.length) (h1:∀ j,j < k→(ms.getD j dm).name≠t) (h2:(ms.getD k dm).name=t):fstM ms t=some (ms.getD k dm):=by
 unfold fstM
 rw [show ms.getD k dm=ms[k] by simp [List.getD,List.getElem?_eq_getElem hk]] at h2 ⊢
 rw [List.find?_eq_some_iff_getElem]
 refine ⟨by simpa using h2,k,hk,rfl,fun j hj=>?_⟩
 have:=h1 j hj
 rw [show ms.getD j dm=ms[j]'(by omega) by simp [List.getD,List.getElem?_eq_getElem (show j < ms.length by omega)]] at this
 simpa using this
theorem fstM_mem {ms:List Mem} {t:ByteArray} {m:Mem} (h:fstM ms t=some m):m∈ms∧m.name=t:=by
 unfold fstM at h
 exact ⟨List.mem_of_find?_eq_some h,by simpa using List.find?_some h⟩
def Apart (ms:List Mem):Prop:=∀ i j,i < j→j < ms.length→(ms.getD i dm).name≠(ms.getD j dm).name
def apB (ms:List Mem):Bool:=(List.range ms.length).all fun j=>(List.range j).all fun i=>decide ((ms.getD i dm).name≠(ms.getD j dm).name)
theorem apB_iff (ms:List Mem):apB ms=true↔Apart ms:=by
 simp only [apB,List.all_eq_true,List.mem_range,decide_eq_true_eq]
 exact ⟨fun h i j hij hj=>h j hj i hij,fun h j hj i hij=>h i j hij hj⟩
def chkT (ms:List Mem):Int:=if 5 < ms.length then 2 else if firstE ms=0 then (if apB ms=true then 0 else 6) else firstE ms
theorem chkT_many {ms:List Mem} (h:5 < ms.length):chkT ms=2:=if_pos h
theorem chkT_e {ms:List Mem} {k:Nat} (hn:ms.length≤5) (hk:k < ms.length) (hz:∀ j,j < k→(ms.getD j dm).e=0) (hne:(ms.getD k dm).e≠0):chkT ms=(ms.getD k dm).e:=by
 have h:=firstE_at ms k hk hz hne
 rw [chkT,if_neg (by omega),h,if_neg hne]
theorem chkT_twice {ms:List Mem} (hn:ms.length≤5) (hz:∀ j,j < ms.length→(ms.getD j dm).e=0) (hd:¬ Apart ms):chkT ms=6:=by
 rw [chkT,if_neg (by omega),if_pos (firstE_zero ms hz),if_neg (fun h=>hd ((apB_iff ms).1 h))]
theorem chkT_ok {ms:List Mem} (hn:ms.length≤5) (hz:∀ j,j < ms.length→(ms.getD j dm).e=0) (hd:Apart ms):chkT ms=0:=by
 rw [chkT,if_neg (by omega),if_pos (firstE_zero ms hz),if_pos ((apB_iff ms).2 hd)]
theorem chkT_zero {ms:List Mem} (h:chkT ms=0):ms.length≤5∧firstE ms=0∧Apart ms:=by
 unfold chkT at h
 split at h
 ·cases h
 ·split at h
  ·rename_i h1 h2
   split at h
   ·rename_i h3;exact ⟨by omega,h2,(apB_iff ms).1 h3⟩
   ·cases h
  ·rename_i h1 h2;exact absurd h h2
structure Pk where
 frm:ByteArray
 whole:Bool
 ms:List Mem
 sv:List Sv.Svc
 gw:List Gw.Gwy
 wh:List Wh.Whe
def Pk.alone (p:Pk):Bool:=p.sv.isEmpty && (p.gw.isEmpty && p.wh.isEmpty)
def Pk.mE (p:Pk):Int:=if p.whole=true then chk p.ms else chkT p.ms
def Pk.e (p:Pk):Int:=
 if (labB p.frm && (p.whole || p.alone))=true then
  (if p.mE=0 then (if Sv.chk p.sv=0 then (if Gw.chk p.gw=0 then Wh.chk p.wh else Gw.chk p.gw) else Sv.chk p.sv) else p.mE)
 else 1
structure Nd where
 name:ByteArray
 centre:ByteArray
 ms:List Mem
 rs:List Rum
 sv:List Sv.Svc
 gw:List Gw.Gwy
 p:Pl
 wh:List Wh.Whe
def aheadB (ms:List Mem) (r:Rum):Bool:=match fstM ms r.m.name with
 | none=>true
 | some k=>newM r.m k
def Nd.wE (n:Nd):Int:=match fstM n.ms n.name with
 | none=>5
 | some m=>if m.state=2∨m.state=3 then 4 else if n.rs.any (aheadB n.ms)=true then 4 else 0
def Nd.pE (n:Nd):Int:=
 if (labB n.name && labB n.centre)=true then
  (if chk n.ms=0 then (if chkR n.rs=0 then (if Sv.chk n.sv=0 then (if Gw.chk n.gw=0 then (if chkP n.p=0 then Wh.chk n.wh else chkP n.p) else Gw.chk n.gw) else Sv.chk n.sv) else chkR n.rs) else chk n.ms)
 else 1
def Nd.e (n:Nd):Int:=if n.pE=0 then n.wE else n.pE
structure Nd.Parts (n:Nd):Prop where
 name:labB n.name=true
 centre:labB n.centre=true
 ms:chk n.ms=0
 rs:chkR n.rs=0
 sv:Sv.chk n.sv=0
 gw:Gw.chk n.gw=0
 p:chkP n.p=0
 wh:Wh.chk n.wh=0
theorem Nd.parts {n:Nd} (h:n.pE=0):n.Parts:=by
 unfold Nd.pE at h
 split at h
 ·rename_i h0
  rw [Bool.and_eq_true] at h0
  split at h
  ·rename_i h1
   split at h
   ·rename_i h2
    split at h
    ·rename_i h3
     split at h
     ·rename_i h4
      split at h
      ·rename_i h5;exact ⟨h0.1,h0.2,h1,h2,h3,h4,h5,h⟩
      ·rename_i h5;exact absurd h h5
     ·rename_i h4;exact absurd h h4
    ·rename_i h3;exact absurd h h3
   ·rename_i h2;exact absurd h h2
  ·rename_i h1;exact absurd h h1
 ·cases h
theorem Nd.Parts.e {n:Nd} (h:n.Parts):n.pE=0:=by
 unfold Nd.pE
 rw [if_pos (by rw [h.name,h.centre];rfl),if_pos h.ms,if_pos h.rs,if_pos h.sv,if_pos h.gw,if_pos h.p,h.wh]
theorem Nd.e_zero {n:Nd} (h:n.e=0):n.pE=0∧n.wE=0:=by
 unfold Nd.e at h
 split at h
 ·rename_i h1;exact ⟨h1,h⟩
 ·rename_i h1;exact absurd h h1
end Go.Proofs.YtikgjgmgbfjcgaaGreat
namespace Go.Proofs.YtikgjgmgbfjcgaaGreat
namespace Wh
open Go.RowKit
set_option maxHeartbeats 400000 in
theorem order_any (a b:Whe) (w:World) :
 Calls Tryz.prog 170 #[.agg #[.string a.node,.int .i64 a.x,.int .i64 a.y,.int .i64 a.z,.int .i64 a.h,.int .i64 a.s],.agg #[.string b.node,.int .i64 b.x,.int .i64 b.y,.int .i64 b.z,.int .i64 b.h,.int .i64 b.s]] w fun e w'=>e=.returned (.int .i64 (ord a b))∧Below w.heap.size w w':=by
 go_enter Tryz.func170,Tryz.ntmps170
 go_wp2_with (go_at_call 115;refine (compare_any _ _ _).mono ?_;rintro e w' ⟨rfl,rfl⟩)
 go_ret
 exact ⟨rfl,((Below.refl _ _).alloc (Nat.le_refl _) _).alloc (by simp) _⟩
set_option maxHeartbeats 400000 in
theorem newerE_any (a b:Whe) (w:World) :
 Calls Tryz.prog 176 #[.agg #[.string a.node,.int .i64 a.x,.int .i64 a.y,.int .i64 a.z,.int .i64 a.h,.int .i64 a.s],.agg #[.string b.node,.int .i64 b.x,.int .i64 b.y,.int .i64 b.z,.int .i64 b.h,.int .i64 b.s]] w fun e w'=>e=.returned (.bool (newE a b))∧Below w.heap.size w w':=by
 go_enter Tryz.func176,Tryz.ntmps176
 go_wp2
 go_ret
 exact ⟨rfl,by first | exact Below.refl _ _ | exact ((Below.refl _ _).alloc (Nat.le_refl _) _).alloc (by simp) _⟩
end Wh
namespace Gw
open Go.RowKit
set_option maxHeartbeats 400000 in
theorem order_any (a b:Gwy) (w:World) :
 Calls Tryz.prog 150 #[.agg #[.string a.centre,.int .i64 a.addr,.int .i64 a.version],.agg #[.string b.centre,.int .i64 b.addr,.int .i64 b.version]] w fun e w'=>e=.returned (.int .i64 (ord a b))∧Below w.heap.size w w':=by
 go_enter Tryz.func150,Tryz.ntmps150
 go_wp2_with (go_at_call 115;refine (compare_any _ _ _).mono ?_;rintro e w' ⟨rfl,rfl⟩)
 go_ret
 exact ⟨rfl,((Below.refl _ _).alloc (Nat.le_refl _) _).alloc (by simp) _⟩
set_option maxHeartbeats 800000 in
theorem newerE_any (a b:Gwy) (w:World) :
 Calls Tryz.prog 213 #[.agg #[.string a.centre,.int .i64 a.addr,.int .i64 a.version],.agg #[.string b.centre,.int .i64 b.addr,.int .i64 b.version]] w fun e w'=>e=.returned (.bool (newE a b))∧Below w.heap.size w w':=by
 have hd:∀ a b:Gwy,newE a b=if a.version=b.version then decide (b.addr < a.addr) else decide (b.version < a.version):=fun a b=>by
  simp only [newE,newC,RL.lex]
  by_cases h:a.version=b.version
  ·rw [if_pos (by omega),if_pos h];congr 1;apply propext;omega
  ·rw [if_neg (by omega),if_neg h];congr 1;apply propext;omega
 have HD:Hid (newE a b=if a.version=b.version then decide (b.addr < a.addr) else decide (b.version < a.version)):=hd a b
 clear hd
 obtain ⟨ca,aa,va⟩:=a
 obtain ⟨cb,ab,vb⟩:=b
 by_cases h1:va=vb
 ·subst h1
  go_enter Tryz.func213,Tryz.ntmps213
  go_wp2
  go_ret
  exact ⟨ret_bool (by rw [HD.out];simp),((Below.refl _ _).alloc (Nat.le_refl _) _).alloc (by simp) _⟩
 ·have h1':(va != vb)=true:=by simpa using h1
  go_enter Tryz.func213,Tryz.ntmps213
  go_wp2
  go_ret
  exact ⟨ret_bool (by rw [HD.out];simp [h1]),((Below.refl _ _).alloc (Nat.le_refl _) _).alloc (by simp) _⟩
end Gw
end Go.Proofs.YtikgjgmgbfjcgaaGreat
namespace Go.Proofs.YtikgjgmgbfjcgaaGreat
open Go.RowKit
def AtF (ms:List Mem) (t:ByteArray) (r:Int):Prop:=(∃ k:Nat,k < ms.length∧r=k∧fstM ms t=some (ms.getD k dm))∨(r = -1∧fstM ms t=none)
set_option maxHeartbeats 800000 in
theorem memAt_any (ms:List Mem) (v:Value) (t:ByteArray) (w:World) (hv:Sl w v ms) (hn:ms.length≤1000) :
 Calls Tryz.prog 52 #[v,.string t] w fun e w'=>∃ r:Int,e=.returned (.int .i64 r)∧Hid (AtF ms t r)∧w'=w:=by
 obtain ⟨pa,ca,rfl,_,ha⟩:=hv
 have HA:Hid (ms=[]∨∃ b off,pa=some ⟨b,off,none⟩∧b < w.heap.size∧Row w b off ms):=ha
 clear ha
 generalize hna:ms.length=n at *
 have HN:Hid (ms.length=n):=hna
 clear hna
 go_enter Tryz.func52,Tryz.ntmps52
 go_wp2_with fail
 go_loop [5] (fun i=>∃ k:Nat,k≤n∧i=.int .i64 k∧Hid (∀ j,j < k→(ms.getD j dm).name≠t)) (fun i=>n - (intOf i).toNat)
 case atStart=>exact ⟨0,Nat.zero_le _,rfl,fun j h=>absurd h (Nat.not_lt_zero _)⟩
 case round=>
  obtain ⟨k,hk,rfl,hz⟩:=hrel
  by_cases hlt:k < n
  ·obtain ⟨b1,o1,hp1,hl1,hr1⟩:∃ b off,pa=some ⟨b,off,none⟩∧b < w.heap.size∧Row w b off ms:=by
    rcases HA.out with h | h
    ·have:=HN.out;rw [h] at this;simp at this;omega
    ·exact h
   subst hp1
   obtain ⟨c0,_,_,_,_⟩:=hr1 k (by rw [HN.out];exact hlt)
   clear hr1
   have HF:Hid ((ms.getD k dm).name=t→AtF ms t (k:Int)):=fun h=>.inl ⟨k,by rw [HN.out];exact hlt,rfl,fstM_some (by rw [HN.out];exact hlt) hz.out h⟩
   have HZ:Hid ((ms.getD k dm).name≠t→∀ j,j < k+1→(ms.getD j dm).name≠t):=fun h j hj=>by
    rcases Nat.lt_succ_iff_lt_or_eq.1 hj with h2 | rfl
    ·exact hz.out j h2
    ·exact h
   generalize (ms.getD k dm).name=nm at *
   by_cases he:nm=t
   ·subst he
    have HF2:Hid (AtF ms nm (k:Int)):=HF.out rfl
    clear HF HZ
    go_wp2_with fail
    go_ret
    exact ⟨k,rfl,HF2,rfl⟩
   ·obtain ⟨h1,h2⟩:=beq_name he
    have HE:Hid (nm≠t):=he
    clear he
    go_wp2_with fail
    go_round
    case rel=>exact ⟨k+1,by omega,by go_num,HZ.out HE.out⟩
    case measure=>simp [intOf];omega
  ·go_wp2_with fail
   go_ret
   exact ⟨-1,rfl,.inr ⟨rfl,fstM_none fun j hj=>hz.out j (by have:=HN.out;omega)⟩,rfl⟩
end Go.Proofs.YtikgjgmgbfjcgaaGreat
