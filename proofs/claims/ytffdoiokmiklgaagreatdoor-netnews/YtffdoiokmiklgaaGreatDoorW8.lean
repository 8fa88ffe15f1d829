import Derived.Test.YtffdoiokmiklgaaGreatDoorW1
import Derived.Test.YtffdoiokmiklgaaGreatDoorW2
import Derived.Test.YtffdoiokmiklgaaGreatDoorW7
import Derived.Test.YtffdoiokmiklgaaGreatDoorW3
import Derived.Test.YtffdoiokmiklgaaGreatDoorW4
import Derived.Lib.QuietBelow
namespace Go.Proofs.YtffdoiokmiklgaaGreatDoor
open Go.RowKit
theorem cmpI_self (a:ByteArray):cmpI a a=0:=(cmpI_eq a a).2 rfl
theorem cmpI_flip (a b:ByteArray):0 < cmpI a b↔cmpI b a < 0:=by rw [cmpI_gt,cmpI_lt]
theorem cmpI_trans (a b c:ByteArray) (h1:cmpI a b < 0) (h2:cmpI b c < 0):cmpI a c < 0:=by
 rw [cmpI_lt] at *;exact less_trans h1 h2
namespace RL
section
variable {α:Type}
theorem keyed_txt (f:α→ByteArray):Keyed fun a b=>cmpI (f a) (f b) where
 refl a:=cmpI_self _
 gt a b:=cmpI_flip _ _
 trans a b c h1 h2:=cmpI_trans _ _ _ h1 h2
 left a b c h:=by rw [(cmpI_eq _ _).1 h]
 right a b c h:=by rw [(cmpI_eq _ _).1 h]
def bI (b:Bool):Int:=if b=true then 1 else 0
theorem bI_inj {a b:Bool} (h:bI a - bI b=0):a=b:=by cases a<;>cases b<;>simp [bI] at h ⊢
def lex (o p:α→α→Int) (a b:α):Int:=if o a b=0 then p a b else o a b
theorem keyed_lex {o p:α→α→Int} (h:Keyed o) (k:Keyed p):Keyed (lex o p) where
 refl a:=by rw [lex,if_pos (h.refl a),k.refl a]
 gt a b:=by
  unfold lex
  by_cases e:o a b=0
  ·rw [if_pos e,if_pos (h.symm e)];exact k.gt a b
  ·rw [if_neg e,if_neg (fun e2=>e (h.symm e2))];exact h.gt a b
 trans a b c h1 h2:=by
  unfold lex at *
  by_cases e:o a b=0
  ·rw [if_pos e] at h1
   by_cases e2:o b c=0
   ·rw [if_pos e2] at h2
    rw [if_pos (h.eqt e e2)];exact k.trans _ _ _ h1 h2
   ·rw [if_neg e2] at h2
    rw [if_neg (fun e3=>e2 (h.eqt (h.symm e) e3)),h.left a b c e];exact h2
  ·rw [if_neg e] at h1
   by_cases e2:o b c=0
   ·rw [if_neg (fun e3=>e (h.eqt e3 (h.symm e2))),← h.right b c a e2];exact h1
   ·rw [if_neg e2] at h2
    have h3:=h.trans _ _ _ h1 h2
    rw [if_neg (by omega)];exact h3
 left a b c e:=by
  unfold lex at *
  by_cases e1:o a b=0
  ·rw [if_pos e1] at e
   rw [h.left a b c e1,k.left a b c e]
  ·rw [if_neg e1] at e;exact absurd e e1
 right a b c e:=by
  unfold lex at *
  by_cases e1:o a b=0
  ·rw [if_pos e1] at e
   rw [h.right a b c e1,k.right a b c e]
  ·rw [if_neg e1] at e;exact absurd e e1
end
end RL
end Go.Proofs.YtffdoiokmiklgaaGreatDoor
namespace Go.Proofs.YtffdoiokmiklgaaGreatDoor
namespace Wh
open Go.RowKit
def ord (a b:Whe):Int:=cmpI a.node b.node
theorem keyed:RL.Keyed ord:=RL.keyed_txt Whe.node
def newE (_ _:Whe):Bool:=true
abbrev Rise (ms:List Whe):Prop:=RL.Rise ord ms
abbrev hearL (ms:List Whe) (m:Whe):List Whe:=RL.hear ord newE ms m
abbrev joinL (a b:List Whe):List Whe:=RL.join ord newE a b
abbrev At (ms:List Whe) (t:Whe) (p:Nat) (f:Bool):Prop:=RL.At ord dm ms t p f
abbrev risesB (ms:List Whe):Bool:=RL.risesB ord ms
theorem rise_mono {ms:List Whe} (h:Rise ms) (t:Whe):∀ i j,i≤j→j < ms.length→ord (ms.getD j dm) t < 0→ord (ms.getD i dm) t < 0:=RL.rise_mono ord dm keyed h t
theorem rises_allO (ms:List Whe) (h:∀ j,j+1 < ms.length→ord (ms.getD j dm) (ms.getD (j+1) dm) < 0):risesB ms=true:=RL.rises_all ord dm ms h
theorem rises_getO (ms:List Whe) (h:risesB ms=true):∀ j,j+1 < ms.length→ord (ms.getD j dm) (ms.getD (j+1) dm) < 0:=RL.rises_get ord dm ms h
theorem at_any (ms:List Whe) (hr:Rise ms) (t:Whe):∃ p f,At ms t p f:=RL.at_any ord dm keyed ms hr t
theorem at_uniq {ms:List Whe} {t:Whe} {p q:Nat} {f e:Bool} (h:At ms t p f) (k:At ms t q e):p=q∧f=e:=RL.at_uniq ord dm h k
theorem hearL_at (ms:List Whe) (m:Whe) (p:Nat) (f:Bool) (h:At ms m p f) :
 hearL ms m=if f=true then (if newE m (ms.getD p dm)=true then ms.set p m else ms) else ms.take p++m :: ms.drop p:=RL.hear_at ord newE dm ms m p f h
theorem hearL_mem (ms:List Whe) (m x:Whe) (h:x∈hearL ms m):x=m∨x∈ms:=RL.hear_mem ord newE ms m x h
theorem hearL_rise (ms:List Whe) (m:Whe) (h:Rise ms):Rise (hearL ms m):=RL.hear_rise ord newE keyed ms m h
theorem hearL_len (ms:List Whe) (m:Whe):ms.length≤(hearL ms m).length∧(hearL ms m).length≤ms.length+1:=RL.hear_len ord newE ms m
theorem joinL_rise (b a:List Whe) (h:Rise a):Rise (joinL a b):=RL.join_rise ord newE keyed b a h
theorem joinL_len (b a:List Whe):(joinL a b).length≤a.length+b.length:=RL.join_len ord newE b a
theorem joinL_mem (b a:List Whe) (x:Whe) (h:x∈joinL a b):x∈a∨x∈b:=RL.join_mem ord newE b a x h
theorem joinL_take (a b:List Whe) (j:Nat) (hj:j < b.length):joinL a (b.take (j+1))=hearL (joinL a (b.take j)) (b.getD j dm):=RL.join_take ord newE dm a b j hj
theorem joinL_nil (b:List Whe) (h:Rise b):joinL [] b=b:=RL.join_nil ord newE b h
theorem ns_hear {ms:List Whe} {m:Whe} (h:∀ m∈ms,m.ok) (hm:m.ok):∀ x∈hearL ms m,x.ok:=by
 intro x hx
 rcases hearL_mem ms m x hx with rfl | hx
 ·exact hm
 ·exact h x hx
theorem ns_join (b a:List Whe) (ha:∀ m∈a,m.ok) (hb:∀ m∈b,m.ok):∀ x∈joinL a b,x.ok:=by
 intro x hx
 rcases joinL_mem b a x hx with h | h
 ·exact ha x h
 ·exact hb x h
def Whe.e (m:Whe):Int:=if labB m.node=true then chkP ⟨m.x,m.y,m.z,m.h,m.s⟩ else 1
def firstE:List Whe→Int
 | []=>0
 | m :: r=>if m.e=0 then firstE r else m.e
theorem firstE_zero:∀ (ms:List Whe),(∀ j,j < ms.length→(ms.getD j dm).e=0)→firstE ms=0
 | [],_=>rfl
 | m :: r,h=>by
   have h0:=h 0 (by simp)
   simp only [List.getD_cons_zero] at h0
   rw [firstE,if_pos h0]
   exact firstE_zero r fun j hj=>by have:=h (j+1) (by simpa using hj);simpa using this
theorem firstE_at:∀ (ms:List Whe) (k:Nat),k < ms.length→(∀ j,j < k→(ms.getD j dm).e=0)→(ms.getD k dm).e≠0→firstE ms=(ms.getD k dm).e
 | [],k,h,_,_=>by simp at h
 | m :: r,0,_,_,hne=>by
   simp only [List.getD_cons_zero] at hne ⊢
   rw [firstE,if_neg hne]
 | m :: r,k+1,h,hz,hne=>by
   have h0:=hz 0 (by omega)
   simp only [List.getD_cons_zero] at h0
   rw [firstE,if_pos h0,List.getD_cons_succ]
   rw [List.getD_cons_succ] at hne
   exact firstE_at r k (by simpa using h) (fun j hj=>by have:=hz (j+1) (by omega);simpa using this) hne
theorem firstE_mem:∀ (ms:List Whe),firstE ms=0→∀ m∈ms,m.e=0
 | [],_,m,hm=>by simp at hm
 | x :: r,h,m,hm=>by
   rw [firstE] at h
   split at h
   ·rename_i hx
    rcases List.mem_cons.1 hm with rfl | hm
    ·exact hx
    ·exact firstE_mem r h m hm
   ·rename_i hx;exact absurd h hx
theorem firstE_all:∀ (ms:List Whe),(∀ m∈ms,m.e=0)→firstE ms=0
 | [],_=>rfl
 | x :: r,h=>by rw [firstE,if_pos (h x (by simp))];exact firstE_all r fun m hm=>h m (by simp [hm])
def chk (ms:List Whe):Int:=if 20 < ms.length then 2 else if firstE ms=0 then (if risesB ms=true then 0 else 4) else firstE ms
theorem chk_e (ms:List Whe) (k:Nat) (hn:ms.length≤20) (hk:k < ms.length) (hz:∀ j,j < k→(ms.getD j dm).e=0) (hne:(ms.getD k dm).e≠0):chk ms=(ms.getD k dm).e:=by
 have h:=firstE_at ms k hk hz hne
 rw [chk,if_neg (by omega),h,if_neg hne]
theorem chk_r (ms:List Whe) (hn:ms.length≤20) (hz:∀ j,j < ms.length→(ms.getD j dm).e=0):chk ms=if risesB ms=true then 0 else 4:=by
 rw [chk,if_neg (by omega),firstE_zero ms hz,if_pos rfl]
theorem chk_4 (ms:List Whe) (k:Nat) (hn:ms.length≤20) (hz:∀ j,j < ms.length→(ms.getD j dm).e=0) (hk:k+1 < ms.length) (hl:¬ ord (ms.getD k dm) (ms.getD (k+1) dm) < 0):chk ms=4:=by
 rw [chk_r ms hn hz,if_neg]
 intro h
 exact hl (rises_getO ms h k hk)
theorem chk_0 (ms:List Whe) (hn:ms.length≤20) (hz:∀ j,j < ms.length→(ms.getD j dm).e=0) (hl:∀ j,j+1 < ms.length→ord (ms.getD j dm) (ms.getD (j+1) dm) < 0):chk ms=0:=by
 rw [chk_r ms hn hz,if_pos (rises_allO ms hl)]
theorem chk_zero {ms:List Whe} (h:chk ms=0):ms.length≤20∧Rise ms∧firstE ms=0:=by
 unfold chk at h
 split at h
 ·omega
 ·split at h
  ·rename_i h1 h2
   split at h
   ·rename_i h3
    exact ⟨by omega,RL.rise_of ord keyed ms h3,h2⟩
   ·omega
  ·rename_i h1 h2;exact absurd h h2
theorem chk_of {ms:List Whe} (h1:ms.length≤20) (h2:Rise ms) (h3:∀ m∈ms,m.e=0):chk ms=0:=by
 rw [chk,if_neg (by omega),firstE_all ms h3,if_pos rfl,if_pos (RL.rises_of ord ms h2)]
def chkTwo (a b:List Whe):Int:=if chk a=0 then chk b else chk a
def stg (a b:List Whe) (k:Nat):List Whe:=if k=0 then [] else if k=1 then a else joinL a b
def joinE (a b:List Whe):Int:=if chkTwo a b=0 then (if 20 < (joinL a b).length then 2 else 0) else chkTwo a b
end Wh
namespace Sv
open Go.RowKit
def ord:Svc→Svc→Int:=RL.lex (fun a b=>cmpI a.node b.node) (fun a b=>cmpI a.idn b.idn)
theorem keyed:RL.Keyed ord:=RL.keyed_lex (RL.keyed_txt Svc.node) (RL.keyed_txt Svc.idn)
def newC:Svc→Svc→Int:=RL.lex (fun a b=>a.version - b.version) (RL.lex (fun a b=>RL.bI a.gone - RL.bI b.gone) (RL.lex (fun a b=>cmpI a.name b.name) (RL.lex (fun a b=>cmpI a.tag b.tag) (RL.lex (fun a b=>a.addr - b.addr) (RL.lex (fun a b=>a.port - b.port) (fun a b=>RL.bI a.passing - RL.bI b.passing))))))
def newE (a b:Svc):Bool:=decide (0 < newC a b)
abbrev Rise (ms:List Svc):Prop:=RL.Rise ord ms
abbrev hearL (ms:List Svc) (m:Svc):List Svc:=RL.hear ord newE ms m
abbrev joinL (a b:List Svc):List Svc:=RL.join ord newE a b
abbrev At (ms:List Svc) (t:Svc) (p:Nat) (f:Bool):Prop:=RL.At ord dm ms t p f
abbrev risesB (ms:List Svc):Bool:=RL.risesB ord ms
theorem rise_mono {ms:List Svc} (h:Rise ms) (t:Svc):∀ i j,i≤j→j < ms.length→ord (ms.getD j dm) t < 0→ord (ms.getD i dm) t < 0:=RL.rise_mono ord dm keyed h t
theorem rises_allO (ms:List Svc) (h:∀ j,j+1 < ms.length→ord (ms.getD j dm) (ms.getD (j+1) dm) < 0):risesB ms=true:=RL.rises_all ord dm ms h
theorem rises_getO (ms:List Svc) (h:risesB ms=true):∀ j,j+1 < ms.length→ord (ms.getD j dm) (ms.getD (j+1) dm) < 0:=RL.rises_get ord dm ms h
theorem at_any (ms:List Svc) (hr:Rise ms) (t:Svc):∃ p f,At ms t p f:=RL.at_any ord dm keyed ms hr t
theorem at_uniq {ms:List Svc} {t:Svc} {p q:Nat} {f e:Bool} (h:At ms t p f) (k:At ms t q e):p=q∧f=e:=RL.at_uniq ord dm h k
theorem hearL_at (ms:List Svc) (m:Svc) (p:Nat) (f:Bool) (h:At ms m p f) :
 hearL ms m=if f=true then (if newE m (ms.getD p dm)=true then ms.set p m else ms) else ms.take p++m :: ms.drop p:=RL.hear_at ord newE dm ms m p f h
theorem hearL_mem (ms:List Svc) (m x:Svc) (h:x∈hearL ms m):x=m∨x∈ms:=RL.hear_mem ord newE ms m x h
theorem hearL_rise (ms:List Svc) (m:Svc) (h:Rise ms):Rise (hearL ms m):=RL.hear_rise ord newE keyed ms m h
theorem hearL_len (ms:List Svc) (m:Svc):ms.length≤(hearL ms m).length∧(hearL ms m).length≤ms.length+1:=RL.hear_len ord newE ms m
theorem joinL_rise (b a:List Svc) (h:Rise a):Rise (joinL a b):=RL.join_rise ord newE keyed b a h
theorem joinL_len (b a:List Svc):(joinL a b).length≤a.length+b.length:=RL.join_len ord newE b a
theorem joinL_mem (b a:List Svc) (x:Svc) (h:x∈joinL a b):x∈a∨x∈b:=RL.join_mem ord newE b a x h
theorem joinL_take (a b:List Svc) (j:Nat) (hj:j < b.length):joinL a (b.take (j+1))=hearL (joinL a (b.take j)) (b.getD j dm):=RL.join_take ord newE dm a b j hj
theorem joinL_nil (b:List Svc) (h:Rise b):joinL [] b=b:=RL.join_nil ord newE b h
theorem ns_hear {ms:List Svc} {m:Svc} (h:∀ m∈ms,m.ok) (hm:m.ok):∀ x∈hearL ms m,x.ok:=by
 intro x hx
 rcases hearL_mem ms m x hx with rfl | hx
 ·exact hm
 ·exact h x hx
theorem ns_join (b a:List Svc) (ha:∀ m∈a,m.ok) (hb:∀ m∈b,m.ok):∀ x∈joinL a b,x.ok:=by
 intro x hx
 rcases joinL_mem b a x hx with h | h
 ·exact ha x h
 ·exact hb x h
def tagB (t:ByteArray):Bool:=decide (t=ByteArray.empty) || labB t
def Svc.e (m:Svc):Int:=
 if (labB m.node && (labB m.idn && (labB m.name && tagB m.tag)))=true then (if (within m.addr 0 4294967295 && (within m.port 0 65535 && within m.version 1 1000000))=true then 0 else 3) else 1
def firstE:List Svc→Int
 | []=>0
 | m :: r=>if m.e=0 then firstE r else m.e
theorem firstE_zero:∀ (ms:List Svc),(∀ j,j < ms.length→(ms.getD j dm).e=0)→firstE ms=0
 | [],_=>rfl
 | m :: r,h=>by
   have h0:=h 0 (by simp)
   simp only [List.getD_cons_zero] at h0
   rw [firstE,if_pos h0]
   exact firstE_zero r fun j hj=>by have:=h (j+1) (by simpa using hj);simpa using this
theorem firstE_at:∀ (ms:List Svc) (k:Nat),k < ms.length→(∀ j,j < k→(ms.getD j dm).e=0)→(ms.getD k dm).e≠0→firstE ms=(ms.getD k dm).e
 | [],k,h,_,_=>by simp at h
 | m :: r,0,_,_,hne=>by
   simp only [List.getD_cons_zero] at hne ⊢
   rw [firstE,if_neg hne]
 | m :: r,k+1,h,hz,hne=>by
   have h0:=hz 0 (by omega)
   simp only [List.getD_cons_zero] at h0
   rw [firstE,if_pos h0,List.getD_cons_succ]
   rw [List.getD_cons_succ] at hne
   exact firstE_at r k (by simpa using h) (fun j hj=>by have:=hz (j+1) (by omega);simpa using this) hne
theorem firstE_mem:∀ (ms:List Svc),firstE ms=0→∀ m∈ms,m.e=0
 | [],_,m,hm=>by simp at hm
 | x :: r,h,m,hm=>by
   rw [firstE] at h
   split at h
   ·rename_i hx
    rcases List.mem_cons.1 hm with rfl | hm
    ·exact hx
    ·exact firstE_mem r h m hm
   ·rename_i hx;exact absurd h hx
theorem firstE_all:∀ (ms:List Svc),(∀ m∈ms,m.e=0)→firstE ms=0
 | [],_=>rfl
 | x :: r,h=>by rw [firstE,if_pos (h x (by simp))];exact firstE_all r fun m hm=>h m (by simp [hm])
def chk (ms:List Svc):Int:=if 40 < ms.length then 2 else if firstE ms=0 then (if risesB ms=true then 0 else 4) else firstE ms
theorem chk_e (ms:List Svc) (k:Nat) (hn:ms.length≤40) (hk:k < ms.length) (hz:∀ j,j < k→(ms.getD j dm).e=0) (hne:(ms.getD k dm).e≠0):chk ms=(ms.getD k dm).e:=by
 have h:=firstE_at ms k hk hz hne
 rw [chk,if_neg (by omega),h,if_neg hne]
theorem chk_r (ms:List Svc) (hn:ms.length≤40) (hz:∀ j,j < ms.length→(ms.getD j dm).e=0):chk ms=if risesB ms=true then 0 else 4:=by
 rw [chk,if_neg (by omega),firstE_zero ms hz,if_pos rfl]
theorem chk_4 (ms:List Svc) (k:Nat) (hn:ms.length≤40) (hz:∀ j,j < ms.length→(ms.getD j dm).e=0) (hk:k+1 < ms.length) (hl:¬ ord (ms.getD k dm) (ms.getD (k+1) dm) < 0):chk ms=4:=by
 rw [chk_r ms hn hz,if_neg]
 intro h
 exact hl (rises_getO ms h k hk)
theorem chk_0 (ms:List Svc) (hn:ms.length≤40) (hz:∀ j,j < ms.length→(ms.getD j dm).e=0) (hl:∀ j,j+1 < ms.length→ord (ms.getD j dm) (ms.getD (j+1) dm) < 0):chk ms=0:=by
 rw [chk_r ms hn hz,if_pos (rises_allO ms hl)]
theorem chk_zero {ms:List Svc} (h:chk ms=0):ms.length≤40∧Rise ms∧firstE ms=0:=by
 unfold chk at h
 split at h
 ·omega
 ·split at h
  ·rename_i h1 h2
   split at h
   ·rename_i h3
    exact ⟨by omega,RL.rise_of ord keyed ms h3,h2⟩
   ·omega
  ·rename_i h1 h2;exact absurd h h2
theorem chk_of {ms:List Svc} (h1:ms.length≤40) (h2:Rise ms) (h3:∀ m∈ms,m.e=0):chk ms=0:=by
 rw [chk,if_neg (by omega),firstE_all ms h3,if_pos rfl,if_pos (RL.rises_of ord ms h2)]
def chkTwo (a b:List Svc):Int:=if chk a=0 then chk b else chk a
def stg (a b:List Svc) (k:Nat):List Svc:=if k=0 then [] else if k=1 then a else joinL a b
def joinE (a b:List Svc):Int:=if chkTwo a b=0 then (if 40 < (joinL a b).length then 2 else 0) else chkTwo a b
end Sv
namespace Gw
open Go.RowKit
def ord (a b:Gwy):Int:=cmpI a.centre b.centre
theorem keyed:RL.Keyed ord:=RL.keyed_txt Gwy.centre
def newC:Gwy→Gwy→Int:=RL.lex (fun a b=>a.version - b.version) (fun a b=>a.addr - b.addr)
def newE (a b:Gwy):Bool:=decide (0 < newC a b)
abbrev Rise (ms:List Gwy):Prop:=RL.Rise ord ms
abbrev hearL (ms:List Gwy) (m:Gwy):List Gwy:=RL.hear ord newE ms m
abbrev joinL (a b:List Gwy):List Gwy:=RL.join ord newE a b
abbrev At (ms:List Gwy) (t:Gwy) (p:Nat) (f:Bool):Prop:=RL.At ord dm ms t p f
abbrev risesB (ms:List Gwy):Bool:=RL.risesB ord ms
theorem rise_mono {ms:List Gwy} (h:Rise ms) (t:Gwy):∀ i j,i≤j→j < ms.length→ord (ms.getD j dm) t < 0→ord (ms.getD i dm) t < 0:=RL.rise_mono ord dm keyed h t
theorem rises_allO (ms:List Gwy) (h:∀ j,j+1 < ms.length→ord (ms.getD j dm) (ms.getD (j+1) dm) < 0):risesB ms=true:=RL.rises_all ord dm ms h
theorem rises_getO (ms:List Gwy) (h:risesB ms=true):∀ j,j+1 < ms.length→ord (ms.getD j dm) (ms.getD (j+1) dm) < 0:=RL.rises_get ord dm ms h
theorem at_any (ms:List Gwy) (hr:Rise ms) (t:Gwy):∃ p f,At ms t p f:=RL.at_any ord dm keyed ms hr t
theorem at_uniq {ms:List Gwy} {t:Gwy} {p q:Nat} {f e:Bool} (h:At ms t p f) (k:At ms t q e):p=q∧f=e:=RL.at_uniq ord dm h k
theorem hearL_at (ms:List Gwy) (m:Gwy) (p:Nat) (f:Bool) (h:At ms m p f) :
 hearL ms m=if f=true then (if newE m (ms.getD p dm)=true then ms.set p m else ms) else ms.take p++m :: ms.drop p:=RL.hear_at ord newE dm ms m p f h
theorem hearL_mem (ms:List Gwy) (m x:Gwy) (h:x∈hearL ms m):x=m∨x∈ms:=RL.hear_mem ord newE ms m x h
theorem hearL_rise (ms:List Gwy) (m:Gwy) (h:Rise ms):Rise (hearL ms m):=RL.hear_rise ord newE keyed ms m h
theorem hearL_len (ms:List Gwy) (m:Gwy):ms.length≤(hearL ms m).length∧(hearL ms m).length≤ms.length+1:=RL.hear_len ord newE ms m
theorem joinL_rise (b a:List Gwy) (h:Rise a):Rise (joinL a b):=RL.join_rise ord newE keyed b a h
theorem joinL_len (b a:List Gwy):(joinL a b).length≤a.length+b.length:=RL.join_len ord newE b a
theorem joinL_mem (b a:List Gwy) (x:Gwy) (h:x∈joinL a b):x∈a∨x∈b:=RL.join_mem ord newE b a x h
theorem joinL_take (a b:List Gwy) (j:Nat) (hj:j < b.length):joinL a (b.take (j+1))=hearL (joinL a (b.take j)) (b.getD j dm):=RL.join_take ord newE dm a b j hj
theorem joinL_nil (b:List Gwy) (h:Rise b):joinL [] b=b:=RL.join_nil ord newE b h
theorem ns_hear {ms:List Gwy} {m:Gwy} (h:∀ m∈ms,m.ok) (hm:m.ok):∀ x∈hearL ms m,x.ok:=by
 intro x hx
 rcases hearL_mem ms m x hx with rfl | hx
 ·exact hm
 ·exact h x hx
theorem ns_join (b a:List Gwy) (ha:∀ m∈a,m.ok) (hb:∀ m∈b,m.ok):∀ x∈joinL a b,x.ok:=by
 intro x hx
 rcases joinL_mem b a x hx with h | h
 ·exact ha x h
 ·exact hb x h
def Gwy.e (m:Gwy):Int:=if labB m.centre=true then (if within m.addr 0 4294967295=true then (if within m.version 1 1000000=true then 0 else 3) else 3) else 1
def firstE:List Gwy→Int
 | []=>0
 | m :: r=>if m.e=0 then firstE r else m.e
theorem firstE_zero:∀ (ms:List Gwy),(∀ j,j < ms.length→(ms.getD j dm).e=0)→firstE ms=0
 | [],_=>rfl
 | m :: r,h=>by
   have h0:=h 0 (by simp)
   simp only [List.getD_cons_zero] at h0
   rw [firstE,if_pos h0]
   exact firstE_zero r fun j hj=>by have:=h (j+1) (by simpa using hj);simpa using this
theorem firstE_at:∀ (ms:List Gwy) (k:Nat),k < ms.length→(∀ j,j < k→(ms.getD j dm).e=0)→(ms.getD k dm).e≠0→firstE ms=(ms.getD k dm).e
 | [],k,h,_,_=>by simp at h
 | m :: r,0,_,_,hne=>by
   simp only [List.getD_cons_zero] at hne ⊢
   rw [firstE,if_neg hne]
 | m :: r,k+1,h,hz,hne=>by
   have h0:=hz 0 (by omega)
   simp only [List.getD_cons_zero] at h0
   rw [firstE,if_pos h0,List.getD_cons_succ]
   rw [List.getD_cons_succ] at hne
   exact firstE_at r k (by simpa using h) (fun j hj=>by have:=hz (j+1) (by omega);simpa using this) hne
theorem firstE_mem:∀ (ms:List Gwy),firstE ms=0→∀ m∈ms,m.e=0
 | [],_,m,hm=>by simp at hm
 | x :: r,h,m,hm=>by
   rw [firstE] at h
   split at h
   ·rename_i hx
    rcases List.mem_cons.1 hm with rfl | hm
    ·exact hx
    ·exact firstE_mem r h m hm
   ·rename_i hx;exact absurd h hx
theorem firstE_all:∀ (ms:List Gwy),(∀ m∈ms,m.e=0)→firstE ms=0
 | [],_=>rfl
 | x :: r,h=>by rw [firstE,if_pos (h x (by simp))];exact firstE_all r fun m hm=>h m (by simp [hm])
def chk (ms:List Gwy):Int:=if 6 < ms.length then 2 else if firstE ms=0 then (if risesB ms=true then 0 else 4) else firstE ms
theorem chk_e (ms:List Gwy) (k:Nat) (hn:ms.length≤6) (hk:k < ms.length) (hz:∀ j,j < k→(ms.getD j dm).e=0) (hne:(ms.getD k dm).e≠0):chk ms=(ms.getD k dm).e:=by
 have h:=firstE_at ms k hk hz hne
 rw [chk,if_neg (by omega),h,if_neg hne]
theorem chk_r (ms:List Gwy) (hn:ms.length≤6) (hz:∀ j,j < ms.length→(ms.getD j dm).e=0):chk ms=if risesB ms=true then 0 else 4:=by
 rw [chk,if_neg (by omega),firstE_zero ms hz,if_pos rfl]
theorem chk_4 (ms:List Gwy) (k:Nat) (hn:ms.length≤6) (hz:∀ j,j < ms.length→(ms.getD j dm).e=0) (hk:k+1 < ms.length) (hl:¬ ord (ms.getD k dm) (ms.getD (k+1) dm) < 0):chk ms=4:=by
 rw [chk_r ms hn hz,if_neg]
 intro h
 exact hl (rises_getO ms h k hk)
theorem chk_0 (ms:List Gwy) (hn:ms.length≤6) (hz:∀ j,j < ms.length→(ms.getD j dm).e=0) (hl:∀ j,j+1 < ms.length→ord (ms.getD j dm) (ms.getD (j+1) dm) < 0):chk ms=0:=by
 rw [chk_r ms hn hz,if_pos (rises_allO ms hl)]
theorem chk_zero {ms:List Gwy} (h:chk ms=0):ms.length≤6∧Rise ms∧firstE ms=0:=by
 unfold chk at h
 split at h
 ·omega
 ·split at h
  ·rename_i h1 h2
   split at h
   ·rename_i h3
    exact ⟨by omega,RL.rise_of ord keyed ms h3,h2⟩
   ·omega
  ·rename_i h1 h2;exact absurd h h2
theorem chk_of {ms:List Gwy} (h1:ms.length≤6) (h2:Rise ms) (h3:∀ m∈ms,m.e=0):chk ms=0:=by
 rw [chk,if_neg (by omega),firstE_all ms h3,if_pos rfl,if_pos (RL.rises_of ord ms h2)]
def chkTwo (a b:List Gwy):Int:=if chk a=0 then chk b else chk a
def stg (a b:List Gwy) (k:Nat):List Gwy:=if k=0 then [] else if k=1 then a else joinL a b
def joinE (a b:List Gwy):Int:=if chkTwo a b=0 then (if 6 < (joinL a b).length then 2 else 0) else chkTwo a b
end Gw
namespace Wh
open Go.RowKit
set_option maxHeartbeats 400000 in
theorem order_any (a b:Whe) (w:World) :
 Calls Tryz.prog 140 #[.agg #[.string a.node,.int .i64 a.x,.int .i64 a.y,.int .i64 a.z,.int .i64 a.h,.int .i64 a.s],.agg #[.string b.node,.int .i64 b.x,.int .i64 b.y,.int .i64 b.z,.int .i64 b.h,.int .i64 b.s]] w fun e w'=>e=.returned (.int .i64 (ord a b))∧Below w.heap.size w w':=by
 go_enter Tryz.func140,Tryz.ntmps140
 go_wp2_with (go_at_call 99;refine (compare_any _ _ _).mono ?_;rintro e w' ⟨rfl,rfl⟩)
 go_ret
 exact ⟨rfl,((Below.refl _ _).alloc (Nat.le_refl _) _).alloc (by simp) _⟩
set_option maxHeartbeats 400000 in
theorem newerE_any (a b:Whe) (w:World) :
 Calls Tryz.prog 257 #[.agg #[.string a.node,.int .i64 a.x,.int .i64 a.y,.int .i64 a.z,.int .i64 a.h,.int .i64 a.s],.agg #[.string b.node,.int .i64 b.x,.int .i64 b.y,.int .i64 b.z,.int .i64 b.h,.int .i64 b.s]] w fun e w'=>e=.returned (.bool (newE a b))∧Below w.heap.size w w':=by
 go_enter Tryz.func257,Tryz.ntmps257
 go_wp2
 go_ret
 exact ⟨rfl,by first | exact Below.refl _ _ | exact ((Below.refl _ _).alloc (Nat.le_refl _) _).alloc (by simp) _⟩
end Wh
namespace Wh
open Go.RowKit
set_option maxHeartbeats 800000 in
set_option maxRecDepth 100000 in
theorem rises_row (ms:List Whe) (b off cap:Nat) (w:World) (hr:Row w b off ms) (hb:b < w.heap.size) (hn:ms.length≤20) :
 Calls Tryz.prog 192 #[.slice (some ⟨b,off,none⟩) ms.length cap,.func (.func 140) #[] #[]] w fun e w'=>e=.returned (.bool (risesB ms))∧Below w.heap.size w w':=by
 have HR:Hid (Row w b off ms):=hr
 clear hr
 have H4:Hid (∀ k,k+1 < ms.length→0≤ord (ms.getD k dm) (ms.getD (k+1) dm)→risesB ms=false):=fun k hk hl=>by
  rcases h:risesB ms with _ | _
  ·rfl
  ·have:=rises_getO ms h k hk;omega
 have H0:Hid ((∀ j,j+1 < ms.length→ord (ms.getD j dm) (ms.getD (j+1) dm) < 0)→risesB ms=true):=rises_allO ms
 generalize hN:ms.length=n at *
 have HN:Hid (ms.length=n):=hN
 clear hN
 generalize hC:risesB ms=res at *
 have HC:Hid (risesB ms=res):=hC
 clear hC
 go_enter Tryz.func192,Tryz.ntmps192
 go_wp2_with fail
 go_loopw [5] (fun i w'=>∃ k:Nat,(k+1≤n∨k=0)∧i=.int .i64 (k+1)∧Below w.heap.size w w'∧Hid (∀ j,j < k→ord (ms.getD j dm) (ms.getD (j+1) dm) < 0)) (fun i _=>n - (intOf i).toNat)
 case atStart=>exact ⟨0,.inr rfl,rfl,Below.refl _ _,fun j h=>absurd h (Nat.not_lt_zero _)⟩
 case round=>
  obtain ⟨q,hq,rfl,hbl,hz⟩:=hrel
  obtain ⟨hbc,hbf⟩:=bcell hbl
  have hsz:=hbl.size
  by_cases hlt:q+1 < n
  ·obtain ⟨c0,c1,c2,c3,c4,c5⟩:=HR.out q (by rw [HN.out];omega)
   obtain ⟨d0,d1,d2,d3,d4,d5⟩:=HR.out (q+1) (by rw [HN.out];exact hlt)
   have HK:Hid (0≤ord (ms.getD q dm) (ms.getD (q+1) dm)→res=false):=fun h=>H4.out q hlt h
   have HZ:Hid (ord (ms.getD q dm) (ms.getD (q+1) dm) < 0→∀ j,j < q+1→ord (ms.getD j dm) (ms.getD (j+1) dm) < 0):=fun h j hj=>by
    rcases Nat.lt_succ_iff_lt_or_eq.1 hj with h2 | rfl
    ·exact hz.out j h2
    ·exact h
   generalize ms.getD q dm=m1 at *
   generalize ms.getD (q+1) dm=m2 at *
   have hN:∀ d os,Calls Tryz.prog 140 #[.agg #[.string m1.node,.int .i64 m1.x,.int .i64 m1.y,.int .i64 m1.z,.int .i64 m1.h,.int .i64 m1.s],.agg #[.string m2.node,.int .i64 m2.x,.int .i64 m2.y,.int .i64 m2.z,.int .i64 m2.h,.int .i64 m2.s]] (Go.Sort.grow (redrawn wr d) os) fun e w''=>e=.returned (.int .i64 (ord m1 m2))∧∃ p:Regrown,w''=Go.Sort.grow (redrawn wr p.d) p.os:=fun d os=>Calls.regrown_of (order_any m1 m2 _)
   have F0:∀ d os,(Go.Sort.grow (redrawn wr d) os).cell? ⟨b,off+q * 6,none⟩=some (.string m1.node):=cell_regrown ((hbc _ _ hb).trans c0)
   have F1:∀ d os,(Go.Sort.grow (redrawn wr d) os).cell? ⟨b,off+q * 6+1,none⟩=some (.int .i64 m1.x):=cell_regrown ((hbc _ _ hb).trans c1)
   have F2:∀ d os,(Go.Sort.grow (redrawn wr d) os).cell? ⟨b,off+q * 6+2,none⟩=some (.int .i64 m1.y):=cell_regrown ((hbc _ _ hb).trans c2)
   have F3:∀ d os,(Go.Sort.grow (redrawn wr d) os).cell? ⟨b,off+q * 6+3,none⟩=some (.int .i64 m1.z):=cell_regrown ((hbc _ _ hb).trans c3)
   have F4:∀ d os,(Go.Sort.grow (redrawn wr d) os).cell? ⟨b,off+q * 6+4,none⟩=some (.int .i64 m1.h):=cell_regrown ((hbc _ _ hb).trans c4)
   have F5:∀ d os,(Go.Sort.grow (redrawn wr d) os).cell? ⟨b,off+q * 6+5,none⟩=some (.int .i64 m1.s):=cell_regrown ((hbc _ _ hb).trans c5)
   have G0:∀ d os,(Go.Sort.grow (redrawn wr d) os).cell? ⟨b,off+(q+1) * 6,none⟩=some (.string m2.node):=cell_regrown ((hbc _ _ hb).trans d0)
   have G1:∀ d os,(Go.Sort.grow (redrawn wr d) os).cell? ⟨b,off+(q+1) * 6+1,none⟩=some (.int .i64 m2.x):=cell_regrown ((hbc _ _ hb).trans d1)
   have G2:∀ d os,(Go.Sort.grow (redrawn wr d) os).cell? ⟨b,off+(q+1) * 6+2,none⟩=some (.int .i64 m2.y):=cell_regrown ((hbc _ _ hb).trans d2)
   have G3:∀ d os,(Go.Sort.grow (redrawn wr d) os).cell? ⟨b,off+(q+1) * 6+3,none⟩=some (.int .i64 m2.z):=cell_regrown ((hbc _ _ hb).trans d3)
   have G4:∀ d os,(Go.Sort.grow (redrawn wr d) os).cell? ⟨b,off+(q+1) * 6+4,none⟩=some (.int .i64 m2.h):=cell_regrown ((hbc _ _ hb).trans d4)
   have G5:∀ d os,(Go.Sort.grow (redrawn wr d) os).cell? ⟨b,off+(q+1) * 6+5,none⟩=some (.int .i64 m2.s):=cell_regrown ((hbc _ _ hb).trans d5)
   clear c0 c1 c2 c3 c4 c5 d0 d1 d2 d3 d4 d5 hbc hbf
   generalize ord m1 m2=r at *
   have hwq:IntKind.i64.wrap (q:Int)=(q:Int):=by rw [IntKind.wrap_i64];omega
   have hqn:q < n:=by omega
   have hq1:(q:Int)+1 < (n:Int):=by omega
   have hq0:(0:Int)≤(q:Int)+1:=by omega
   have htn:((q:Int)+1).toNat=q+1:=by omega
   by_cases hl:r < 0
   ·have hl2:¬ (0≤r):=by omega
    go_wp2_with fail
    refine wp_region_quiet_below (by kernel_rfl) (by kernel_rfl) ?_
    repeat (quiet_step (exact hN _ _))
    refine wpQuiet_nil ?_
    intro _ hw'
    obtain ⟨⟨dq,osq⟩,hw''⟩:=hw'
    subst hw''
    have HBQ:Hid (Below wr.heap.size wr (Go.Sort.grow (redrawn wr dq) osq)):=below_regrown wr dq osq
    clear hN F0 F1 F2 F3 F4 F5 G0 G1 G2 G3 G4 G5
    go_wp2_with fail
    go_roundw
    case rel=>exact ⟨q+1,.inl (by omega),by go_num,hbl.trans (HBQ.out.mono hsz),HZ.out hl⟩
    case measure=>simp [intOf];omega
   ·have hl2:0≤r:=by omega
    have h4:Hid (res=false):=HK.out hl2
    go_wp2_with fail
    refine wp_region_quiet_below (by kernel_rfl) (by kernel_rfl) ?_
    repeat (quiet_step (exact hN _ _))
    refine wpQuiet_nil ?_
    intro _ hw'
    obtain ⟨⟨dq,osq⟩,hw''⟩:=hw'
    subst hw''
    have HBQ:Hid (Below wr.heap.size wr (Go.Sort.grow (redrawn wr dq) osq)):=below_regrown wr dq osq
    clear hN F0 F1 F2 F3 F4 F5 G0 G1 G2 G3 G4 G5
    go_wp2_with fail
    go_ret
    exact ⟨ret_bool h4.out.symm,hbl.trans (HBQ.out.mono hsz)⟩
  ·have h0:Hid (res=true):=H0.out fun j hj=>hz.out j (by omega)
   go_wp2_with fail
   go_ret
   exact ⟨ret_bool h0.out.symm,hbl⟩
set_option maxHeartbeats 400000 in
theorem rises_none (a:Option Addr) (cap:Nat) (fv:Value) (w:World) :
 Calls Tryz.prog 192 #[.slice a 0 cap,fv] w fun e w'=>e=.returned (.bool true)∧w'=w:=by
 go_enter Tryz.func192,Tryz.ntmps192
 go_wp2_with fail
 go_loop [5] (fun i=>i=.int .i64 1) (fun _=>0)
 case atStart=>rfl
 case round=>
  subst hrel
  go_wp2_with fail
  go_ret
  exact ⟨rfl,rfl⟩
set_option maxHeartbeats 800000 in
theorem search_row (ms:List Whe) (b off cap:Nat) (lk:Whe) (w:World) (hr:Row w b off ms) (hb:b < w.heap.size) (hn:ms.length≤40)
 (hmono:∀ i j,i≤j→j < ms.length→ord (ms.getD j dm) lk < 0→ord (ms.getD i dm) lk < 0) :
 Calls Tryz.prog 203 #[.slice (some ⟨b,off,none⟩) ms.length cap,.agg #[.string lk.node,.int .i64 lk.x,.int .i64 lk.y,.int .i64 lk.z,.int .i64 lk.h,.int .i64 lk.s],.func (.func 140) #[] #[]] w fun e w'=>∃ (p:Nat) (f:Bool),e=.returned (.tuple #[.int .i64 p,.bool f])∧Below w.heap.size w w' ∧
  p≤ms.length∧(∀ j,j < p→ord (ms.getD j dm) lk < 0)∧(∀ j,p≤j→j < ms.length→0≤ord (ms.getD j dm) lk)∧(f=true↔p < ms.length∧ord (ms.getD p dm) lk=0):=by
 have HR:Hid (Row w b off ms):=hr
 clear hr
 have HM:Hid (∀ i j,i≤j→j < ms.length→ord (ms.getD j dm) lk < 0→ord (ms.getD i dm) lk < 0):=hmono
 clear hmono
 generalize hN:ms.length=n at *
 have HN:Hid (ms.length=n):=hN
 clear hN
 go_enter Tryz.func203,Tryz.ntmps203
 go_wp2_with fail
 obtain ⟨W0,hW0⟩:∃ W0,W0=w.alloc (.cells #[.string lk.node,.int .i64 lk.x,.int .i64 lk.y,.int .i64 lk.z,.int .i64 lk.h,.int .i64 lk.s] 109):=⟨_,rfl⟩
 have hb0:Below w.heap.size w W0:=by rw [hW0];exact (Below.refl _ _).alloc (Nat.le_refl _) _
 have hg0:W0.heap[w.heap.size]?=some (.cells #[.string lk.node,.int .i64 lk.x,.int .i64 lk.y,.int .i64 lk.z,.int .i64 lk.h,.int .i64 lk.s] 109 (0,0)):=by rw [hW0];exact heap_alloc_new w _
 have hs0:W0.heap.size=w.heap.size+1:=by rw [hW0];simp
 have HR0:Hid (Row W0 b off ms):=HR.out.later hb0 hb
 have hT:∀ o,W0.cell? ⟨w.heap.size,o,none⟩=#[.string lk.node,.int .i64 lk.x,.int .i64 lk.y,.int .i64 lk.z,.int .i64 lk.h,.int .i64 lk.s][o]?:=fun o=>cellsAt hg0 o
 have HT:Hid (∀ o,W0.cell? ⟨w.heap.size,o,none⟩=#[.string lk.node,.int .i64 lk.x,.int .i64 lk.y,.int .i64 lk.z,.int .i64 lk.h,.int .i64 lk.s][o]?):=hT
 have HB0:Hid (Below w.heap.size w W0):=hb0
 have HW0:Hid (W0=w.alloc (.cells #[.string lk.node,.int .i64 lk.x,.int .i64 lk.y,.int .i64 lk.z,.int .i64 lk.h,.int .i64 lk.s] 109)):=hW0
 clear hT hg0 hb0 HR hW0
 have hb':b < w.heap.size+1:=by omega
 go_loopw [9,10] (fun i j w'=>∃ k l:Nat,k≤l∧l≤n∧i=.int .i64 k∧j=.int .i64 l∧Below (w.heap.size+1) W0 w'∧Hid (∀ j,j < k→ord (ms.getD j dm) lk < 0)∧Hid (∀ j,l≤j→j < n→0≤ord (ms.getD j dm) lk)) (fun i j _=>(intOf j).toNat - (intOf i).toNat)
 case atStart=>exact ⟨0,n,Nat.zero_le _,Nat.le_refl _,rfl,rfl,by rw [HW0.out];exact Below.refl _ _,fun j h=>absurd h (Nat.not_lt_zero _),fun j h1 h2=>by omega⟩
 case round=>
  obtain ⟨k,l,hkl,hln,rfl,rfl,hbl,hlo,hhi⟩:=hrel
  have hsz:=hbl.size
  have hbc:∀ b o,b < w.heap.size+1→wr.cell? ⟨b,o,none⟩=W0.cell? ⟨b,o,none⟩:=fun b o h=>hbl.cell (p:=⟨b,o,none⟩) h
  have G0:∀ d os,(Go.Sort.grow (redrawn wr d) os).cell? ⟨w.heap.size,0,none⟩=some (.string lk.node):=cell_regrown ((hbc _ _ (by omega)).trans (HT.out 0))
  have G1:∀ d os,(Go.Sort.grow (redrawn wr d) os).cell? ⟨w.heap.size,1,none⟩=some (.int .i64 lk.x):=cell_regrown ((hbc _ _ (by omega)).trans (HT.out 1))
  have G2:∀ d os,(Go.Sort.grow (redrawn wr d) os).cell? ⟨w.heap.size,2,none⟩=some (.int .i64 lk.y):=cell_regrown ((hbc _ _ (by omega)).trans (HT.out 2))
  have G3:∀ d os,(Go.Sort.grow (redrawn wr d) os).cell? ⟨w.heap.size,3,none⟩=some (.int .i64 lk.z):=cell_regrown ((hbc _ _ (by omega)).trans (HT.out 3))
  have G4:∀ d os,(Go.Sort.grow (redrawn wr d) os).cell? ⟨w.heap.size,4,none⟩=some (.int .i64 lk.h):=cell_regrown ((hbc _ _ (by omega)).trans (HT.out 4))
  have G5:∀ d os,(Go.Sort.grow (redrawn wr d) os).cell? ⟨w.heap.size,5,none⟩=some (.int .i64 lk.s):=cell_regrown ((hbc _ _ (by omega)).trans (HT.out 5))
  by_cases hlt:k < l
  ·obtain ⟨h,hh,h1,h2⟩:∃ h:Nat,((k:Int)+(l:Int)) / 2=(h:Int)∧k≤h∧h < l:=⟨(k+l) / 2,by omega,by omega,by omega⟩
   obtain ⟨c0,c1,c2,c3,c4,c5⟩:=HR0.out h (by rw [HN.out];omega)
   have hm1:=HM.out
   have HK:Hid (ord (ms.getD h dm) lk < 0→∀ j,j < h+1→ord (ms.getD j dm) lk < 0):=fun hx j hj=>hm1 j h (by omega) (by omega) hx
   have HL:Hid (0≤ord (ms.getD h dm) lk→∀ j,h≤j→j < n→0≤ord (ms.getD j dm) lk):=fun hx j hj hjn=>by
    apply Int.not_lt.1
    intro hq
    have:=hm1 h j hj hjn hq
    omega
   clear hm1
   have hhn:h < n:=by omega
   generalize ms.getD h dm=m at *
   have hO:∀ d os,Calls Tryz.prog 140 #[.agg #[.string m.node,.int .i64 m.x,.int .i64 m.y,.int .i64 m.z,.int .i64 m.h,.int .i64 m.s],.agg #[.string lk.node,.int .i64 lk.x,.int .i64 lk.y,.int .i64 lk.z,.int .i64 lk.h,.int .i64 lk.s]] (Go.Sort.grow (redrawn wr d) os) fun e w''=>e=.returned (.int .i64 (ord m lk))∧∃ p:Regrown,w''=Go.Sort.grow (redrawn wr p.d) p.os:=fun d os=>Calls.regrown_of (order_any m lk _)
   have F0:∀ d os,(Go.Sort.grow (redrawn wr d) os).cell? ⟨b,off+h * 6,none⟩=some (.string m.node):=cell_regrown ((hbc _ _ hb').trans c0)
   have F1:∀ d os,(Go.Sort.grow (redrawn wr d) os).cell? ⟨b,off+h * 6+1,none⟩=some (.int .i64 m.x):=cell_regrown ((hbc _ _ hb').trans c1)
   have F2:∀ d os,(Go.Sort.grow (redrawn wr d) os).cell? ⟨b,off+h * 6+2,none⟩=some (.int .i64 m.y):=cell_regrown ((hbc _ _ hb').trans c2)
   have F3:∀ d os,(Go.Sort.grow (redrawn wr d) os).cell? ⟨b,off+h * 6+3,none⟩=some (.int .i64 m.z):=cell_regrown ((hbc _ _ hb').trans c3)
   have F4:∀ d os,(Go.Sort.grow (redrawn wr d) os).cell? ⟨b,off+h * 6+4,none⟩=some (.int .i64 m.h):=cell_regrown ((hbc _ _ hb').trans c4)
   have F5:∀ d os,(Go.Sort.grow (redrawn wr d) os).cell? ⟨b,off+h * 6+5,none⟩=some (.int .i64 m.s):=cell_regrown ((hbc _ _ hb').trans c5)
   clear c0 c1 c2 c3 c4 c5 hbc
   generalize ord m lk=r at *
   by_cases hlt2:r < 0
   ·go_wp2_with fail
    refine wp_region_quiet_below (by kernel_rfl) (by kernel_rfl) ?_
    repeat (quiet_step (exact hO _ _))
    refine wpQuiet_nil ?_
    intro _ hw'
    obtain ⟨⟨dq,osq⟩,hw''⟩:=hw'
    subst hw''
    have HBQ:Hid (Below wr.heap.size wr (Go.Sort.grow (redrawn wr dq) osq)):=below_regrown wr dq osq
    clear hO F0 F1 F2 F3 F4 F5 G0 G1 G2 G3 G4 G5
    go_wp2_with fail
    exact ⟨⟨h+1,l,by omega,by omega,by go_num,rfl,hbl.trans (HBQ.out.mono (by omega)),HK.out hlt2,hhi⟩,by simp [intOf];omega⟩
   ·have hlt3:0≤r:=by omega
    go_wp2_with fail
    refine wp_region_quiet_below (by kernel_rfl) (by kernel_rfl) ?_
    repeat (quiet_step (exact hO _ _))
    refine wpQuiet_nil ?_
    intro _ hw'
    obtain ⟨⟨dq,osq⟩,hw''⟩:=hw'
    subst hw''
    have HBQ:Hid (Below wr.heap.size wr (Go.Sort.grow (redrawn wr dq) osq)):=below_regrown wr dq osq
    clear hO F0 F1 F2 F3 F4 F5 G0 G1 G2 G3 G4 G5
    go_wp2_with fail
    exact ⟨⟨k,h,by omega,by omega,rfl,rfl,hbl.trans (HBQ.out.mono (by omega)),hlo,HL.out hlt3⟩,by simp [intOf];omega⟩
  ·have hkl':l=k:=by omega
   subst hkl'
   by_cases hkn:l < n
   ·obtain ⟨c0,c1,c2,c3,c4,c5⟩:=HR0.out l (by rw [HN.out];omega)
    generalize hm:ms.getD l dm=m at *
    have Hm:Hid (ms.getD l dm=m):=hm
    clear hm
    have hO:∀ d os,Calls Tryz.prog 140 #[.agg #[.string m.node,.int .i64 m.x,.int .i64 m.y,.int .i64 m.z,.int .i64 m.h,.int .i64 m.s],.agg #[.string lk.node,.int .i64 lk.x,.int .i64 lk.y,.int .i64 lk.z,.int .i64 lk.h,.int .i64 lk.s]] (Go.Sort.grow (redrawn wr d) os) fun e w''=>e=.returned (.int .i64 (ord m lk))∧∃ p:Regrown,w''=Go.Sort.grow (redrawn wr p.d) p.os:=fun d os=>Calls.regrown_of (order_any m lk _)
    have F0:∀ d os,(Go.Sort.grow (redrawn wr d) os).cell? ⟨b,off+l * 6,none⟩=some (.string m.node):=cell_regrown ((hbc _ _ hb').trans c0)
    have F1:∀ d os,(Go.Sort.grow (redrawn wr d) os).cell? ⟨b,off+l * 6+1,none⟩=some (.int .i64 m.x):=cell_regrown ((hbc _ _ hb').trans c1)
    have F2:∀ d os,(Go.Sort.grow (redrawn wr d) os).cell? ⟨b,off+l * 6+2,none⟩=some (.int .i64 m.y):=cell_regrown ((hbc _ _ hb').trans c2)
    have F3:∀ d os,(Go.Sort.grow (redrawn wr d) os).cell? ⟨b,off+l * 6+3,none⟩=some (.int .i64 m.z):=cell_regrown ((hbc _ _ hb').trans c3)
    have F4:∀ d os,(Go.Sort.grow (redrawn wr d) os).cell? ⟨b,off+l * 6+4,none⟩=some (.int .i64 m.h):=cell_regrown ((hbc _ _ hb').trans c4)
    have F5:∀ d os,(Go.Sort.grow (redrawn wr d) os).cell? ⟨b,off+l * 6+5,none⟩=some (.int .i64 m.s):=cell_regrown ((hbc _ _ hb').trans c5)
    clear c0 c1 c2 c3 c4 c5 hbc
    generalize hrr:ord m lk=r at *
    have Hr:Hid (ord m lk=r):=hrr
    clear hrr
    go_wp2_with fail
    refine wp_region_quiet_below (by kernel_rfl) (by kernel_rfl) ?_
    repeat (quiet_step (exact hO _ _))
    refine wpQuiet_nil ?_
    intro _ hw'
    obtain ⟨⟨dq,osq⟩,hw''⟩:=hw'
    subst hw''
    have HBQ:Hid (Below wr.heap.size wr (Go.Sort.grow (redrawn wr dq) osq)):=below_regrown wr dq osq
    clear hO F0 F1 F2 F3 F4 F5 G0 G1 G2 G3 G4 G5
    go_wp2_with fail
    go_ret2
    refine ⟨l,_,rfl,HB0.out.trans ((hbl.trans (HBQ.out.mono (by omega))).mono (by omega)),by omega,hlo.out,hhi.out,?_⟩
    rw [Hm.out,Hr.out]
    simp [hkn]
   ·clear G0 G1 G2 G3 G4 G5
    have hkd:decide ((l:Int) < (n:Int))=false:=by simp;omega
    go_wp2_with fail
    go_quiet (fail)
    go_wp2_with fail
    go_ret2
    refine ⟨l,_,rfl,HB0.out.trans ((below_drewN hbl _).mono (by omega)),by omega,hlo.out,hhi.out,?_⟩
    simp [hkn]
set_option maxHeartbeats 800000 in
theorem search_none (a:Option Addr) (cap:Nat) (lk:Whe) (fv:Value) (w:World) :
 Calls Tryz.prog 203 #[.slice a 0 cap,.agg #[.string lk.node,.int .i64 lk.x,.int .i64 lk.y,.int .i64 lk.z,.int .i64 lk.h,.int .i64 lk.s],fv] w fun e w'=>e=.returned (.tuple #[.int .i64 0,.bool false])∧Below w.heap.size w w':=by
 go_enter Tryz.func203,Tryz.ntmps203
 go_wp2_with fail
 go_loop [9,10] (fun i j=>i=.int .i64 0∧j=.int .i64 0) (fun _ _=>0)
 case atStart=>exact ⟨rfl,rfl⟩
 case round=>
  obtain ⟨rfl,rfl⟩:=hrel
  go_wp2_with fail
  go_quiet (fail)
  go_wp2_with fail
  go_ret2
  exact ⟨rfl,below_drewN ((Below.refl _ _).alloc (Nat.le_refl _) _) _⟩
theorem bsearch_any (ms:List Whe) (v:Value) (lk:Whe) (w:World) (h:Sl w v ms) (hn:ms.length≤40)
 (hmono:∀ i j,i≤j→j < ms.length→ord (ms.getD j dm) lk < 0→ord (ms.getD i dm) lk < 0) :
 Calls Tryz.prog 203 #[v,.agg #[.string lk.node,.int .i64 lk.x,.int .i64 lk.y,.int .i64 lk.z,.int .i64 lk.h,.int .i64 lk.s],.func (.func 140) #[] #[]] w fun e w'=>∃ (p:Nat) (f:Bool),e=.returned (.tuple #[.int .i64 p,.bool f])∧Below w.heap.size w w'∧At ms lk p f:=by
 obtain ⟨a,cap,rfl,hs,h⟩:=h
 rcases h with rfl | ⟨b,off,rfl,hb,hr⟩
 ·refine (search_none a cap lk _ w).mono ?_
  rintro e w' ⟨rfl,hb⟩
  exact ⟨0,false,rfl,hb,⟨by simp,fun j h=>by omega,fun j h h2=>by simp at h2,by simp⟩⟩
 ·refine (search_row ms b off cap lk w hr hb hn hmono).mono ?_
  rintro e w' ⟨p,f,rfl,hbl,g1,g2,g3,g4⟩
  exact ⟨p,f,rfl,hbl,⟨g1,g2,g3,g4⟩⟩
set_option maxHeartbeats 400000 in
theorem find_any (ms:List Whe) (v:Value) (lk:Whe) (w:World) (h:Sl w v ms) (hn:ms.length≤40) (hr:Rise ms) :
 Calls Tryz.prog 139 #[v,.agg #[.string lk.node,.int .i64 lk.x,.int .i64 lk.y,.int .i64 lk.z,.int .i64 lk.h,.int .i64 lk.s],.func (.func 140) #[] #[]] w fun e w'=>∃ (p:Nat) (f:Bool),e=.returned (.tuple #[.int .i64 p,.bool f])∧Below w.heap.size w w'∧At ms lk p f:=by
 have HC:Hid (∀ w',Below w.heap.size w w'→Calls Tryz.prog 203 #[v,.agg #[.string lk.node,.int .i64 lk.x,.int .i64 lk.y,.int .i64 lk.z,.int .i64 lk.h,.int .i64 lk.s],.func (.func 140) #[] #[]] w' fun e w''=>∃ (p:Nat) (f:Bool),e=.returned (.tuple #[.int .i64 p,.bool f])∧Below w'.heap.size w' w''∧At ms lk p f):=
  fun w' hb=>bsearch_any ms v lk w' (h.below hb) hn (rise_mono hr lk)
 clear h hn hr
 go_enter Tryz.func139,Tryz.ntmps139
 go_wp2_with (go_at_call 203;refine (HC.out _ ?hb).mono ?_)
 case hb=>exact (Below.refl _ _).alloc (Nat.le_refl _) _
 rintro e w' ⟨p,f,rfl,hbl,hat⟩
 have HAT:Hid (At ms lk p f):=hat
 clear hat
 go_wp2_with fail
 go_ret2
 exact ⟨p,f,rfl,((Below.refl _ _).alloc (Nat.le_refl _) _).trans (hbl.mono (by simp)),HAT.out⟩
end Wh
namespace Wh
open Go.RowKit
theorem stg_len {a b:List Whe} (hla:a.length≤20) (hlb:b.length≤20) (k:Nat):(stg a b k).length≤40:=by
 unfold stg
 split
 ·simp
 ·split
  ·omega
  ·have:=joinL_len b a;omega
structure Kth (w:World) (pb:Nat) (a b:List Whe) (k:Nat) (l:List Whe) (pk:Option Addr) (ck:Nat):Prop where
 cell:w.cell? ⟨pb,k,none⟩=some (.slice pk l.length ck)
 row:l=[]∨∃ b off,pk=some ⟨b,off,none⟩∧b < w.heap.size∧Row w b off l
 oks:∀ m∈l,(m).ok
 len:l.length≤20
 len0:(stg a b k).length≤20
 rise0:Rise (stg a b k)
 oks0:∀ m∈stg a b k,(m).ok
 step:stg a b (k+1)=joinL (stg a b k) l
theorem kth_of {a b:List Whe} {va vb:Value} {pb:Nat} {w:World} (ha:Sl w va a) (hb:Sl w vb b) (hc0:w.cell? ⟨pb,0,none⟩=some va) (hc1:w.cell? ⟨pb,1,none⟩=some vb) (hla:a.length≤20) (hlb:b.length≤20) (ra:Rise a) (k:Nat) (hk:k < 2) :
 ∃ l pk ck,Kth w pb a b k l pk ck:=by
 obtain ⟨pa,ca,rfl,nsa,ha⟩:=ha
 obtain ⟨pv,cb,rfl,nsb,hb⟩:=hb
 have hcases:k=0∨k=1:=by omega
 rcases hcases with rfl | rfl
 ·exact ⟨a,pa,ca,hc0,ha,ns_mem nsa,hla,by simp [stg],by simp [stg],by simp [stg],(joinL_nil a ra).symm⟩
 ·exact ⟨b,pv,cb,hc1,hb,ns_mem nsb,hlb,hla,ra,ns_mem nsa,rfl⟩
set_option maxHeartbeats 4000000 in
set_option maxRecDepth 100000 in
theorem rjoin_two (a b:List Whe) (va vb:Value) (pb cap:Nat) (w:World) (ha:Sl w va a) (hb:Sl w vb b) (hpb:pb < w.heap.size) (hc0:w.cell? ⟨pb,0,none⟩=some va) (hc1:w.cell? ⟨pb,1,none⟩=some vb)
 (hla:a.length≤20) (hlb:b.length≤20) (ra:Rise a) :
 Calls Tryz.prog 258 #[.func (.func 140) #[] #[],.func (.func 257) #[] #[],.slice (some ⟨pb,0,none⟩) 2 cap] w fun e w'=>∃ v',e=.returned v'∧Own w.heap.size w' v' (joinL a b)∧Below w.heap.size w w':=by
 have HK:Hid (∀ k,k < 2→∃ l pk ck,Kth w pb a b k l pk ck):=fun k hk=>kth_of ha hb hc0 hc1 hla hlb ra k hk
 have HL2:Hid (∀ k,(stg a b k).length≤40):=stg_len hla hlb
 clear ha hb hc0 hc1 hla hlb ra
 go_enter Tryz.func258,Tryz.ntmps258
 go_wp2_with fail
 go_loopw [7,16] (fun kn i w'=>∃ k:Nat,k≤2∧i=.int .i64 k∧Below w.heap.size w w'∧Hid (Own w.heap.size w' kn (stg a b k))) (fun _ i _=>2 - (intOf i).toNat)
 case atStart=>exact ⟨0,by omega,rfl,Below.refl _ _,own_nil _ _⟩
 case round=>
  obtain ⟨k,hk,rfl,hbl,HO⟩:=hrel
  obtain ⟨hbc,hbf⟩:=bcell hbl
  have hsz:=hbl.size
  by_cases hk2:k < 2
  ·obtain ⟨l,pk,ck,hKth⟩:=HK.out k hk2
   have HKT:Hid (Kth w pb a b k l pk ck):=hKth
   have hcell:=hKth.cell
   clear hKth
   generalize hnl:l.length=nl at *
   have HNL:Hid (l.length=nl):=hnl
   clear hnl
   have hnl40:nl≤20:=by have:=HKT.out.len;have:=HNL.out;omega
   have hk2':(k:Int) < 2:=by omega
   go_wp2_with fail
   go_loopw [7,22] (fun kn j w'=>∃ q:Nat,q≤nl∧j=.int .i64 q∧Below w.heap.size w w'∧Hid (Own w.heap.size w' kn (joinL (stg a b k) (l.take q)))) (fun _ j _=>nl - (intOf j).toNat)
   case atStart=>exact ⟨0,Nat.zero_le _,rfl,hbl,HO⟩
   case round=>
    clear hbc hbf hsz hbl HO hcell
    obtain ⟨q,hq,rfl,hbl,HO⟩:=hrel
    obtain ⟨hbc,hbf⟩:=bcell hbl
    have hsz:=hbl.size
    by_cases hlt:q < nl
    ·obtain ⟨b2,off,hptr,hpl,hrow⟩:∃ b_1 off,pk=some ⟨b_1,off,none⟩∧b_1 < w.heap.size∧Row w b_1 off l:=by
      rcases HKT.out.row with h | h
      ·have:=HNL.out;rw [h] at this;simp at this;omega
      ·exact h
     subst hptr
     obtain ⟨c0,c1,c2,c3,c4,c5⟩:=hrow q (by rw [HNL.out];exact hlt)
     clear hrow
     have HJ:Hid (joinL (stg a b k) (l.take (q+1))=hearL (joinL (stg a b k) (l.take q)) (l.getD q dm)):=joinL_take (stg a b k) l q (by rw [HNL.out];exact hlt)
     have HR:Hid (Rise (joinL (stg a b k) (l.take q))):=joinL_rise _ _ HKT.out.rise0
     have HNs:Hid (∀ j,((joinL (stg a b k) (l.take q)).getD j dm).ok):=ns_get (ns_join _ _ HKT.out.oks0 (fun x hx=>HKT.out.oks x (List.mem_of_mem_take hx)))
     have HL:Hid ((joinL (stg a b k) (l.take q)).length≤40):=by
      have h1:=joinL_len (l.take q) (stg a b k)
      have h2:(l.take q).length≤q:=List.length_take_le _ _
      have h3:=HKT.out.len0
      show (joinL (stg a b k) (l.take q)).length≤40
      omega
     generalize l.getD q dm=m at *
     generalize joinL (stg a b k) (l.take q)=known at *
     have hl40:known.length≤40:=HL.out
     obtain ⟨W1,hW1⟩:∃ W1,W1=wr.alloc (.cells #[.string m.node,.int .i64 m.x,.int .i64 m.y,.int .i64 m.z,.int .i64 m.h,.int .i64 m.s] 109):=⟨_,rfl⟩
     have hb1:Below wr.heap.size wr W1:=by rw [hW1];exact (Below.refl _ _).alloc (Nat.le_refl _) _
     have hs1:W1.heap.size=wr.heap.size+1:=by rw [hW1];simp
     have hg1:W1.heap[wr.heap.size]?=some (.cells #[.string m.node,.int .i64 m.x,.int .i64 m.y,.int .i64 m.z,.int .i64 m.h,.int .i64 m.s] 109 (0,0)):=by rw [hW1];exact heap_alloc_new wr _
     have HO1:Hid (Own w.heap.size W1 u7 known):=HO.out.below hb1
     have HF:Hid (Calls Tryz.prog 139 #[u7,.agg #[.string m.node,.int .i64 m.x,.int .i64 m.y,.int .i64 m.z,.int .i64 m.h,.int .i64 m.s],.func (.func 140) #[] #[]] W1 fun e w'=>∃ (p:Nat) (f:Bool),e=.returned (.tuple #[.int .i64 p,.bool f])∧Below W1.heap.size W1 w'∧At known m p f):=
      find_any known u7 m W1 (HO1.out.sl HNs.out) HL.out HR.out
     have HB1:Hid (Below w.heap.size w W1):=hbl.trans (hb1.mono hsz)
     have HT:Hid (∀ o,W1.cell? ⟨wr.heap.size,o,none⟩=#[.string m.node,.int .i64 m.x,.int .i64 m.y,.int .i64 m.z,.int .i64 m.h,.int .i64 m.s][o]?):=fun o=>cellsAt hg1 o
     have HW1:Hid (W1=wr.alloc (.cells #[.string m.node,.int .i64 m.x,.int .i64 m.y,.int .i64 m.z,.int .i64 m.h,.int .i64 m.s] 109)):=hW1
     have hs1':w.heap.size≤W1.heap.size:=by omega
     clear hg1 hb1 HO HL HR hW1
     go_wp2_with fail
     rw [← HW1.out]
     refine HF.out.mono ?_
     rintro e w2 ⟨p,f,rfl,hb2,hat⟩
     have HAT:Hid (At known m p f):=hat
     have hpl2:p≤known.length:=hat.le
     have hsz2:=hb2.size
     have HO2:Hid (Own w.heap.size w2 u7 known):=HO1.out.below hb2
     have HB2:Hid (Below w.heap.size w w2):=HB1.out.trans (hb2.mono hs1')
     have t0:w2.cell? ⟨wr.heap.size,0,none⟩=some (.string m.node):=(hb2.cell (p:=⟨wr.heap.size,0,none⟩) (by show wr.heap.size < W1.heap.size;omega)).trans (HT.out 0)
     have t1:w2.cell? ⟨wr.heap.size,1,none⟩=some (.int .i64 m.x):=(hb2.cell (p:=⟨wr.heap.size,1,none⟩) (by show wr.heap.size < W1.heap.size;omega)).trans (HT.out 1)
     have t2:w2.cell? ⟨wr.heap.size,2,none⟩=some (.int .i64 m.y):=(hb2.cell (p:=⟨wr.heap.size,2,none⟩) (by show wr.heap.size < W1.heap.size;omega)).trans (HT.out 2)
     have t3:w2.cell? ⟨wr.heap.size,3,none⟩=some (.int .i64 m.z):=(hb2.cell (p:=⟨wr.heap.size,3,none⟩) (by show wr.heap.size < W1.heap.size;omega)).trans (HT.out 3)
     have t4:w2.cell? ⟨wr.heap.size,4,none⟩=some (.int .i64 m.h):=(hb2.cell (p:=⟨wr.heap.size,4,none⟩) (by show wr.heap.size < W1.heap.size;omega)).trans (HT.out 4)
     have t5:w2.cell? ⟨wr.heap.size,5,none⟩=some (.int .i64 m.s):=(hb2.cell (p:=⟨wr.heap.size,5,none⟩) (by show wr.heap.size < W1.heap.size;omega)).trans (HT.out 5)
     have hs2:w.heap.size≤w2.heap.size:=by omega
     have hs2':wr.heap.size < w2.heap.size:=by omega
     clear hat HF hbc hbf c0 c1 c2 c3 c4 c5 hb2 HO1 HB1 HT
     cases f
     ·have hne:Hid (u7.ownBlock≠some w2.heap.size):=fun e=>by have:=HO2.out.lt _ e;omega
      have HO3:Hid (Own w.heap.size (w2.alloc (.cells #[.string m.node,.int .i64 m.x,.int .i64 m.y,.int .i64 m.z,.int .i64 m.h,.int .i64 m.s] 109)) u7 known):=HO2.out.below ((Below.refl _ _).alloc (Nat.le_refl _) _)
      have hvb:Hid ((w2.alloc (.cells #[.string m.node,.int .i64 m.x,.int .i64 m.y,.int .i64 m.z,.int .i64 m.h,.int .i64 m.s] 109)).heap[w2.heap.size]?=some (.cells m.cs.toArray 109 (0,0))):=heap_alloc_new w2 _
      go_wp2_with (go_at_call 141;refine (insert_any w.heap.size p w2.heap.size u7 known m _ HO3.out HAT.out.le (by omega) (by simp;omega) hvb.out hne.out).mono ?_;rintro e w4 ⟨v',rfl,g1,g2⟩)
      go_roundw
      case rel=>
       have hfin:∃ q_1:Nat,q_1≤nl∧Value.int .i64 ((q:Int)+1)=.int .i64 q_1∧Below w.heap.size w w4∧Hid (Own w.heap.size w4 v' (joinL (stg a b k) (l.take q_1))):=⟨q+1,by omega,by go_num,below_grown (HB2.out.alloc hs2 _) HO3.out g2 (by simp;omega),by rw [HJ.out,hearL_at known m p false HAT.out];exact g1⟩
       first | exact hfin | ((repeat apply Exists.intro);exact ⟨hfin,rfl⟩)
      case measure=>simp [intOf];omega
     ·have hp:p < known.length:=(HAT.out.is.1 rfl).1
      obtain ⟨g,c,hu⟩:=own_form HO2.out p hp
      subst hu
      obtain ⟨c0,c1,c2,c3,c4,c5⟩:=own_cells HO2.out p hp
      have hgl:=HO2.out.lt g rfl
      have hgl2:g < w2.heap.size:=hgl.2
      generalize hm:known.getD p dm=m2 at *
      have Hm:Hid (known.getD p dm=m2):=hm
      clear hm
      have hN:∀ d os,Calls Tryz.prog 257 #[.agg #[.string m.node,.int .i64 m.x,.int .i64 m.y,.int .i64 m.z,.int .i64 m.h,.int .i64 m.s],.agg #[.string m2.node,.int .i64 m2.x,.int .i64 m2.y,.int .i64 m2.z,.int .i64 m2.h,.int .i64 m2.s]] (Go.Sort.grow (redrawn w2 d) os) fun e w''=>e=.returned (.bool (newE m m2))∧∃ p:Regrown,w''=Go.Sort.grow (redrawn w2 p.d) p.os:=fun d os=>Calls.regrown_of (newerE_any m m2 _)
      have F0:∀ d os,(Go.Sort.grow (redrawn w2 d) os).cell? ⟨g,p * 6,none⟩=some (.string m2.node):=cell_regrown c0
      have F1:∀ d os,(Go.Sort.grow (redrawn w2 d) os).cell? ⟨g,p * 6+1,none⟩=some (.int .i64 m2.x):=cell_regrown c1
      have F2:∀ d os,(Go.Sort.grow (redrawn w2 d) os).cell? ⟨g,p * 6+2,none⟩=some (.int .i64 m2.y):=cell_regrown c2
      have F3:∀ d os,(Go.Sort.grow (redrawn w2 d) os).cell? ⟨g,p * 6+3,none⟩=some (.int .i64 m2.z):=cell_regrown c3
      have F4:∀ d os,(Go.Sort.grow (redrawn w2 d) os).cell? ⟨g,p * 6+4,none⟩=some (.int .i64 m2.h):=cell_regrown c4
      have F5:∀ d os,(Go.Sort.grow (redrawn w2 d) os).cell? ⟨g,p * 6+5,none⟩=some (.int .i64 m2.s):=cell_regrown c5
      have G0:∀ d os,(Go.Sort.grow (redrawn w2 d) os).cell? ⟨wr.heap.size,0,none⟩=some (.string m.node):=cell_regrown t0
      have G1:∀ d os,(Go.Sort.grow (redrawn w2 d) os).cell? ⟨wr.heap.size,1,none⟩=some (.int .i64 m.x):=cell_regrown t1
      have G2:∀ d os,(Go.Sort.grow (redrawn w2 d) os).cell? ⟨wr.heap.size,2,none⟩=some (.int .i64 m.y):=cell_regrown t2
      have G3:∀ d os,(Go.Sort.grow (redrawn w2 d) os).cell? ⟨wr.heap.size,3,none⟩=some (.int .i64 m.z):=cell_regrown t3
      have G4:∀ d os,(Go.Sort.grow (redrawn w2 d) os).cell? ⟨wr.heap.size,4,none⟩=some (.int .i64 m.h):=cell_regrown t4
      have G5:∀ d os,(Go.Sort.grow (redrawn w2 d) os).cell? ⟨wr.heap.size,5,none⟩=some (.int .i64 m.s):=cell_regrown t5
      have hfz:∀ o,w2.frozen? ⟨g,o,none⟩=false:=fun o=>World.ownsRow.frozenAt HO2.out o
      have HFZ:Hid (∀ o,w2.frozen? ⟨g,o,none⟩=false):=hfz
      clear c0 c1 c2 c3 c4 c5 hfz
      have HT:Hid (w2.cell? ⟨wr.heap.size,0,none⟩=some (.string m.node)∧w2.cell? ⟨wr.heap.size,1,none⟩=some (.int .i64 m.x)∧w2.cell? ⟨wr.heap.size,2,none⟩=some (.int .i64 m.y)∧w2.cell? ⟨wr.heap.size,3,none⟩=some (.int .i64 m.z)∧w2.cell? ⟨wr.heap.size,4,none⟩=some (.int .i64 m.h)∧w2.cell? ⟨wr.heap.size,5,none⟩=some (.int .i64 m.s)):=⟨t0,t1,t2,t3,t4,t5⟩
      clear t0 t1 t2 t3 t4 t5
      generalize hnw:newE m m2=nw at *
      have Hnw:Hid (newE m m2=nw):=hnw
      clear hnw
      cases nw
      ·go_wp2_with fail
       refine wp_region_quiet_below (by kernel_rfl) (by kernel_rfl) ?_
       repeat (quiet_step (exact hN _ _))
       refine wpQuiet_nil ?_
       intro _ hw'
       obtain ⟨⟨dq,osq⟩,hw''⟩:=hw'
       subst hw''
       have HBQ:Hid (Below w2.heap.size w2 (Go.Sort.grow (redrawn w2 dq) osq)):=below_regrown w2 dq osq
       clear hN F0 F1 F2 F3 F4 F5 G0 G1 G2 G3 G4 G5
       go_wp2_with fail
       go_roundw
       case rel=>
        have hfin:∃ q_1:Nat,q_1≤nl∧Value.int .i64 ((q:Int)+1)=.int .i64 q_1∧Below w.heap.size w (Go.Sort.grow (redrawn w2 dq) osq)∧Hid (Own w.heap.size (Go.Sort.grow (redrawn w2 dq) osq) (.slice (some ⟨g,0,none⟩) known.length c) (joinL (stg a b k) (l.take q_1))):=⟨q+1,by omega,by go_num,HB2.out.trans (HBQ.out.mono hs2),by rw [HJ.out,hearL_at known m p true HAT.out,if_pos rfl,Hm.out,if_neg (fun h=>Bool.false_ne_true (Hnw.out.symm.trans h))];exact HO2.out.below HBQ.out⟩
        first | exact hfin | ((repeat apply Exists.intro);exact ⟨hfin,rfl⟩)
       case measure=>simp [intOf];omega
      ·go_wp2_with fail
       refine wp_region_quiet_below (by kernel_rfl) (by kernel_rfl) ?_
       repeat (quiet_step (exact hN _ _))
       refine wpQuiet_nil ?_
       intro _ hw'
       obtain ⟨⟨dq,osq⟩,hw''⟩:=hw'
       subst hw''
       have HBQ:Hid (Below w2.heap.size w2 (Go.Sort.grow (redrawn w2 dq) osq)):=below_regrown w2 dq osq
       clear hN F0 F1 F2 F3 F4 F5 G0 G1 G2 G3 G4 G5
       generalize Go.Sort.grow (redrawn w2 dq) osq=w3 at *
       have HO3:Hid (Own w.heap.size w3 (.slice (some ⟨g,0,none⟩) known.length c) known):=HO2.out.below HBQ.out
       obtain ⟨c0,c1,c2,c3,c4,c5⟩:=own_cells HO3.out p hp
       rw [Hm.out] at c0 c1 c2 c3 c4 c5
       have hg3:g < w3.heap.size:=(HO3.out.lt g rfl).2
       have hfz:∀ o,w3.frozen? ⟨g,o,none⟩=false:=fun o=>World.ownsRow.frozenAt HO3.out o
       obtain ⟨t0,t1,t2,t3,t4,t5⟩:=HT.out
       have s0:w3.cell? ⟨wr.heap.size,0,none⟩=some (.string m.node):=(HBQ.out.cell (p:=⟨wr.heap.size,0,none⟩) hs2').trans t0
       have s1:w3.cell? ⟨wr.heap.size,1,none⟩=some (.int .i64 m.x):=(HBQ.out.cell (p:=⟨wr.heap.size,1,none⟩) hs2').trans t1
       have s2:w3.cell? ⟨wr.heap.size,2,none⟩=some (.int .i64 m.y):=(HBQ.out.cell (p:=⟨wr.heap.size,2,none⟩) hs2').trans t2
       have s3:w3.cell? ⟨wr.heap.size,3,none⟩=some (.int .i64 m.z):=(HBQ.out.cell (p:=⟨wr.heap.size,3,none⟩) hs2').trans t3
       have s4:w3.cell? ⟨wr.heap.size,4,none⟩=some (.int .i64 m.h):=(HBQ.out.cell (p:=⟨wr.heap.size,4,none⟩) hs2').trans t4
       have s5:w3.cell? ⟨wr.heap.size,5,none⟩=some (.int .i64 m.s):=(HBQ.out.cell (p:=⟨wr.heap.size,5,none⟩) hs2').trans t5
       clear t0 t1 t2 t3 t4 t5
       go_wp2_with fail
       refine ⟨⟨q+1,by omega,by go_num,?_,?_⟩,by simp [intOf];omega⟩
       ·exact (((((((HB2.out.trans (HBQ.out.mono hs2)).setCell (p:=⟨g,p * 6,none⟩) hgl.1 (.string m.node)).setCell (p:=⟨g,p * 6+1,none⟩) hgl.1 (.int .i64 m.x)).setCell (p:=⟨g,p * 6+2,none⟩) hgl.1 (.int .i64 m.y)).setCell (p:=⟨g,p * 6+3,none⟩) hgl.1 (.int .i64 m.z)).setCell (p:=⟨g,p * 6+4,none⟩) hgl.1 (.int .i64 m.h)).setCell (p:=⟨g,p * 6+5,none⟩) hgl.1 (.int .i64 m.s))
       ·rw [HJ.out,hearL_at known m p true HAT.out,if_pos rfl,Hm.out,if_pos Hnw.out]
        exact own_set HO3.out hp m
    ·have hqn:q=nl:=by omega
     subst hqn
     have HO3:Hid (Own w.heap.size wr u7 (stg a b (k+1))):=by
      have h:=HO.out
      rw [List.take_of_length_le (by rw [HNL.out];exact Nat.le_refl _)] at h
      rw [HKT.out.step];exact h
     go_wp2_with fail
     go_roundw
     case rel=>exact ⟨k+1,by omega,by go_num,hbl,HO3⟩
     case measure=>simp [intOf];omega
  ·have hk3:k=2:=by omega
   subst hk3
   go_wp2_with fail
   go_ret
   exact ⟨_,rfl,HO.out,hbl⟩
end Wh
end Go.Proofs.YtffdoiokmiklgaaGreatDoor
