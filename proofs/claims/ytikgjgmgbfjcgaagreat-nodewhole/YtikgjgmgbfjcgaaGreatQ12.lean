import Derived.Test.YtikgjgmgbfjcgaaGreatQ2
import Derived.Test.YtikgjgmgbfjcgaaGreatQ3
import Derived.Test.YtikgjgmgbfjcgaaGreatQ5
import Derived.Test.YtikgjgmgbfjcgaaGreatQ7
import Derived.Test.YtikgjgmgbfjcgaaGreatQ8
import Derived.Test.YtikgjgmgbfjcgaaGreatQ10
import Derived.Test.YtikgjgmgbfjcgaaGreatQ11
import Derived.Lib.QuietBelow
namespace Go.Proofs.YtikgjgmgbfjcgaaGreat
namespace Wh
open Go.RowKit
def ord (a b:Whe):Int:=cmpI a.node b.node
theorem keyed:RL.Keyed ord:=RL.keyed_txt Whe.node
def newE (_ _:Whe):Bool:=true
abbrev Rise (ms:List Whe):Prop:=RL.Rise ord ms
abbrev hearL (ms:List Whe) (m:Whe):List Whe:=RL.hear ord newE ms m
abbrev joinL (a b:List Whe):List Whe:=RL.join ord newE a b
abbrev At (ms:List Whe) (t:Whe) (p:Nat) (f:Bool):Prop:=RL.At ord dm ms t p f
abbrev risesB (ms:List Whe):Bool:=RL.risesB ord ms
theorem rise_mono {ms:List Whe} (h:Rise ms) (t:Whe):∀ i j,i≤j→j < ms.length→ord (ms.getD j dm) t < 0→ord (ms.getD i dm) t < 0:=RL.rise_mono ord dm keyed h t
theorem rises_allO (ms:List Whe) (h:∀ j,j+1 < ms.length→ord (ms.getD j dm) (ms.getD (j+1) dm) < 0):risesB ms=true:=RL.rises_all ord dm ms h
theorem rises_getO (ms:List Whe) (h:risesB ms=true):∀ j,j+1 < ms.length→ord (ms.getD j dm) (ms.getD (j+1) dm) < 0:=RL.rises_get ord dm ms h
theorem at_any (ms:List Whe) (hr:Rise ms) (t:Whe):∃ p f,At ms t p f:=RL.at_any ord dm keyed ms hr t
theorem at_uniq {ms:List Whe} {t:Whe} {p q:Nat} {f e:Bool} (h:At ms t p f) (k:At ms t q e):p=q∧f=e:=RL.at_uniq ord dm h k
theorem hearL_at (ms:List Whe) (m:Whe) (p:Nat) (f:Bool) (h:At ms m p f) :
 hearL ms m=if f=true then (if newE m (ms.getD p dm)=true then ms.set p m else ms) else ms.take p++m :: ms.drop p:=RL.hear_at ord newE dm ms m p f h
theorem hearL_mem (ms:List Whe) (m x:Whe) (h:x∈hearL ms m):x=m∨x∈ms:=RL.hear_mem ord newE ms m x h
theorem hearL_rise (ms:List Whe) (m:Whe) (h:Rise ms):Rise (hearL ms m):=RL.hear_rise ord newE keyed ms m h
theorem hearL_len (ms:List Whe) (m:Whe):ms.length≤(hearL ms m).length∧(hearL ms m).length≤ms.length+1:=RL.hear_len ord newE ms m
theorem joinL_rise (b a:List Whe) (h:Rise a):Rise (joinL a b):=RL.join_rise ord newE keyed b a h
theorem joinL_len (b a:List Whe):(joinL a b).length≤a.length+b.length:=RL.join_len ord newE b a
theorem joinL_mem (b a:List Whe) (x:Whe) (h:x∈joinL a b):x∈a∨x∈b:=RL.join_mem ord newE b a x h
theorem joinL_take (a b:List Whe) (j:Nat) (hj:j < b.length):joinL a (b.take (j+1))=hearL (joinL a (b.take j)) (b.getD j dm):=RL.join_take ord newE dm a b j hj
theorem joinL_nil (b:List Whe) (h:Rise b):joinL [] b=b:=RL.join_nil ord newE b h
theorem ns_hear {ms:List Whe} {m:Whe} (h:∀ m∈ms,m.ok) (hm:m.ok):∀ x∈hearL ms m,x.ok:=by
 intro x hx
 rcases hearL_mem ms m x hx with rfl | hx
 ·exact hm
 ·exact h x hx
theorem ns_join (b a:List Whe) (ha:∀ m∈a,m.ok) (hb:∀ m∈b,m.ok):∀ x∈joinL a b,x.ok:=by
 intro x hx
 rcases joinL_mem b a x hx with h | h
 ·exact ha x h
 ·exact hb x h
def Whe.e (m:Whe):Int:=if labB m.node=true then chkP ⟨m.x,m.y,m.z,m.h,m.s⟩ else 1
def firstE:List Whe→Int
 | []=>0
 | m :: r=>if m.e=0 then firstE r else m.e
theorem firstE_zero:∀ (ms:List Whe),(∀ j,j < ms.length→(ms.getD j dm).e=0)→firstE ms=0
 | [],_=>rfl
 | m :: r,h=>by
   have h0:=h 0 (by simp)
   simp only [List.getD_cons_zero] at h0
   rw [firstE,if_pos h0]
   exact firstE_zero r fun j hj=>by have:=h (j+1) (by simpa using hj);simpa using this
theorem firstE_at:∀ (ms:List Whe) (k:Nat),k < ms.length→(∀ j,j < k→(ms.getD j dm).e=0)→(ms.getD k dm).e≠0→firstE ms=(ms.getD k dm).e
 | [],k,h,_,_=>by simp at h
 | m :: r,0,_,_,hne=>by
   simp only [List.getD_cons_zero] at hne ⊢
   rw [firstE,if_neg hne]
 | m :: r,k+1,h,hz,hne=>by
   have h0:=hz 0 (by omega)
   simp only [List.getD_cons_zero] at h0
   rw [firstE,if_pos h0,List.getD_cons_succ]
   rw [List.getD_cons_succ] at hne
   exact firstE_at r k (by simpa using h) (fun j hj=>by have:=hz (j+1) (by omega);simpa using this) hne
theorem firstE_mem:∀ (ms:List Whe),firstE ms=0→∀ m∈ms,m.e=0
 | [],_,m,hm=>by simp at hm
 | x :: r,h,m,hm=>by
   rw [firstE] at h
   split at h
   ·rename_i hx
    rcases List.mem_cons.1 hm with rfl | hm
    ·exact hx
    ·exact firstE_mem r h m hm
   ·rename_i hx;exact absurd h hx
theorem firstE_all:∀ (ms:List Whe),(∀ m∈ms,m.e=0)→firstE ms=0
 | [],_=>rfl
 | x :: r,h=>by rw [firstE,if_pos (h x (by simp))];exact firstE_all r fun m hm=>h m (by simp [hm])
def chk (ms:List Whe):Int:=if 20 < ms.length then 2 else if firstE ms=0 then (if risesB ms=true then 0 else 4) else firstE ms
theorem chk_e (ms:List Whe) (k:Nat) (hn:ms.length≤20) (hk:k < ms.length) (hz:∀ j,j < k→(ms.getD j dm).e=0) (hne:(ms.getD k dm).e≠0):chk ms=(ms.getD k dm).e:=by
 have h:=firstE_at ms k hk hz hne
 rw [chk,if_neg (by omega),h,if_neg hne]
theorem chk_r (ms:List Whe) (hn:ms.length≤20) (hz:∀ j,j < ms.length→(ms.getD j dm).e=0):chk ms=if risesB ms=true then 0 else 4:=by
 rw [chk,if_neg (by omega),firstE_zero ms hz,if_pos rfl]
theorem chk_4 (ms:List Whe) (k:Nat) (hn:ms.length≤20) (hz:∀ j,j < ms.length→(ms.getD j dm).e=0) (hk:k+1 < ms.length) (hl:¬ ord (ms.getD k dm) (ms.getD (k+1) dm) < 0):chk ms=4:=by
 rw [chk_r ms hn hz,if_neg]
 intro h
 exact hl (rises_getO ms h k hk)
theorem chk_0 (ms:List Whe) (hn:ms.length≤20) (hz:∀ j,j < ms.length→(ms.getD j dm).e=0) (hl:∀ j,j+1 < ms.length→ord (ms.getD j dm) (ms.getD (j+1) dm) < 0):chk ms=0:=by
 rw [chk_r ms hn hz,if_pos (rises_allO ms hl)]
theorem chk_zero {ms:List Whe} (h:chk ms=0):ms.length≤20∧Rise ms∧firstE ms=0:=by
 unfold chk at h
 split at h
 ·omega
 ·split at h
  ·rename_i h1 h2
   split at h
   ·rename_i h3
    exact ⟨by omega,RL.rise_of ord keyed ms h3,h2⟩
   ·omega
  ·rename_i h1 h2;exact absurd h h2
theorem chk_of {ms:List Whe} (h1:ms.length≤20) (h2:Rise ms) (h3:∀ m∈ms,m.e=0):chk ms=0:=by
 rw [chk,if_neg (by omega),firstE_all ms h3,if_pos rfl,if_pos (RL.rises_of ord ms h2)]
def chkTwo (a b:List Whe):Int:=if chk a=0 then chk b else chk a
def stg (a b:List Whe) (k:Nat):List Whe:=if k=0 then [] else if k=1 then a else joinL a b
def joinE (a b:List Whe):Int:=if chkTwo a b=0 then (if 20 < (joinL a b).length then 2 else 0) else chkTwo a b
end Wh
end Go.Proofs.YtikgjgmgbfjcgaaGreat
namespace Go.Proofs.YtikgjgmgbfjcgaaGreat
open Go.RowKit
def Apart (ms:List Mem):Prop:=∀ i j,i < j→j < ms.length→(ms.getD i dm).name≠(ms.getD j dm).name
def apB (ms:List Mem):Bool:=(List.range ms.length).all fun j=>(List.range j).all fun i=>decide ((ms.getD i dm).name≠(ms.getD j dm).name)
theorem apB_iff (ms:List Mem):apB ms=true↔Apart ms:=by
 simp only [apB,List.all_eq_true,List.mem_range,decide_eq_true_eq]
 exact ⟨fun h i j hij hj=>h j hj i hij,fun h j hj i hij=>h i j hij hj⟩
def chkT (ms:List Mem):Int:=if 5 < ms.length then 2 else if firstE ms=0 then (if apB ms=true then 0 else 6) else firstE ms
theorem chkT_many {ms:List Mem} (h:5 < ms.length):chkT ms=2:=if_pos h
theorem chkT_e {ms:List Mem} {k:Nat} (hn:ms.length≤5) (hk:k < ms.length) (hz:∀ j,j < k→(ms.getD j dm).e=0) (hne:(ms.getD k dm).e≠0):chkT ms=(ms.getD k dm).e:=by
 have h:=firstE_at ms k hk hz hne
 rw [chkT,if_neg (by omega),h,if_neg hne]
theorem chkT_twice {ms:List Mem} (hn:ms.length≤5) (hz:∀ j,j < ms.length→(ms.getD j dm).e=0) (hd:¬ Apart ms):chkT ms=6:=by
 rw [chkT,if_neg (by omega),if_pos (firstE_zero ms hz),if_neg (fun h=>hd ((apB_iff ms).1 h))]
theorem chkT_ok {ms:List Mem} (hn:ms.length≤5) (hz:∀ j,j < ms.length→(ms.getD j dm).e=0) (hd:Apart ms):chkT ms=0:=by
 rw [chkT,if_neg (by omega),if_pos (firstE_zero ms hz),if_pos ((apB_iff ms).2 hd)]
theorem chkT_zero {ms:List Mem} (h:chkT ms=0):ms.length≤5∧firstE ms=0∧Apart ms:=by
 unfold chkT at h
 split at h
 ·cases h
 ·split at h
  ·rename_i h1 h2
   split at h
   ·rename_i h3;exact ⟨by omega,h2,(apB_iff ms).1 h3⟩
   ·cases h
  ·rename_i h1 h2;exact absurd h h2
structure Pk where
 frm:ByteArray
 whole:Bool
 ms:List Mem
 sv:List Sv.Svc
 gw:List Gw.Gwy
 wh:List Wh.Whe
def Pk.alone (p:Pk):Bool:=p.sv.isEmpty && (p.gw.isEmpty && p.wh.isEmpty)
def Pk.mE (p:Pk):Int:=if p.whole=true then chk p.ms else chkT p.ms
def Pk.e (p:Pk):Int:=
 if (labB p.frm && (p.whole || p.alone))=true then
  (if p.mE=0 then (if Sv.chk p.sv=0 then (if Gw.chk p.gw=0 then Wh.chk p.wh else Gw.chk p.gw) else Sv.chk p.sv) else p.mE)
 else 1
structure Nd where
 name:ByteArray
 centre:ByteArray
 ms:List Mem
 rs:List Rum
 sv:List Sv.Svc
 gw:List Gw.Gwy
 p:Pl
 wh:List Wh.Whe
def aheadB (ms:List Mem) (r:Rum):Bool:=match fstM ms r.m.name with
 | none=>true
 | some k=>newM r.m k
def Nd.wE (n:Nd):Int:=match fstM n.ms n.name with
 | none=>5
 | some m=>if m.state=2∨m.state=3 then 4 else if n.rs.any (aheadB n.ms)=true then 4 else 0
def Nd.pE (n:Nd):Int:=
 if (labB n.name && labB n.centre)=true then
  (if chk n.ms=0 then (if chkR n.rs=0 then (if Sv.chk n.sv=0 then (if Gw.chk n.gw=0 then (if chkP n.p=0 then Wh.chk n.wh else chkP n.p) else Gw.chk n.gw) else Sv.chk n.sv) else chkR n.rs) else chk n.ms)
 else 1
def Nd.e (n:Nd):Int:=if n.pE=0 then n.wE else n.pE
structure Nd.Parts (n:Nd):Prop where
 name:labB n.name=true
 centre:labB n.centre=true
 ms:chk n.ms=0
 rs:chkR n.rs=0
 sv:Sv.chk n.sv=0
 gw:Gw.chk n.gw=0
 p:chkP n.p=0
 wh:Wh.chk n.wh=0
theorem Nd.parts {n:Nd} (h:n.pE=0):n.Parts:=by
 unfold Nd.pE at h
 split at h
 ·rename_i h0
  rw [Bool.and_eq_true] at h0
  split at h
  ·rename_i h1
   split at h
   ·rename_i h2
    split at h
    ·rename_i h3
     split at h
     ·rename_i h4
      split at h
      ·rename_i h5;exact ⟨h0.1,h0.2,h1,h2,h3,h4,h5,h⟩
      ·rename_i h5;exact absurd h h5
     ·rename_i h4;exact absurd h h4
    ·rename_i h3;exact absurd h h3
   ·rename_i h2;exact absurd h h2
  ·rename_i h1;exact absurd h h1
 ·cases h
theorem Nd.Parts.e {n:Nd} (h:n.Parts):n.pE=0:=by
 unfold Nd.pE
 rw [if_pos (by rw [h.name,h.centre];rfl),if_pos h.ms,if_pos h.rs,if_pos h.sv,if_pos h.gw,if_pos h.p,h.wh]
theorem Nd.e_zero {n:Nd} (h:n.e=0):n.pE=0∧n.wE=0:=by
 unfold Nd.e at h
 split at h
 ·rename_i h1;exact ⟨h1,h⟩
 ·rename_i h1;exact absurd h h1
theorem Nd.wE_zero {n:Nd} (h:n.wE=0):∃ m,fstM n.ms n.name=some m∧m.state≠2∧m.state≠3∧∀ r∈n.rs,aheadB n.ms r=false:=by
 unfold Nd.wE at h
 split at h
 ·cases h
 ·rename_i m hm
  split at h
  ·cases h
  ·rename_i h1
   split at h
   ·cases h
   ·rename_i h2
    refine ⟨m,hm,fun e=>h1 (.inl e),fun e=>h1 (.inr e),fun r hr=>?_⟩
    rcases h3:aheadB n.ms r with _ | _
    ·rfl
    ·exact absurd (List.any_eq_true.2 ⟨r,hr,h3⟩) h2
theorem Nd.wE_of {n:Nd} {m:Mem} (h1:fstM n.ms n.name=some m) (h2:m.state≠2) (h3:m.state≠3) (h4:∀ r∈n.rs,aheadB n.ms r=false):n.wE=0:=by
 unfold Nd.wE
 rw [h1]
 simp only
 rw [if_neg (by rintro (h | h)<;>contradiction),if_neg]
 rw [List.any_eq_true]
 rintro ⟨r,hr,h⟩
 rw [h4 r hr] at h
 cases h
theorem Nd.e_of {n:Nd} (h1:n.pE=0) (h2:n.wE=0):n.e=0:=by unfold Nd.e;rw [if_pos h1,h2]
end Go.Proofs.YtikgjgmgbfjcgaaGreat
namespace Go.Proofs.YtikgjgmgbfjcgaaGreat
namespace Wh
open Go.RowKit
set_option maxHeartbeats 400000 in
theorem order_any (a b:Whe) (w:World) :
 Calls Tryz.prog 170 #[.agg #[.string a.node,.int .i64 a.x,.int .i64 a.y,.int .i64 a.z,.int .i64 a.h,.int .i64 a.s],.agg #[.string b.node,.int .i64 b.x,.int .i64 b.y,.int .i64 b.z,.int .i64 b.h,.int .i64 b.s]] w fun e w'=>e=.returned (.int .i64 (ord a b))∧Below w.heap.size w w':=by
 go_enter Tryz.func170,Tryz.ntmps170
 go_wp2_with (go_at_call 115;refine (compare_any _ _ _).mono ?_;rintro e w' ⟨rfl,rfl⟩)
 go_ret
 exact ⟨rfl,((Below.refl _ _).alloc (Nat.le_refl _) _).alloc (by simp) _⟩
set_option maxHeartbeats 400000 in
theorem newerE_any (a b:Whe) (w:World) :
 Calls Tryz.prog 176 #[.agg #[.string a.node,.int .i64 a.x,.int .i64 a.y,.int .i64 a.z,.int .i64 a.h,.int .i64 a.s],.agg #[.string b.node,.int .i64 b.x,.int .i64 b.y,.int .i64 b.z,.int .i64 b.h,.int .i64 b.s]] w fun e w'=>e=.returned (.bool (newE a b))∧Below w.heap.size w w':=by
 go_enter Tryz.func176,Tryz.ntmps176
 go_wp2
 go_ret
 exact ⟨rfl,by first | exact Below.refl _ _ | exact ((Below.refl _ _).alloc (Nat.le_refl _) _).alloc (by simp) _⟩
end Wh
namespace Wh
open Go.RowKit
set_option maxHeartbeats 800000 in
set_option maxRecDepth 100000 in
theorem rises_row (ms:List Whe) (b off cap:Nat) (w:World) (hr:Row w b off ms) (hb:b < w.heap.size) (hn:ms.length≤20) :
 Calls Tryz.prog 186 #[.slice (some ⟨b,off,none⟩) ms.length cap,.func (.func 170) #[] #[]] w fun e w'=>e=.returned (.bool (risesB ms))∧Below w.heap.size w w':=by
 have HR:Hid (Row w b off ms):=hr
 clear hr
 have H4:Hid (∀ k,k+1 < ms.length→0≤ord (ms.getD k dm) (ms.getD (k+1) dm)→risesB ms=false):=fun k hk hl=>by
  rcases h:risesB ms with _ | _
  ·rfl
  ·have:=rises_getO ms h k hk;omega
 have H0:Hid ((∀ j,j+1 < ms.length→ord (ms.getD j dm) (ms.getD (j+1) dm) < 0)→risesB ms=true):=rises_allO ms
 generalize hN:ms.length=n at *
 have HN:Hid (ms.length=n):=hN
 clear hN
 generalize hC:risesB ms=res at *
 have HC:Hid (risesB ms=res):=hC
 clear hC
 go_enter Tryz.func186,Tryz.ntmps186
 go_wp2_with fail
 go_loopw [5] (fun i w'=>∃ k:Nat,(k+1≤n∨k=0)∧i=.int .i64 (k+1)∧Below w.heap.size w w'∧Hid (∀ j,j < k→ord (ms.getD j dm) (ms.getD (j+1) dm) < 0)) (fun i _=>n - (intOf i).toNat)
 case atStart=>exact ⟨0,.inr rfl,rfl,Below.refl _ _,fun j h=>absurd h (Nat.not_lt_zero _)⟩
 case round=>
  obtain ⟨q,hq,rfl,hbl,hz⟩:=hrel
  obtain ⟨hbc,hbf⟩:=bcell hbl
  have hsz:=hbl.size
  by_cases hlt:q+1 < n
  ·obtain ⟨c0,c1,c2,c3,c4,c5⟩:=HR.out q (by rw [HN.out];omega)
   obtain ⟨d0,d1,d2,d3,d4,d5⟩:=HR.out (q+1) (by rw [HN.out];exact hlt)
   have HK:Hid (0≤ord (ms.getD q dm) (ms.getD (q+1) dm)→res=false):=fun h=>H4.out q hlt h
   have HZ:Hid (ord (ms.getD q dm) (ms.getD (q+1) dm) < 0→∀ j,j < q+1→ord (ms.getD j dm) (ms.getD (j+1) dm) < 0):=fun h j hj=>by
    rcases Nat.lt_succ_iff_lt_or_eq.1 hj with h2 | rfl
    ·exact hz.out j h2
    ·exact h
   generalize ms.getD q dm=m1 at *
   generalize ms.getD (q+1) dm=m2 at *
   have hN:∀ d os,Calls Tryz.prog 170 #[.agg #[.string m1.node,.int .i64 m1.x,.int .i64 m1.y,.int .i64 m1.z,.int .i64 m1.h,.int .i64 m1.s],.agg #[.string m2.node,.int .i64 m2.x,.int .i64 m2.y,.int .i64 m2.z,.int .i64 m2.h,.int .i64 m2.s]] (Go.Sort.grow (redrawn wr d) os) fun e w''=>e=.returned (.int .i64 (ord m1 m2))∧∃ p:Regrown,w''=Go.Sort.grow (redrawn wr p.d) p.os:=fun d os=>Calls.regrown_of (order_any m1 m2 _)
   have F0:∀ d os,(Go.Sort.grow (redrawn wr d) os).cell? ⟨b,off+q * 6,none⟩=some (.string m1.node):=cell_regrown ((hbc _ _ hb).trans c0)
   have F1:∀ d os,(Go.Sort.grow (redrawn wr d) os).cell? ⟨b,off+q * 6+1,none⟩=some (.int .i64 m1.x):=cell_regrown ((hbc _ _ hb).trans c1)
   have F2:∀ d os,(Go.Sort.grow (redrawn wr d) os).cell? ⟨b,off+q * 6+2,none⟩=some (.int .i64 m1.y):=cell_regrown ((hbc _ _ hb).trans c2)
   have F3:∀ d os,(Go.Sort.grow (redrawn wr d) os).cell? ⟨b,off+q * 6+3,none⟩=some (.int .i64 m1.z):=cell_regrown ((hbc _ _ hb).trans c3)
   have F4:∀ d os,(Go.Sort.grow (redrawn wr d) os).cell? ⟨b,off+q * 6+4,none⟩=some (.int .i64 m1.h):=cell_regrown ((hbc _ _ hb).trans c4)
   have F5:∀ d os,(Go.Sort.grow (redrawn wr d) os).cell? ⟨b,off+q * 6+5,none⟩=some (.int .i64 m1.s):=cell_regrown ((hbc _ _ hb).trans c5)
   have G0:∀ d os,(Go.Sort.grow (redrawn wr d) os).cell? ⟨b,off+(q+1) * 6,none⟩=some (.string m2.node):=cell_regrown ((hbc _ _ hb).trans d0)
   have G1:∀ d os,(Go.Sort.grow (redrawn wr d) os).cell? ⟨b,off+(q+1) * 6+1,none⟩=some (.int .i64 m2.x):=cell_regrown ((hbc _ _ hb).trans d1)
   have G2:∀ d os,(Go.Sort.grow (redrawn wr d) os).cell? ⟨b,off+(q+1) * 6+2,none⟩=some (.int .i64 m2.y):=cell_regrown ((hbc _ _ hb).trans d2)
   have G3:∀ d os,(Go.Sort.grow (redrawn wr d) os).cell? ⟨b,off+(q+1) * 6+3,none⟩=some (.int .i64 m2.z):=cell_regrown ((hbc _ _ hb).trans d3)
   have G4:∀ d os,(Go.Sort.grow (redrawn wr d) os).cell? ⟨b,off+(q+1) * 6+4,none⟩=some (.int .i64 m2.h):=cell_regrown ((hbc _ _ hb).trans d4)
   have G5:∀ d os,(Go.Sort.grow (redrawn wr d) os).cell? ⟨b,off+(q+1) * 6+5,none⟩=some (.int .i64 m2.s):=cell_regrown ((hbc _ _ hb).trans d5)
   clear c0 c1 c2 c3 c4 c5 d0 d1 d2 d3 d4 d5 hbc hbf
   generalize ord m1 m2=r at *
   have hwq:IntKind.i64.wrap (q:Int)=(q:Int):=by rw [IntKind.wrap_i64];omega
   have hqn:q < n:=by omega
   have hq1:(q:Int)+1 < (n:Int):=by omega
   have hq0:(0:Int)≤(q:Int)+1:=by omega
   have htn:((q:Int)+1).toNat=q+1:=by omega
   by_cases hl:r < 0
   ·have hl2:¬ (0≤r):=by omega
    go_wp2_with fail
    refine wp_region_quiet_below (by kernel_rfl) (by kernel_rfl) ?_
    repeat (quiet_step (exact hN _ _))
    refine wpQuiet_nil ?_
    intro _ hw'
    obtain ⟨⟨dq,osq⟩,hw''⟩:=hw'
    subst hw''
    have HBQ:Hid (Below wr.heap.size wr (Go.Sort.grow (redrawn wr dq) osq)):=below_regrown wr dq osq
    clear hN F0 F1 F2 F3 F4 F5 G0 G1 G2 G3 G4 G5
    go_wp2_with fail
    go_roundw
    case rel=>exact ⟨q+1,.inl (by omega),by go_num,hbl.trans (HBQ.out.mono hsz),HZ.out hl⟩
    case measure=>simp [intOf];omega
   ·have hl2:0≤r:=by omega
    have h4:Hid (res=false):=HK.out hl2
    go_wp2_with fail
    refine wp_region_quiet_below (by kernel_rfl) (by kernel_rfl) ?_
    repeat (quiet_step (exact hN _ _))
    refine wpQuiet_nil ?_
    intro _ hw'
    obtain ⟨⟨dq,osq⟩,hw''⟩:=hw'
    subst hw''
    have HBQ:Hid (Below wr.heap.size wr (Go.Sort.grow (redrawn wr dq) osq)):=below_regrown wr dq osq
    clear hN F0 F1 F2 F3 F4 F5 G0 G1 G2 G3 G4 G5
    go_wp2_with fail
    go_ret
    exact ⟨ret_bool h4.out.symm,hbl.trans (HBQ.out.mono hsz)⟩
  ·have h0:Hid (res=true):=H0.out fun j hj=>hz.out j (by omega)
   go_wp2_with fail
   go_ret
   exact ⟨ret_bool h0.out.symm,hbl⟩
set_option maxHeartbeats 400000 in
theorem rises_none (a:Option Addr) (cap:Nat) (fv:Value) (w:World) :
 Calls Tryz.prog 186 #[.slice a 0 cap,fv] w fun e w'=>e=.returned (.bool true)∧w'=w:=by
 go_enter Tryz.func186,Tryz.ntmps186
 go_wp2_with fail
 go_loop [5] (fun i=>i=.int .i64 1) (fun _=>0)
 case atStart=>rfl
 case round=>
  subst hrel
  go_wp2_with fail
  go_ret
  exact ⟨rfl,rfl⟩
set_option maxHeartbeats 800000 in
theorem search_row (ms:List Whe) (b off cap:Nat) (lk:Whe) (w:World) (hr:Row w b off ms) (hb:b < w.heap.size) (hn:ms.length≤40)
 (hmono:∀ i j,i≤j→j < ms.length→ord (ms.getD j dm) lk < 0→ord (ms.getD i dm) lk < 0) :
 Calls Tryz.prog 214 #[.slice (some ⟨b,off,none⟩) ms.length cap,.agg #[.string lk.node,.int .i64 lk.x,.int .i64 lk.y,.int .i64 lk.z,.int .i64 lk.h,.int .i64 lk.s],.func (.func 170) #[] #[]] w fun e w'=>∃ (p:Nat) (f:Bool),e=.returned (.tuple #[.int .i64 p,.bool f])∧Below w.heap.size w w' ∧
  p≤ms.length∧(∀ j,j < p→ord (ms.getD j dm) lk < 0)∧(∀ j,p≤j→j < ms.length→0≤ord (ms.getD j dm) lk)∧(f=true↔p < ms.length∧ord (ms.getD p dm) lk=0):=by
 have HR:Hid (Row w b off ms):=hr
 clear hr
 have HM:Hid (∀ i j,i≤j→j < ms.length→ord (ms.getD j dm) lk < 0→ord (ms.getD i dm) lk < 0):=hmono
 clear hmono
 generalize hN:ms.length=n at *
 have HN:Hid (ms.length=n):=hN
 clear hN
 go_enter Tryz.func214,Tryz.ntmps214
 go_wp2_with fail
 obtain ⟨W0,hW0⟩:∃ W0,W0=w.alloc (.cells #[.string lk.node,.int .i64 lk.x,.int .i64 lk.y,.int .i64 lk.z,.int .i64 lk.h,.int .i64 lk.s] 104):=⟨_,rfl⟩
 have hb0:Below w.heap.size w W0:=by rw [hW0];exact (Below.refl _ _).alloc (Nat.le_refl _) _
 have hg0:W0.heap[w.heap.size]?=some (.cells #[.string lk.node,.int .i64 lk.x,.int .i64 lk.y,.int .i64 lk.z,.int .i64 lk.h,.int .i64 lk.s] 104 (0,0)):=by rw [hW0];exact heap_alloc_new w _
 have hs0:W0.heap.size=w.heap.size+1:=by rw [hW0];simp
 have HR0:Hid (Row W0 b off ms):=HR.out.later hb0 hb
 have hT:∀ o,W0.cell? ⟨w.heap.size,o,none⟩=#[.string lk.node,.int .i64 lk.x,.int .i64 lk.y,.int .i64 lk.z,.int .i64 lk.h,.int .i64 lk.s][o]?:=fun o=>cellsAt hg0 o
 have HT:Hid (∀ o,W0.cell? ⟨w.heap.size,o,none⟩=#[.string lk.node,.int .i64 lk.x,.int .i64 lk.y,.int .i64 lk.z,.int .i64 lk.h,.int .i64 lk.s][o]?):=hT
 have HB0:Hid (Below w.heap.size w W0):=hb0
 have HW0:Hid (W0=w.alloc (.cells #[.string lk.node,.int .i64 lk.x,.int .i64 lk.y,.int .i64 lk.z,.int .i64 lk.h,.int .i64 lk.s] 104)):=hW0
 clear hT hg0 hb0 HR hW0
 have hb':b < w.heap.size+1:=by omega
 go_loopw [9,10] (fun i j w'=>∃ k l:Nat,k≤l∧l≤n∧i=.int .i64 k∧j=.int .i64 l∧Below (w.heap.size+1) W0 w'∧Hid (∀ j,j < k→ord (ms.getD j dm) lk < 0)∧Hid (∀ j,l≤j→j < n→0≤ord (ms.getD j dm) lk)) (fun i j _=>(intOf j).toNat - (intOf i).toNat)
 case atStart=>exact ⟨0,n,Nat.zero_le _,Nat.le_refl _,rfl,rfl,by rw [HW0.out];exact Below.refl _ _,fun j h=>absurd h (Nat.not_lt_zero _),fun j h1 h2=>by omega⟩
 case round=>
  obtain ⟨k,l,hkl,hln,rfl,rfl,hbl,hlo,hhi⟩:=hrel
  have hsz:=hbl.size
  have hbc:∀ b o,b < w.heap.size+1→wr.cell? ⟨b,o,none⟩=W0.cell? ⟨b,o,none⟩:=fun b o h=>hbl.cell (p:=⟨b,o,none⟩) h
  have G0:∀ d os,(Go.Sort.grow (redrawn wr d) os).cell? ⟨w.heap.size,0,none⟩=some (.string lk.node):=cell_regrown ((hbc _ _ (by omega)).trans (HT.out 0))
  have G1:∀ d os,(Go.Sort.grow (redrawn wr d) os).cell? ⟨w.heap.size,1,none⟩=some (.int .i64 lk.x):=cell_regrown ((hbc _ _ (by omega)).trans (HT.out 1))
  have G2:∀ d os,(Go.Sort.grow (redrawn wr d) os).cell? ⟨w.heap.size,2,none⟩=some (.int .i64 lk.y):=cell_regrown ((hbc _ _ (by omega)).trans (HT.out 2))
  have G3:∀ d os,(Go.Sort.grow (redrawn wr d) os).cell? ⟨w.heap.size,3,none⟩=some (.int .i64 lk.z):=cell_regrown ((hbc _ _ (by omega)).trans (HT.out 3))
  have G4:∀ d os,(Go.Sort.grow (redrawn wr d) os).cell? ⟨w.heap.size,4,none⟩=some (.int .i64 lk.h):=cell_regrown ((hbc _ _ (by omega)).trans (HT.out 4))
  have G5:∀ d os,(Go.Sort.grow (redrawn wr d) os).cell? ⟨w.heap.size,5,none⟩=some (.int .i64 lk.s):=cell_regrown ((hbc _ _ (by omega)).trans (HT.out 5))
  by_cases hlt:k < l
  ·obtain ⟨h,hh,h1,h2⟩:∃ h:Nat,((k:Int)+(l:Int)) / 2=(h:Int)∧k≤h∧h < l:=⟨(k+l) / 2,by omega,by omega,by omega⟩
   obtain ⟨c0,c1,c2,c3,c4,c5⟩:=HR0.out h (by rw [HN.out];omega)
   have hm1:=HM.out
   have HK:Hid (ord (ms.getD h dm) lk < 0→∀ j,j < h+1→ord (ms.getD j dm) lk < 0):=fun hx j hj=>hm1 j h (by omega) (by omega) hx
   have HL:Hid (0≤ord (ms.getD h dm) lk→∀ j,h≤j→j < n→0≤ord (ms.getD j dm) lk):=fun hx j hj hjn=>by
    apply Int.not_lt.1
    intro hq
    have:=hm1 h j hj hjn hq
    omega
   clear hm1
   have hhn:h < n:=by omega
   generalize ms.getD h dm=m at *
   have hO:∀ d os,Calls Tryz.prog 170 #[.agg #[.string m.node,.int .i64 m.x,.int .i64 m.y,.int .i64 m.z,.int .i64 m.h,.int .i64 m.s],.agg #[.string lk.node,.int .i64 lk.x,.int .i64 lk.y,.int .i64 lk.z,.int .i64 lk.h,.int .i64 lk.s]] (Go.Sort.grow (redrawn wr d) os) fun e w''=>e=.returned (.int .i64 (ord m lk))∧∃ p:Regrown,w''=Go.Sort.grow (redrawn wr p.d) p.os:=fun d os=>Calls.regrown_of (order_any m lk _)
   have F0:∀ d os,(Go.Sort.grow (redrawn wr d) os).cell? ⟨b,off+h * 6,none⟩=some (.string m.node):=cell_regrown ((hbc _ _ hb').trans c0)
   have F1:∀ d os,(Go.Sort.grow (redrawn wr d) os).cell? ⟨b,off+h * 6+1,none⟩=some (.int .i64 m.x):=cell_regrown ((hbc _ _ hb').trans c1)
   have F2:∀ d os,(Go.Sort.grow (redrawn wr d) os).cell? ⟨b,off+h * 6+2,none⟩=some (.int .i64 m.y):=cell_regrown ((hbc _ _ hb').trans c2)
   have F3:∀ d os,(Go.Sort.grow (redrawn wr d) os).cell? ⟨b,off+h * 6+3,none⟩=some (.int .i64 m.z):=cell_regrown ((hbc _ _ hb').trans c3)
   have F4:∀ d os,(Go.Sort.grow (redrawn wr d) os).cell? ⟨b,off+h * 6+4,none⟩=some (.int .i64 m.h):=cell_regrown ((hbc _ _ hb').trans c4)
   have F5:∀ d os,(Go.Sort.grow (redrawn wr d) os).cell? ⟨b,off+h * 6+5,none⟩=some (.int .i64 m.s):=cell_regrown ((hbc _ _ hb').trans c5)
   clear c0 c1 c2 c3 c4 c5 hbc
   generalize ord m lk=r at *
   by_cases hlt2:r < 0
   ·go_wp2_with fail
    refine wp_region_quiet_below (by kernel_rfl) (by kernel_rfl) ?_
    repeat (quiet_step (exact hO _ _))
    refine wpQuiet_nil ?_
    intro _ hw'
    obtain ⟨⟨dq,osq⟩,hw''⟩:=hw'
    subst hw''
    have HBQ:Hid (Below wr.heap.size wr (Go.Sort.grow (redrawn wr dq) osq)):=below_regrown wr dq osq
    clear hO F0 F1 F2 F3 F4 F5 G0 G1 G2 G3 G4 G5
    go_wp2_with fail
    exact ⟨⟨h+1,l,by omega,by omega,by go_num,rfl,hbl.trans (HBQ.out.mono (by omega)),HK.out hlt2,hhi⟩,by simp [intOf];omega⟩
   ·have hlt3:0≤r:=by omega
    go_wp2_with fail
    refine wp_region_quiet_below (by kernel_rfl) (by kernel_rfl) ?_
    repeat (quiet_step (exact hO _ _))
    refine wpQuiet_nil ?_
    intro _ hw'
    obtain ⟨⟨dq,osq⟩,hw''⟩:=hw'
    subst hw''
    have HBQ:Hid (Below wr.heap.size wr (Go.Sort.grow (redrawn wr dq) osq)):=below_regrown wr dq osq
    clear hO F0 F1 F2 F3 F4 F5 G0 G1 G2 G3 G4 G5
    go_wp2_with fail
    exact ⟨⟨k,h,by omega,by omega,rfl,rfl,hbl.trans (HBQ.out.mono (by omega)),hlo,HL.out hlt3⟩,by simp [intOf];omega⟩
  ·have hkl':l=k:=by omega
   subst hkl'
   by_cases hkn:l < n
   ·obtain ⟨c0,c1,c2,c3,c4,c5⟩:=HR0.out l (by rw [HN.out];omega)
    generalize hm:ms.getD l dm=m at *
    have Hm:Hid (ms.getD l dm=m):=hm
    clear hm
    have hO:∀ d os,Calls Tryz.prog 170 #[.agg #[.string m.node,.int .i64 m.x,.int .i64 m.y,.int .i64 m.z,.int .i64 m.h,.int .i64 m.s],.agg #[.string lk.node,.int .i64 lk.x,.int .i64 lk.y,.int .i64 lk.z,.int .i64 lk.h,.int .i64 lk.s]] (Go.Sort.grow (redrawn wr d) os) fun e w''=>e=.returned (.int .i64 (ord m lk))∧∃ p:Regrown,w''=Go.Sort.grow (redrawn wr p.d) p.os:=fun d os=>Calls.regrown_of (order_any m lk _)
    have F0:∀ d os,(Go.Sort.grow (redrawn wr d) os).cell? ⟨b,off+l * 6,none⟩=some (.string m.node):=cell_regrown ((hbc _ _ hb').trans c0)
    have F1:∀ d os,(Go.Sort.grow (redrawn wr d) os).cell? ⟨b,off+l * 6+1,none⟩=some (.int .i64 m.x):=cell_regrown ((hbc _ _ hb').trans c1)
    have F2:∀ d os,(Go.Sort.grow (redrawn wr d) os).cell? ⟨b,off+l * 6+2,none⟩=some (.int .i64 m.y):=cell_regrown ((hbc _ _ hb').trans c2)
    have F3:∀ d os,(Go.Sort.grow (redrawn wr d) os).cell? ⟨b,off+l * 6+3,none⟩=some (.int .i64 m.z):=cell_regrown ((hbc _ _ hb').trans c3)
    have F4:∀ d os,(Go.Sort.grow (redrawn wr d) os).cell? ⟨b,off+l * 6+4,none⟩=some (.int .i64 m.h):=cell_regrown ((hbc _ _ hb').trans c4)
    have F5:∀ d os,(Go.Sort.grow (redrawn wr d) os).cell? ⟨b,off+l * 6+5,none⟩=some (.int .i64 m.s):=cell_regrown ((hbc _ _ hb').trans c5)
    clear c0 c1 c2 c3 c4 c5 hbc
    generalize hrr:ord m lk=r at *
    have Hr:Hid (ord m lk=r):=hrr
    clear hrr
    go_wp2_with fail
    refine wp_region_quiet_below (by kernel_rfl) (by kernel_rfl) ?_
    repeat (quiet_step (exact hO _ _))
    refine wpQuiet_nil ?_
    intro _ hw'
    obtain ⟨⟨dq,osq⟩,hw''⟩:=hw'
    subst hw''
    have HBQ:Hid (Below wr.heap.size wr (Go.Sort.grow (redrawn wr dq) osq)):=below_regrown wr dq osq
    clear hO F0 F1 F2 F3 F4 F5 G0 G1 G2 G3 G4 G5
    go_wp2_with fail
    go_ret2
    refine ⟨l,_,rfl,HB0.out.trans ((hbl.trans (HBQ.out.mono (by omega))).mono (by omega)),by omega,hlo.out,hhi.out,?_⟩
    rw [Hm.out,Hr.out]
    simp [hkn]
   ·clear G0 G1 G2 G3 G4 G5
    have hkd:decide ((l:Int) < (n:Int))=false:=by simp;omega
    go_wp2_with fail
    go_quiet (fail)
    go_wp2_with fail
    go_ret2
    refine ⟨l,_,rfl,HB0.out.trans ((below_drewN hbl _).mono (by omega)),by omega,hlo.out,hhi.out,?_⟩
    simp [hkn]
set_option maxHeartbeats 800000 in
theorem search_none (a:Option Addr) (cap:Nat) (lk:Whe) (fv:Value) (w:World) :
 Calls Tryz.prog 214 #[.slice a 0 cap,.agg #[.string lk.node,.int .i64 lk.x,.int .i64 lk.y,.int .i64 lk.z,.int .i64 lk.h,.int .i64 lk.s],fv] w fun e w'=>e=.returned (.tuple #[.int .i64 0,.bool false])∧Below w.heap.size w w':=by
 go_enter Tryz.func214,Tryz.ntmps214
 go_wp2_with fail
 go_loop [9,10] (fun i j=>i=.int .i64 0∧j=.int .i64 0) (fun _ _=>0)
 case atStart=>exact ⟨rfl,rfl⟩
 case round=>
  obtain ⟨rfl,rfl⟩:=hrel
  go_wp2_with fail
  go_quiet (fail)
  go_wp2_with fail
  go_ret2
  exact ⟨rfl,below_drewN ((Below.refl _ _).alloc (Nat.le_refl _) _) _⟩
theorem bsearch_any (ms:List Whe) (v:Value) (lk:Whe) (w:World) (h:Sl w v ms) (hn:ms.length≤40)
 (hmono:∀ i j,i≤j→j < ms.length→ord (ms.getD j dm) lk < 0→ord (ms.getD i dm) lk < 0) :
 Calls Tryz.prog 214 #[v,.agg #[.string lk.node,.int .i64 lk.x,.int .i64 lk.y,.int .i64 lk.z,.int .i64 lk.h,.int .i64 lk.s],.func (.func 170) #[] #[]] w fun e w'=>∃ (p:Nat) (f:Bool),e=.returned (.tuple #[.int .i64 p,.bool f])∧Below w.heap.size w w'∧At ms lk p f:=by
 obtain ⟨a,cap,rfl,hs,h⟩:=h
 rcases h with rfl | ⟨b,off,rfl,hb,hr⟩
 ·refine (search_none a cap lk _ w).mono ?_
  rintro e w' ⟨rfl,hb⟩
  exact ⟨0,false,rfl,hb,⟨by simp,fun j h=>by omega,fun j h h2=>by simp at h2,by simp⟩⟩
 ·refine (search_row ms b off cap lk w hr hb hn hmono).mono ?_
  rintro e w' ⟨p,f,rfl,hbl,g1,g2,g3,g4⟩
  exact ⟨p,f,rfl,hbl,⟨g1,g2,g3,g4⟩⟩
set_option maxHeartbeats 400000 in
theorem find_any (ms:List Whe) (v:Value) (lk:Whe) (w:World) (h:Sl w v ms) (hn:ms.length≤40) (hr:Rise ms) :
 Calls Tryz.prog 169 #[v,.agg #[.string lk.node,.int .i64 lk.x,.int .i64 lk.y,.int .i64 lk.z,.int .i64 lk.h,.int .i64 lk.s],.func (.func 170) #[] #[]] w fun e w'=>∃ (p:Nat) (f:Bool),e=.returned (.tuple #[.int .i64 p,.bool f])∧Below w.heap.size w w'∧At ms lk p f:=by
 have HC:Hid (∀ w',Below w.heap.size w w'→Calls Tryz.prog 214 #[v,.agg #[.string lk.node,.int .i64 lk.x,.int .i64 lk.y,.int .i64 lk.z,.int .i64 lk.h,.int .i64 lk.s],.func (.func 170) #[] #[]] w' fun e w''=>∃ (p:Nat) (f:Bool),e=.returned (.tuple #[.int .i64 p,.bool f])∧Below w'.heap.size w' w''∧At ms lk p f):=
  fun w' hb=>bsearch_any ms v lk w' (h.below hb) hn (rise_mono hr lk)
 clear h hn hr
 go_enter Tryz.func169,Tryz.ntmps169
 go_wp2_with (go_at_call 214;refine (HC.out _ ?hb).mono ?_)
 case hb=>exact (Below.refl _ _).alloc (Nat.le_refl _) _
 rintro e w' ⟨p,f,rfl,hbl,hat⟩
 have HAT:Hid (At ms lk p f):=hat
 clear hat
 go_wp2_with fail
 go_ret2
 exact ⟨p,f,rfl,((Below.refl _ _).alloc (Nat.le_refl _) _).trans (hbl.mono (by simp)),HAT.out⟩
end Wh
end Go.Proofs.YtikgjgmgbfjcgaaGreat
