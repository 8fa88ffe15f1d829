import Derived.Test.YtffdoiokmiklgaaGreatDoorX1
import Derived.Test.YtffdoiokmiklgaaGreatDoorX3
import Derived.Test.YtffdoiokmiklgaaGreatDoorX4
import Derived.Deep.RegionHeld3
namespace Go.Proofs.YtffdoiokmiklgaaGreatDoor
open Go.RowKit
theorem cmpI_self (a:ByteArray):cmpI a a=0:=(cmpI_eq a a).2 rfl
theorem cmpI_flip (a b:ByteArray):0 < cmpI a b↔cmpI b a < 0:=by rw [cmpI_gt,cmpI_lt]
theorem cmpI_trans (a b c:ByteArray) (h1:cmpI a b < 0) (h2:cmpI b c < 0):cmpI a c < 0:=by
 rw [cmpI_lt] at *;exact less_trans h1 h2
namespace RL
section
variable {α:Type}
theorem keyed_txt (f:α→ByteArray):Keyed fun a b=>cmpI (f a) (f b) where
 refl a:=cmpI_self _
 gt a b:=cmpI_flip _ _
 trans a b c h1 h2:=cmpI_trans _ _ _ h1 h2
 left a b c h:=by rw [(cmpI_eq _ _).1 h]
 right a b c h:=by rw [(cmpI_eq _ _).1 h]
def bI (b:Bool):Int:=if b=true then 1 else 0
def lex (o p:α→α→Int) (a b:α):Int:=if o a b=0 then p a b else o a b
theorem keyed_lex {o p:α→α→Int} (h:Keyed o) (k:Keyed p):Keyed (lex o p) where
 refl a:=by rw [lex,if_pos (h.refl a),k.refl a]
 gt a b:=by
  unfold lex
  by_cases e:o a b=0
  ·rw [if_pos e,if_pos (h.symm e)];exact k.gt a b
  ·rw [if_neg e,if_neg (fun e2=>e (h.symm e2))];exact h.gt a b
 trans a b c h1 h2:=by
  unfold lex at *
  by_cases e:o a b=0
  ·rw [if_pos e] at h1
   by_cases e2:o b c=0
   ·rw [if_pos e2] at h2
    rw [if_pos (h.eqt e e2)];exact k.trans _ _ _ h1 h2
   ·rw [if_neg e2] at h2
    rw [if_neg (fun e3=>e2 (h.eqt (h.symm e) e3)),h.left a b c e];exact h2
  ·rw [if_neg e] at h1
   by_cases e2:o b c=0
   ·rw [if_neg (fun e3=>e (h.eqt e3 (h.symm e2))),← h.right b c a e2];exact h1
   ·rw [if_neg e2] at h2
    have h3:=h.trans _ _ _ h1 h2
    rw [if_neg (by omega)];exact h3
 left a b c e:=by
  unfold lex at *
  by_cases e1:o a b=0
  ·rw [if_pos e1] at e
   rw [h.left a b c e1,k.left a b c e]
  ·rw [if_neg e1] at e;exact absurd e e1
 right a b c e:=by
  unfold lex at *
  by_cases e1:o a b=0
  ·rw [if_pos e1] at e
   rw [h.right a b c e1,k.right a b c e]
  ·rw [if_neg e1] at e;exact absurd e e1
end
end RL
end Go.Proofs.YtffdoiokmiklgaaGreatDoor
namespace Go.Proofs.YtffdoiokmiklgaaGreatDoor
namespace Sv
open Go.RowKit
def ord:Svc→Svc→Int:=RL.lex (fun a b=>cmpI a.node b.node) (fun a b=>cmpI a.idn b.idn)
theorem keyed:RL.Keyed ord:=RL.keyed_lex (RL.keyed_txt Svc.node) (RL.keyed_txt Svc.idn)
def newC:Svc→Svc→Int:=RL.lex (fun a b=>a.version - b.version) (RL.lex (fun a b=>RL.bI a.gone - RL.bI b.gone) (RL.lex (fun a b=>cmpI a.name b.name) (RL.lex (fun a b=>cmpI a.tag b.tag) (RL.lex (fun a b=>a.addr - b.addr) (RL.lex (fun a b=>a.port - b.port) (fun a b=>RL.bI a.passing - RL.bI b.passing))))))
def newE (a b:Svc):Bool:=decide (0 < newC a b)
abbrev Rise (ms:List Svc):Prop:=RL.Rise ord ms
abbrev joinL (a b:List Svc):List Svc:=RL.join ord newE a b
abbrev risesB (ms:List Svc):Bool:=RL.risesB ord ms
theorem rises_allO (ms:List Svc) (h:∀ j,j+1 < ms.length→ord (ms.getD j dm) (ms.getD (j+1) dm) < 0):risesB ms=true:=RL.rises_all ord dm ms h
theorem rises_getO (ms:List Svc) (h:risesB ms=true):∀ j,j+1 < ms.length→ord (ms.getD j dm) (ms.getD (j+1) dm) < 0:=RL.rises_get ord dm ms h
def tagB (t:ByteArray):Bool:=decide (t=ByteArray.empty) || labB t
def Svc.e (m:Svc):Int:=
 if (labB m.node && (labB m.idn && (labB m.name && tagB m.tag)))=true then (if (within m.addr 0 4294967295 && (within m.port 0 65535 && within m.version 1 1000000))=true then 0 else 3) else 1
def firstE:List Svc→Int
 | []=>0
 | m :: r=>if m.e=0 then firstE r else m.e
theorem firstE_zero:∀ (ms:List Svc),(∀ j,j < ms.length→(ms.getD j dm).e=0)→firstE ms=0
 | [],_=>rfl
 | m :: r,h=>by
   have h0:=h 0 (by simp)
   simp only [List.getD_cons_zero] at h0
   rw [firstE,if_pos h0]
   exact firstE_zero r fun j hj=>by have:=h (j+1) (by simpa using hj);simpa using this
theorem firstE_at:∀ (ms:List Svc) (k:Nat),k < ms.length→(∀ j,j < k→(ms.getD j dm).e=0)→(ms.getD k dm).e≠0→firstE ms=(ms.getD k dm).e
 | [],k,h,_,_=>by simp at h
 | m :: r,0,_,_,hne=>by
   simp only [List.getD_cons_zero] at hne ⊢
   rw [firstE,if_neg hne]
 | m :: r,k+1,h,hz,hne=>by
   have h0:=hz 0 (by omega)
   simp only [List.getD_cons_zero] at h0
   rw [firstE,if_pos h0,List.getD_cons_succ]
   rw [List.getD_cons_succ] at hne
   exact firstE_at r k (by simpa using h) (fun j hj=>by have:=hz (j+1) (by omega);simpa using this) hne
theorem firstE_mem:∀ (ms:List Svc),firstE ms=0→∀ m∈ms,m.e=0
 | [],_,m,hm=>by simp at hm
 | x :: r,h,m,hm=>by
   rw [firstE] at h
   split at h
   ·rename_i hx
    rcases List.mem_cons.1 hm with rfl | hm
    ·exact hx
    ·exact firstE_mem r h m hm
   ·rename_i hx;exact absurd h hx
def chk (ms:List Svc):Int:=if 40 < ms.length then 2 else if firstE ms=0 then (if risesB ms=true then 0 else 4) else firstE ms
theorem chk_e (ms:List Svc) (k:Nat) (hn:ms.length≤40) (hk:k < ms.length) (hz:∀ j,j < k→(ms.getD j dm).e=0) (hne:(ms.getD k dm).e≠0):chk ms=(ms.getD k dm).e:=by
 have h:=firstE_at ms k hk hz hne
 rw [chk,if_neg (by omega),h,if_neg hne]
theorem chk_r (ms:List Svc) (hn:ms.length≤40) (hz:∀ j,j < ms.length→(ms.getD j dm).e=0):chk ms=if risesB ms=true then 0 else 4:=by
 rw [chk,if_neg (by omega),firstE_zero ms hz,if_pos rfl]
theorem chk_4 (ms:List Svc) (k:Nat) (hn:ms.length≤40) (hz:∀ j,j < ms.length→(ms.getD j dm).e=0) (hk:k+1 < ms.length) (hl:¬ ord (ms.getD k dm) (ms.getD (k+1) dm) < 0):chk ms=4:=by
 rw [chk_r ms hn hz,if_neg]
 intro h
 exact hl (rises_getO ms h k hk)
theorem chk_0 (ms:List Svc) (hn:ms.length≤40) (hz:∀ j,j < ms.length→(ms.getD j dm).e=0) (hl:∀ j,j+1 < ms.length→ord (ms.getD j dm) (ms.getD (j+1) dm) < 0):chk ms=0:=by
 rw [chk_r ms hn hz,if_pos (rises_allO ms hl)]
theorem chk_zero {ms:List Svc} (h:chk ms=0):ms.length≤40∧Rise ms∧firstE ms=0:=by
 unfold chk at h
 split at h
 ·omega
 ·split at h
  ·rename_i h1 h2
   split at h
   ·rename_i h3
    exact ⟨by omega,RL.rise_of ord keyed ms h3,h2⟩
   ·omega
  ·rename_i h1 h2;exact absurd h h2
def chkTwo (a b:List Svc):Int:=if chk a=0 then chk b else chk a
def joinE (a b:List Svc):Int:=if chkTwo a b=0 then (if 40 < (joinL a b).length then 2 else 0) else chkTwo a b
end Sv
namespace Gw
open Go.RowKit
def ord (a b:Gwy):Int:=cmpI a.centre b.centre
theorem keyed:RL.Keyed ord:=RL.keyed_txt Gwy.centre
def newC:Gwy→Gwy→Int:=RL.lex (fun a b=>a.version - b.version) (fun a b=>a.addr - b.addr)
def newE (a b:Gwy):Bool:=decide (0 < newC a b)
abbrev Rise (ms:List Gwy):Prop:=RL.Rise ord ms
abbrev joinL (a b:List Gwy):List Gwy:=RL.join ord newE a b
abbrev risesB (ms:List Gwy):Bool:=RL.risesB ord ms
theorem rises_allO (ms:List Gwy) (h:∀ j,j+1 < ms.length→ord (ms.getD j dm) (ms.getD (j+1) dm) < 0):risesB ms=true:=RL.rises_all ord dm ms h
theorem rises_getO (ms:List Gwy) (h:risesB ms=true):∀ j,j+1 < ms.length→ord (ms.getD j dm) (ms.getD (j+1) dm) < 0:=RL.rises_get ord dm ms h
def Gwy.e (m:Gwy):Int:=if labB m.centre=true then (if within m.addr 0 4294967295=true then (if within m.version 1 1000000=true then 0 else 3) else 3) else 1
def firstE:List Gwy→Int
 | []=>0
 | m :: r=>if m.e=0 then firstE r else m.e
theorem firstE_zero:∀ (ms:List Gwy),(∀ j,j < ms.length→(ms.getD j dm).e=0)→firstE ms=0
 | [],_=>rfl
 | m :: r,h=>by
   have h0:=h 0 (by simp)
   simp only [List.getD_cons_zero] at h0
   rw [firstE,if_pos h0]
   exact firstE_zero r fun j hj=>by have:=h (j+1) (by simpa using hj);simpa using this
theorem firstE_at:∀ (ms:List Gwy) (k:Nat),k < ms.length→(∀ j,j < k→(ms.getD j dm).e=0)→(ms.getD k dm).e≠0→firstE ms=(ms.getD k dm).e
 | [],k,h,_,_=>by simp at h
 | m :: r,0,_,_,hne=>by
   simp only [List.getD_cons_zero] at hne ⊢
   rw [firstE,if_neg hne]
 | m :: r,k+1,h,hz,hne=>by
   have h0:=hz 0 (by omega)
   simp only [List.getD_cons_zero] at h0
   rw [firstE,if_pos h0,List.getD_cons_succ]
   rw [List.getD_cons_succ] at hne
   exact firstE_at r k (by simpa using h) (fun j hj=>by have:=hz (j+1) (by omega);simpa using this) hne
theorem firstE_mem:∀ (ms:List Gwy),firstE ms=0→∀ m∈ms,m.e=0
 | [],_,m,hm=>by simp at hm
 | x :: r,h,m,hm=>by
   rw [firstE] at h
   split at h
   ·rename_i hx
    rcases List.mem_cons.1 hm with rfl | hm
    ·exact hx
    ·exact firstE_mem r h m hm
   ·rename_i hx;exact absurd h hx
def chk (ms:List Gwy):Int:=if 6 < ms.length then 2 else if firstE ms=0 then (if risesB ms=true then 0 else 4) else firstE ms
theorem chk_e (ms:List Gwy) (k:Nat) (hn:ms.length≤6) (hk:k < ms.length) (hz:∀ j,j < k→(ms.getD j dm).e=0) (hne:(ms.getD k dm).e≠0):chk ms=(ms.getD k dm).e:=by
 have h:=firstE_at ms k hk hz hne
 rw [chk,if_neg (by omega),h,if_neg hne]
theorem chk_r (ms:List Gwy) (hn:ms.length≤6) (hz:∀ j,j < ms.length→(ms.getD j dm).e=0):chk ms=if risesB ms=true then 0 else 4:=by
 rw [chk,if_neg (by omega),firstE_zero ms hz,if_pos rfl]
theorem chk_4 (ms:List Gwy) (k:Nat) (hn:ms.length≤6) (hz:∀ j,j < ms.length→(ms.getD j dm).e=0) (hk:k+1 < ms.length) (hl:¬ ord (ms.getD k dm) (ms.getD (k+1) dm) < 0):chk ms=4:=by
 rw [chk_r ms hn hz,if_neg]
 intro h
 exact hl (rises_getO ms h k hk)
theorem chk_0 (ms:List Gwy) (hn:ms.length≤6) (hz:∀ j,j < ms.length→(ms.getD j dm).e=0) (hl:∀ j,j+1 < ms.length→ord (ms.getD j dm) (ms.getD (j+1) dm) < 0):chk ms=0:=by
 rw [chk_r ms hn hz,if_pos (rises_allO ms hl)]
theorem chk_zero {ms:List Gwy} (h:chk ms=0):ms.length≤6∧Rise ms∧firstE ms=0:=by
 unfold chk at h
 split at h
 ·omega
 ·split at h
  ·rename_i h1 h2
   split at h
   ·rename_i h3
    exact ⟨by omega,RL.rise_of ord keyed ms h3,h2⟩
   ·omega
  ·rename_i h1 h2;exact absurd h h2
def chkTwo (a b:List Gwy):Int:=if chk a=0 then chk b else chk a
def joinE (a b:List Gwy):Int:=if chkTwo a b=0 then (if 6 < (joinL a b).length then 2 else 0) else chkTwo a b
end Gw
namespace Sv
open Go.RowKit
theorem cell_topS {W:World} {cs:Array Value} {t:TypeId} {g k:Nat} (hg:g=W.heap.size):(W.alloc (.cells cs t)).cell? ⟨g,k,none⟩=cs[k]?:=by subst hg;simp
def orZ (a b:Int):Int:=if a=0 then b else a
set_option maxHeartbeats 800000 in
theorem or_any (a b:Int) (g:Nat) (c:Nat) (w:World) (h0:w.cell? ⟨g,0,none⟩=some (.int .i64 a)) (h1:w.cell? ⟨g,1,none⟩=some (.int .i64 b)) :
 Calls Tryz.prog 210 #[.slice (some ⟨g,0,none⟩) 2 c] w fun e w'=>e=.returned (.int .i64 (orZ a b))∧w'=w:=by
 by_cases ha:a=0
 ·subst ha
  by_cases hb:b=0
  ·subst hb
   go_enter Tryz.func210,Tryz.ntmps210
   go_wp2_with fail
   refine wp_loop_rounds 3 ?_
   rw [rounds_succ]
   go_wp2_with fail
   rw [rounds_succ]
   go_wp2_with fail
   rw [rounds_succ]
   go_wp2_with fail
   go_ret
   exact ⟨rfl,rfl⟩
  ·have hb':(b != 0)=true:=by simpa using hb
   go_enter Tryz.func210,Tryz.ntmps210
   go_wp2_with fail
   refine wp_loop_rounds 3 ?_
   rw [rounds_succ]
   go_wp2_with fail
   rw [rounds_succ]
   go_wp2_with fail
   go_ret
   exact ⟨rfl,rfl⟩
 ·have ha':(a != 0)=true:=by simpa using ha
  go_enter Tryz.func210,Tryz.ntmps210
  go_wp2_with fail
  refine wp_loop_rounds 3 ?_
  rw [rounds_succ]
  go_wp2_with fail
  go_ret
  exact ⟨ret_int (by unfold orZ;rw [if_neg ha]),rfl⟩
set_option maxHeartbeats 800000 in
theorem order_any (a b:Svc) (w:World) :
 Calls Tryz.prog 184 #[.agg #[.string a.node,.string a.idn,.string a.name,.string a.tag,.int .i64 a.addr,.int .i64 a.port,.bool a.passing,.int .i64 a.version,.bool a.gone],.agg #[.string b.node,.string b.idn,.string b.name,.string b.tag,.int .i64 b.addr,.int .i64 b.port,.bool b.passing,.int .i64 b.version,.bool b.gone]] w fun e w'=>e=.returned (.int .i64 (ord a b))∧Below w.heap.size w w':=by
 go_enter Tryz.func184,Tryz.ntmps184
 go_wp2_with fail
 obtain ⟨W,hW⟩:∃ W,W=(w.alloc (.cells #[.string a.node,.string a.idn,.string a.name,.string a.tag,.int .i64 a.addr,.int .i64 a.port,.bool a.passing,.int .i64 a.version,.bool a.gone] 42)).alloc (.cells #[.string b.node,.string b.idn,.string b.name,.string b.tag,.int .i64 b.addr,.int .i64 b.port,.bool b.passing,.int .i64 b.version,.bool b.gone] 42):=⟨_,rfl⟩
 rw [← hW]
 have hbW:Below w.heap.size w W:=by rw [hW];exact ((Below.refl _ _).alloc (Nat.le_refl _) _).alloc (by simp) _
 have hga:W.heap[w.heap.size]?=some (.cells #[.string a.node,.string a.idn,.string a.name,.string a.tag,.int .i64 a.addr,.int .i64 a.port,.bool a.passing,.int .i64 a.version,.bool a.gone] 42 (0,0)):=by
  rw [hW,Below.heap_alloc _ _ _ (by simp)];exact heap_alloc_new w _
 have hgb:W.heap[w.heap.size+1]?=some (.cells #[.string b.node,.string b.idn,.string b.name,.string b.tag,.int .i64 b.addr,.int .i64 b.port,.bool b.passing,.int .i64 b.version,.bool b.gone] 42 (0,0)):=by
  have h:=heap_alloc_new (w.alloc (.cells #[.string a.node,.string a.idn,.string a.name,.string a.tag,.int .i64 a.addr,.int .i64 a.port,.bool a.passing,.int .i64 a.version,.bool a.gone] 42)) (.cells #[.string b.node,.string b.idn,.string b.name,.string b.tag,.int .i64 b.addr,.int .i64 b.port,.bool b.passing,.int .i64 b.version,.bool b.gone] 42)
  rw [hW];simpa using h
 have n0:W.cell? ⟨w.heap.size,0,none⟩=some (.string a.node):=cellsAt hga 0
 have n1:W.cell? ⟨w.heap.size,1,none⟩=some (.string a.idn):=cellsAt hga 1
 have m0:W.cell? ⟨w.heap.size+1,0,none⟩=some (.string b.node):=cellsAt hgb 0
 have m1:W.cell? ⟨w.heap.size+1,1,none⟩=some (.string b.idn):=cellsAt hgb 1
 have HBW:Hid (Below w.heap.size w W):=hbW
 have hsW:=hbW.size
 have h1:=World.new_ne W _ n0
 have h2:=World.new_ne W _ n1
 have h3:=World.new_ne W _ m0
 have h4:=World.new_ne W _ m1
 clear hga hgb hW hbW
 go_region_held3 (fun w'=>w'.cell? ⟨w.heap.size,0,none⟩=some (.string a.node)∧w'.cell? ⟨w.heap.size,1,none⟩=some (.string a.idn)∧w'.cell? ⟨w.heap.size+1,0,none⟩=some (.string b.node)∧w'.cell? ⟨w.heap.size+1,1,none⟩=some (.string b.idn)) (go_keep) (first | (go_at_call 99;refine (compare_any _ _ _).mono ?_;rintro e w' ⟨rfl,rfl⟩) | (go_at_call 210;refine (or_any (cmpI a.node b.node) (cmpI a.idn b.idn) _ _ _ (cell_topS rfl) (cell_topS rfl)).mono ?_;rintro e w' ⟨rfl,rfl⟩))
 go_wp2_with fail
 go_ret
 exact ⟨rfl,(HBW.out.alloc hsW _).drew⟩
end Sv
namespace Gw
open Go.RowKit
set_option maxHeartbeats 400000 in
theorem order_any (a b:Gwy) (w:World) :
 Calls Tryz.prog 187 #[.agg #[.string a.centre,.int .i64 a.addr,.int .i64 a.version],.agg #[.string b.centre,.int .i64 b.addr,.int .i64 b.version]] w fun e w'=>e=.returned (.int .i64 (ord a b))∧Below w.heap.size w w':=by
 go_enter Tryz.func187,Tryz.ntmps187
 go_wp2_with (go_at_call 99;refine (compare_any _ _ _).mono ?_;rintro e w' ⟨rfl,rfl⟩)
 go_ret
 exact ⟨rfl,((Below.refl _ _).alloc (Nat.le_refl _) _).alloc (by simp) _⟩
end Gw
end Go.Proofs.YtffdoiokmiklgaaGreatDoor
