import Derived.WalkKit
import Derived.Sort.Statements
import Derived.Test.YtignmeaeibaejaaGreatDoorV1
import Derived.Test.YtignmeaeibaejaaGreatDoorV2
import Derived.Test.YtignmeaeibaejaaGreatDoorV9
import Derived.Test.YtignmeaeibaejaaGreatDoorV10
import Derived.Deep.RegionHeld3
import Derived.Lib.QuietBelow
import Derived.Shelf.SlSortCmp.NoneTotal
import Derived.Test.YtignmeaeibaejaaGreatDoorProg
import Derived.Shelf.SlSortFunc.HeapSort
namespace Go.Proofs.YtignmeaeibaejaaGreatDoor
namespace So
open Go.Sort
section
variable {α:Type}
abbrev Up (lt:α→α→Bool) (l:List α):Prop:=l.Pairwise fun a b=>lt b a=false
theorem up_eq {lt:α→α→Bool} (ha:∀ a b,lt a b=false→lt b a=false→a=b):∀ {l m:List α},l.Perm m→Up lt l→Up lt m→l=m
 | [],m,hp,_,_=>(List.Perm.nil_eq hp)
 | a :: l,[],hp,_,_=>by have:=hp.length_eq;simp at this
 | a :: l,b :: m,hp,h1,h2=>by
   have h1':=List.pairwise_cons.1 h1
   have h2':=List.pairwise_cons.1 h2
   have hab:a=b:=by
    have m1:a∈b :: m:=hp.mem_iff.1 (List.mem_cons_self ..)
    have m2:b∈a :: l:=hp.mem_iff.2 (List.mem_cons_self ..)
    rcases List.mem_cons.1 m1 with e | e
    ·exact e
    ·rcases List.mem_cons.1 m2 with f | f
     ·exact f.symm
     ·exact ha a b (h2'.1 a e) (h1'.1 b f)
   subst hab
   rw [up_eq ha (List.Perm.cons_inv hp) h1'.2 h2'.2]
def pos (lt:α→α→Bool) (x:α):List α→Nat
 | []=>0
 | y :: r=>if lt x y=false then pos lt x r+1 else 0
def ins (lt:α→α→Bool) (x:α) (l:List α):List α:=l.take (pos lt x l)++x :: l.drop (pos lt x l)
theorem ins_perm (lt:α→α→Bool) (x:α) (l:List α):(ins lt x l).Perm (x :: l):=by
 unfold ins
 refine List.perm_middle.trans ?_
 rw [List.take_append_drop]
theorem ins_cons (lt:α→α→Bool) (x y:α) (r:List α):ins lt x (y :: r)=if lt x y=false then y :: ins lt x r else x :: y :: r:=by
 unfold ins
 by_cases h:lt x y=false
 ·rw [if_pos h,pos,if_pos h];rfl
 ·rw [if_neg h,pos,if_neg h];rfl
theorem ins_up {lt:α→α→Bool} (hs:SWO lt) (x:α):∀ {l:List α},Up lt l→Up lt (ins lt x l)
 | [],_=>by simp [ins,pos]
 | y :: r,h=>by
   have h':=List.pairwise_cons.1 h
   rw [ins_cons]
   split
   ·rename_i hy
    refine List.pairwise_cons.2 ⟨fun z hz=>?_,ins_up hs x h'.2⟩
    rcases List.mem_cons.1 ((ins_perm lt x r).mem_iff.1 hz) with rfl | hz
    ·exact hy
    ·exact h'.1 z hz
   ·rename_i hy
    have hy':lt x y=true:=by simpa using hy
    have hyx:lt y x=false:=by
     cases h2:lt y x
     ·rfl
     ·have:=hs.trans x y x hy' h2
      rw [hs.irrefl x] at this
      cases this
    refine List.pairwise_cons.2 ⟨fun z hz=>?_,h⟩
    rcases List.mem_cons.1 hz with rfl | hz
    ·exact hyx
    ·exact hs.ntrans z y x (h'.1 z hz) hyx
def insAll (lt:α→α→Bool) (l:List α):List α:=l.foldl (fun out x=>ins lt x out) []
theorem insAll_snoc (lt:α→α→Bool) (l:List α) (k:Nat) (d:α) (hk:k < l.length):insAll lt (l.take (k+1))=ins lt (l.getD k d) (insAll lt (l.take k)):=by
 rw [List.take_succ_eq_append_getElem hk,insAll,List.foldl_append]
 simp [List.getD,List.getElem?_eq_getElem hk,insAll]
theorem insAll_ok {lt:α→α→Bool} (hs:SWO lt) (l:List α):∀ k,Up lt (insAll lt (l.take k))∧(insAll lt (l.take k)).Perm (l.take k)
 | 0=>by simp [insAll]
 | k+1=>by
   obtain ⟨h1,h2⟩:=insAll_ok hs l k
   by_cases hk:k < l.length
   ·rw [insAll_snoc lt l k l[k] hk]
    refine ⟨ins_up hs _ h1,(ins_perm _ _ _).trans ?_⟩
    rw [List.take_succ_eq_append_getElem hk]
    have e:l.getD k l[k]=l[k]:=by simp [List.getD,List.getElem?_eq_getElem hk]
    rw [e]
    exact (List.Perm.cons _ h2).trans (List.perm_append_singleton _ _).symm
   ·rw [List.take_of_length_le (by omega)]
    rw [List.take_of_length_le (by omega)] at h1 h2
    exact ⟨h1,h2⟩
theorem insAll_len (lt:α→α→Bool) (l:List α) (hs:SWO lt) (k:Nat) (hk:k≤l.length):(insAll lt (l.take k)).length=k:=by
 rw [(insAll_ok hs l k).2.length_eq,List.length_take];omega
theorem insAll_eq {lt:α→α→Bool} (hs:SWO lt) (ha:∀ a b,lt a b=false→lt b a=false→a=b) {l m:List α} (hp:m.Perm l) (hu:Up lt m):m=insAll lt l:=by
 obtain ⟨h1,h2⟩:=insAll_ok hs l l.length
 rw [List.take_length] at h1 h2
 exact up_eq ha (hp.trans h2.symm) hu h1
end
end So
end Go.Proofs.YtignmeaeibaejaaGreatDoor
namespace Go.Proofs.YtignmeaeibaejaaGreatDoor
open Go.RowKit
theorem cmpI_self (a:ByteArray):cmpI a a=0:=(cmpI_eq a a).2 rfl
theorem cmpI_flip (a b:ByteArray):0 < cmpI a b↔cmpI b a < 0:=by rw [cmpI_gt,cmpI_lt]
theorem cmpI_trans (a b c:ByteArray) (h1:cmpI a b < 0) (h2:cmpI b c < 0):cmpI a c < 0:=by
 rw [cmpI_lt] at *;exact less_trans h1 h2
namespace RL
section
variable {α:Type}
theorem keyed_txt (f:α→ByteArray):Keyed fun a b=>cmpI (f a) (f b) where
 refl a:=cmpI_self _
 gt a b:=cmpI_flip _ _
 trans a b c h1 h2:=cmpI_trans _ _ _ h1 h2
 left a b c h:=by rw [(cmpI_eq _ _).1 h]
 right a b c h:=by rw [(cmpI_eq _ _).1 h]
def lex (o p:α→α→Int) (a b:α):Int:=if o a b=0 then p a b else o a b
theorem keyed_lex {o p:α→α→Int} (h:Keyed o) (k:Keyed p):Keyed (lex o p) where
 refl a:=by rw [lex,if_pos (h.refl a),k.refl a]
 gt a b:=by
  unfold lex
  by_cases e:o a b=0
  ·rw [if_pos e,if_pos (h.symm e)];exact k.gt a b
  ·rw [if_neg e,if_neg (fun e2=>e (h.symm e2))];exact h.gt a b
 trans a b c h1 h2:=by
  unfold lex at *
  by_cases e:o a b=0
  ·rw [if_pos e] at h1
   by_cases e2:o b c=0
   ·rw [if_pos e2] at h2
    rw [if_pos (h.eqt e e2)];exact k.trans _ _ _ h1 h2
   ·rw [if_neg e2] at h2
    rw [if_neg (fun e3=>e2 (h.eqt (h.symm e) e3)),h.left a b c e];exact h2
  ·rw [if_neg e] at h1
   by_cases e2:o b c=0
   ·rw [if_neg (fun e3=>e (h.eqt e3 (h.symm e2))),← h.right b c a e2];exact h1
   ·rw [if_neg e2] at h2
    have h3:=h.trans _ _ _ h1 h2
    rw [if_neg (by omega)];exact h3
 left a b c e:=by
  unfold lex at *
  by_cases e1:o a b=0
  ·rw [if_pos e1] at e
   rw [h.left a b c e1,k.left a b c e]
  ·rw [if_neg e1] at e;exact absurd e e1
 right a b c e:=by
  unfold lex at *
  by_cases e1:o a b=0
  ·rw [if_pos e1] at e
   rw [h.right a b c e1,k.right a b c e]
  ·rw [if_neg e1] at e;exact absurd e e1
end
end RL
end Go.Proofs.YtignmeaeibaejaaGreatDoor
namespace Go.Proofs.YtignmeaeibaejaaGreatDoor
open Go.RowKit Go.Sort Go.Lib Go.WideMaps Go.Maps
def cfN (d:ByteArray→Int) (a b:ByteArray):Int:=orZ (cmpZ (d a) (d b)) (cmpI a b)
theorem cfN_neg (d:ByteArray→Int) (a b:ByteArray):cfN d a b < 0↔d a < d b∨(d a=d b∧cmpI a b < 0):=by
 unfold cfN orZ cmpZ
 generalize d a=x
 generalize d b=y
 repeat' split
 all_goals omega
def ltN (d:ByteArray→Int) (a b:ByteArray):Bool:=decide (cfN d a b < 0)
theorem ltN_true (d:ByteArray→Int) (a b:ByteArray):ltN d a b=true↔d a < d b∨(d a=d b∧cmpI a b < 0):=by
 rw [ltN,decide_eq_true_iff,cfN_neg]
theorem ltN_false (d:ByteArray→Int) (a b:ByteArray):ltN d a b=false↔¬ (d a < d b∨(d a=d b∧cmpI a b < 0)):=by
 rw [← ltN_true,Bool.not_eq_true]
theorem cmpI_ge {a b c:ByteArray} (h1:¬ cmpI a b < 0) (h2:¬ cmpI b c < 0):¬ cmpI a c < 0:=fun h=>by
 rcases Int.lt_trichotomy (cmpI a b) 0 with h3 | h3 | h3
 ·exact h1 h3
 ·have e:=(cmpI_eq a b).1 h3
  rw [e] at h
  exact h2 h
 ·exact h2 (cmpI_trans b a c ((cmpI_flip a b).1 h3) h)
theorem swoN (d:ByteArray→Int):SWO (ltN d) where
 irrefl x:=by rw [ltN_false,cmpI_self];omega
 trans x y z h1 h2:=by
  rw [ltN_true] at *
  rcases h1 with h1 | ⟨h1,h3⟩
  ·rcases h2 with h2 | ⟨h2,_⟩<;>omega
  ·rcases h2 with h2 | ⟨h2,h4⟩
   ·omega
   ·exact .inr ⟨by omega,cmpI_trans x y z h3 h4⟩
 ntrans x y z h1 h2:=by
  rw [ltN_false] at *
  rintro (h | ⟨h,h3⟩)
  ·omega
  ·have hd:d x=d y∧d y=d z:=by omega
   exact cmpI_ge (fun h4=>h1 (.inr ⟨hd.1,h4⟩)) (fun h4=>h2 (.inr ⟨hd.2,h4⟩)) h3
theorem ltN_anti (d:ByteArray→Int) (a b:ByteArray) (h1:ltN d a b=false) (h2:ltN d b a=false):a=b:=by
 rw [ltN_false] at *
 have hd:d a=d b:=by omega
 have h3:¬ cmpI a b < 0:=fun h=>h1 (.inr ⟨hd,h⟩)
 have h4:¬ cmpI b a < 0:=fun h=>h2 (.inr ⟨hd.symm,h⟩)
 have h5:=cmpI_flip a b
 exact (cmpI_eq a b).1 (by omega)
def srt (p:Pl) (ms:List Wh.Whe) (ns:List ByteArray):List ByteArray:=So.insAll (ltN (dV (Dd (farW p) ms ms.length))) ns
end Go.Proofs.YtignmeaeibaejaaGreatDoor
namespace Go.Proofs.YtignmeaeibaejaaGreatDoor
namespace Sv
open Go.RowKit
def ord:Svc→Svc→Int:=RL.lex (fun a b=>cmpI a.node b.node) (fun a b=>cmpI a.idn b.idn)
theorem keyed:RL.Keyed ord:=RL.keyed_lex (RL.keyed_txt Svc.node) (RL.keyed_txt Svc.idn)
abbrev Rise (ms:List Svc):Prop:=RL.Rise ord ms
abbrev risesB (ms:List Svc):Bool:=RL.risesB ord ms
theorem rises_allO (ms:List Svc) (h:∀ j,j+1 < ms.length→ord (ms.getD j dm) (ms.getD (j+1) dm) < 0):risesB ms=true:=RL.rises_all ord dm ms h
theorem rises_getO (ms:List Svc) (h:risesB ms=true):∀ j,j+1 < ms.length→ord (ms.getD j dm) (ms.getD (j+1) dm) < 0:=RL.rises_get ord dm ms h
def tagB (t:ByteArray):Bool:=decide (t=ByteArray.empty) || labB t
def Svc.e (m:Svc):Int:=
 if (labB m.node && (labB m.idn && (labB m.name && tagB m.tag)))=true then (if (within m.addr 0 4294967295 && (within m.port 0 65535 && within m.version 1 1000000))=true then 0 else 3) else 1
def firstE:List Svc→Int
 | []=>0
 | m :: r=>if m.e=0 then firstE r else m.e
theorem firstE_zero:∀ (ms:List Svc),(∀ j,j < ms.length→(ms.getD j dm).e=0)→firstE ms=0
 | [],_=>rfl
 | m :: r,h=>by
   have h0:=h 0 (by simp)
   simp only [List.getD_cons_zero] at h0
   rw [firstE,if_pos h0]
   exact firstE_zero r fun j hj=>by have:=h (j+1) (by simpa using hj);simpa using this
theorem firstE_at:∀ (ms:List Svc) (k:Nat),k < ms.length→(∀ j,j < k→(ms.getD j dm).e=0)→(ms.getD k dm).e≠0→firstE ms=(ms.getD k dm).e
 | [],k,h,_,_=>by simp at h
 | m :: r,0,_,_,hne=>by
   simp only [List.getD_cons_zero] at hne ⊢
   rw [firstE,if_neg hne]
 | m :: r,k+1,h,hz,hne=>by
   have h0:=hz 0 (by omega)
   simp only [List.getD_cons_zero] at h0
   rw [firstE,if_pos h0,List.getD_cons_succ]
   rw [List.getD_cons_succ] at hne
   exact firstE_at r k (by simpa using h) (fun j hj=>by have:=hz (j+1) (by omega);simpa using this) hne
theorem firstE_mem:∀ (ms:List Svc),firstE ms=0→∀ m∈ms,m.e=0
 | [],_,m,hm=>by simp at hm
 | x :: r,h,m,hm=>by
   rw [firstE] at h
   split at h
   ·rename_i hx
    rcases List.mem_cons.1 hm with rfl | hm
    ·exact hx
    ·exact firstE_mem r h m hm
   ·rename_i hx;exact absurd h hx
def chk (ms:List Svc):Int:=if 40 < ms.length then 2 else if firstE ms=0 then (if risesB ms=true then 0 else 4) else firstE ms
theorem chk_e (ms:List Svc) (k:Nat) (hn:ms.length≤40) (hk:k < ms.length) (hz:∀ j,j < k→(ms.getD j dm).e=0) (hne:(ms.getD k dm).e≠0):chk ms=(ms.getD k dm).e:=by
 have h:=firstE_at ms k hk hz hne
 rw [chk,if_neg (by omega),h,if_neg hne]
theorem chk_r (ms:List Svc) (hn:ms.length≤40) (hz:∀ j,j < ms.length→(ms.getD j dm).e=0):chk ms=if risesB ms=true then 0 else 4:=by
 rw [chk,if_neg (by omega),firstE_zero ms hz,if_pos rfl]
theorem chk_zero {ms:List Svc} (h:chk ms=0):ms.length≤40∧Rise ms∧firstE ms=0:=by
 unfold chk at h
 split at h
 ·omega
 ·split at h
  ·rename_i h1 h2
   split at h
   ·rename_i h3
    exact ⟨by omega,RL.rise_of ord keyed ms h3,h2⟩
   ·omega
  ·rename_i h1 h2;exact absurd h h2
end Sv
namespace Sv
open Go.RowKit
theorem cell_topS {W:World} {cs:Array Value} {t:TypeId} {g k:Nat} (hg:g=W.heap.size):(W.alloc (.cells cs t)).cell? ⟨g,k,none⟩=cs[k]?:=by subst hg;simp
def orZ (a b:Int):Int:=if a=0 then b else a
set_option maxHeartbeats 800000 in
theorem or_any (a b:Int) (g:Nat) (c:Nat) (w:World) (h0:w.cell? ⟨g,0,none⟩=some (.int .i64 a)) (h1:w.cell? ⟨g,1,none⟩=some (.int .i64 b)) :
 Calls Tryz.prog 100 #[.slice (some ⟨g,0,none⟩) 2 c] w fun e w'=>e=.returned (.int .i64 (orZ a b))∧w'=w:=by
 by_cases ha:a=0
 ·subst ha
  by_cases hb:b=0
  ·subst hb
   go_enter Tryz.func100,Tryz.ntmps100
   go_wp2_with fail
   refine wp_loop_rounds 3 ?_
   rw [rounds_succ]
   go_wp2_with fail
   rw [rounds_succ]
   go_wp2_with fail
   rw [rounds_succ]
   go_wp2_with fail
   go_ret
   exact ⟨rfl,rfl⟩
  ·have hb':(b != 0)=true:=by simpa using hb
   go_enter Tryz.func100,Tryz.ntmps100
   go_wp2_with fail
   refine wp_loop_rounds 3 ?_
   rw [rounds_succ]
   go_wp2_with fail
   rw [rounds_succ]
   go_wp2_with fail
   go_ret
   exact ⟨rfl,rfl⟩
 ·have ha':(a != 0)=true:=by simpa using ha
  go_enter Tryz.func100,Tryz.ntmps100
  go_wp2_with fail
  refine wp_loop_rounds 3 ?_
  rw [rounds_succ]
  go_wp2_with fail
  go_ret
  exact ⟨ret_int (by unfold orZ;rw [if_neg ha]),rfl⟩
set_option maxHeartbeats 800000 in
theorem order_any (a b:Svc) (w:World) :
 Calls Tryz.prog 67 #[.agg #[.string a.node,.string a.idn,.string a.name,.string a.tag,.int .i64 a.addr,.int .i64 a.port,.bool a.passing,.int .i64 a.version,.bool a.gone],.agg #[.string b.node,.string b.idn,.string b.name,.string b.tag,.int .i64 b.addr,.int .i64 b.port,.bool b.passing,.int .i64 b.version,.bool b.gone]] w fun e w'=>e=.returned (.int .i64 (ord a b))∧Below w.heap.size w w':=by
 go_enter Tryz.func67,Tryz.ntmps67
 go_wp2_with fail
 obtain ⟨W,hW⟩:∃ W,W=(w.alloc (.cells #[.string a.node,.string a.idn,.string a.name,.string a.tag,.int .i64 a.addr,.int .i64 a.port,.bool a.passing,.int .i64 a.version,.bool a.gone] 57)).alloc (.cells #[.string b.node,.string b.idn,.string b.name,.string b.tag,.int .i64 b.addr,.int .i64 b.port,.bool b.passing,.int .i64 b.version,.bool b.gone] 57):=⟨_,rfl⟩
 rw [← hW]
 have hbW:Below w.heap.size w W:=by rw [hW];exact ((Below.refl _ _).alloc (Nat.le_refl _) _).alloc (by simp) _
 have hga:W.heap[w.heap.size]?=some (.cells #[.string a.node,.string a.idn,.string a.name,.string a.tag,.int .i64 a.addr,.int .i64 a.port,.bool a.passing,.int .i64 a.version,.bool a.gone] 57 (0,0)):=by
  rw [hW,Below.heap_alloc _ _ _ (by simp)];exact heap_alloc_new w _
 have hgb:W.heap[w.heap.size+1]?=some (.cells #[.string b.node,.string b.idn,.string b.name,.string b.tag,.int .i64 b.addr,.int .i64 b.port,.bool b.passing,.int .i64 b.version,.bool b.gone] 57 (0,0)):=by
  have h:=heap_alloc_new (w.alloc (.cells #[.string a.node,.string a.idn,.string a.name,.string a.tag,.int .i64 a.addr,.int .i64 a.port,.bool a.passing,.int .i64 a.version,.bool a.gone] 57)) (.cells #[.string b.node,.string b.idn,.string b.name,.string b.tag,.int .i64 b.addr,.int .i64 b.port,.bool b.passing,.int .i64 b.version,.bool b.gone] 57)
  rw [hW];simpa using h
 have n0:W.cell? ⟨w.heap.size,0,none⟩=some (.string a.node):=cellsAt hga 0
 have n1:W.cell? ⟨w.heap.size,1,none⟩=some (.string a.idn):=cellsAt hga 1
 have m0:W.cell? ⟨w.heap.size+1,0,none⟩=some (.string b.node):=cellsAt hgb 0
 have m1:W.cell? ⟨w.heap.size+1,1,none⟩=some (.string b.idn):=cellsAt hgb 1
 have HBW:Hid (Below w.heap.size w W):=hbW
 have hsW:=hbW.size
 have h1:=World.new_ne W _ n0
 have h2:=World.new_ne W _ n1
 have h3:=World.new_ne W _ m0
 have h4:=World.new_ne W _ m1
 clear hga hgb hW hbW
 go_region_held3 (fun w'=>w'.cell? ⟨w.heap.size,0,none⟩=some (.string a.node)∧w'.cell? ⟨w.heap.size,1,none⟩=some (.string a.idn)∧w'.cell? ⟨w.heap.size+1,0,none⟩=some (.string b.node)∧w'.cell? ⟨w.heap.size+1,1,none⟩=some (.string b.idn)) (go_keep) (first | (go_at_call 101;refine (compare_any _ _ _).mono ?_;rintro e w' ⟨rfl,rfl⟩) | (go_at_call 100;refine (or_any (cmpI a.node b.node) (cmpI a.idn b.idn) _ _ _ (cell_topS rfl) (cell_topS rfl)).mono ?_;rintro e w' ⟨rfl,rfl⟩))
 go_wp2_with fail
 go_ret
 exact ⟨rfl,(HBW.out.alloc hsW _).drew⟩
end Sv
namespace Sv
open Go.RowKit
set_option maxHeartbeats 800000 in
set_option maxRecDepth 100000 in
theorem rises_row (ms:List Svc) (b off cap:Nat) (w:World) (hr:Row w b off ms) (hb:b < w.heap.size) (hn:ms.length≤40) :
 Calls Tryz.prog 66 #[.slice (some ⟨b,off,none⟩) ms.length cap,.func (.func 67) #[] #[]] w fun e w'=>e=.returned (.bool (risesB ms))∧Below w.heap.size w w':=by
 have HR:Hid (Row w b off ms):=hr
 clear hr
 have H4:Hid (∀ k,k+1 < ms.length→0≤ord (ms.getD k dm) (ms.getD (k+1) dm)→risesB ms=false):=fun k hk hl=>by
  rcases h:risesB ms with _ | _
  ·rfl
  ·have:=rises_getO ms h k hk;omega
 have H0:Hid ((∀ j,j+1 < ms.length→ord (ms.getD j dm) (ms.getD (j+1) dm) < 0)→risesB ms=true):=rises_allO ms
 generalize hN:ms.length=n at *
 have HN:Hid (ms.length=n):=hN
 clear hN
 generalize hC:risesB ms=res at *
 have HC:Hid (risesB ms=res):=hC
 clear hC
 go_enter Tryz.func66,Tryz.ntmps66
 go_wp2_with fail
 go_loopw [5] (fun i w'=>∃ k:Nat,(k+1≤n∨k=0)∧i=.int .i64 (k+1)∧Below w.heap.size w w'∧Hid (∀ j,j < k→ord (ms.getD j dm) (ms.getD (j+1) dm) < 0)) (fun i _=>n - (intOf i).toNat)
 case atStart=>exact ⟨0,.inr rfl,rfl,Below.refl _ _,fun j h=>absurd h (Nat.not_lt_zero _)⟩
 case round=>
  obtain ⟨q,hq,rfl,hbl,hz⟩:=hrel
  obtain ⟨hbc,hbf⟩:=bcell hbl
  have hsz:=hbl.size
  by_cases hlt:q+1 < n
  ·obtain ⟨c0,c1,c2,c3,c4,c5,c6,c7,c8⟩:=HR.out q (by rw [HN.out];omega)
   obtain ⟨d0,d1,d2,d3,d4,d5,d6,d7,d8⟩:=HR.out (q+1) (by rw [HN.out];exact hlt)
   have HK:Hid (0≤ord (ms.getD q dm) (ms.getD (q+1) dm)→res=false):=fun h=>H4.out q hlt h
   have HZ:Hid (ord (ms.getD q dm) (ms.getD (q+1) dm) < 0→∀ j,j < q+1→ord (ms.getD j dm) (ms.getD (j+1) dm) < 0):=fun h j hj=>by
    rcases Nat.lt_succ_iff_lt_or_eq.1 hj with h2 | rfl
    ·exact hz.out j h2
    ·exact h
   generalize ms.getD q dm=m1 at *
   generalize ms.getD (q+1) dm=m2 at *
   have hN:∀ d os,Calls Tryz.prog 67 #[.agg #[.string m1.node,.string m1.idn,.string m1.name,.string m1.tag,.int .i64 m1.addr,.int .i64 m1.port,.bool m1.passing,.int .i64 m1.version,.bool m1.gone],.agg #[.string m2.node,.string m2.idn,.string m2.name,.string m2.tag,.int .i64 m2.addr,.int .i64 m2.port,.bool m2.passing,.int .i64 m2.version,.bool m2.gone]] (Go.Sort.grow (redrawn wr d) os) fun e w''=>e=.returned (.int .i64 (ord m1 m2))∧∃ p:Regrown,w''=Go.Sort.grow (redrawn wr p.d) p.os:=fun d os=>Calls.regrown_of (order_any m1 m2 _)
   have F0:∀ d os,(Go.Sort.grow (redrawn wr d) os).cell? ⟨b,off+q * 9,none⟩=some (.string m1.node):=cell_regrown ((hbc _ _ hb).trans c0)
   have F1:∀ d os,(Go.Sort.grow (redrawn wr d) os).cell? ⟨b,off+q * 9+1,none⟩=some (.string m1.idn):=cell_regrown ((hbc _ _ hb).trans c1)
   have F2:∀ d os,(Go.Sort.grow (redrawn wr d) os).cell? ⟨b,off+q * 9+2,none⟩=some (.string m1.name):=cell_regrown ((hbc _ _ hb).trans c2)
   have F3:∀ d os,(Go.Sort.grow (redrawn wr d) os).cell? ⟨b,off+q * 9+3,none⟩=some (.string m1.tag):=cell_regrown ((hbc _ _ hb).trans c3)
   have F4:∀ d os,(Go.Sort.grow (redrawn wr d) os).cell? ⟨b,off+q * 9+4,none⟩=some (.int .i64 m1.addr):=cell_regrown ((hbc _ _ hb).trans c4)
   have F5:∀ d os,(Go.Sort.grow (redrawn wr d) os).cell? ⟨b,off+q * 9+5,none⟩=some (.int .i64 m1.port):=cell_regrown ((hbc _ _ hb).trans c5)
   have F6:∀ d os,(Go.Sort.grow (redrawn wr d) os).cell? ⟨b,off+q * 9+6,none⟩=some (.bool m1.passing):=cell_regrown ((hbc _ _ hb).trans c6)
   have F7:∀ d os,(Go.Sort.grow (redrawn wr d) os).cell? ⟨b,off+q * 9+7,none⟩=some (.int .i64 m1.version):=cell_regrown ((hbc _ _ hb).trans c7)
   have F8:∀ d os,(Go.Sort.grow (redrawn wr d) os).cell? ⟨b,off+q * 9+8,none⟩=some (.bool m1.gone):=cell_regrown ((hbc _ _ hb).trans c8)
   have G0:∀ d os,(Go.Sort.grow (redrawn wr d) os).cell? ⟨b,off+(q+1) * 9,none⟩=some (.string m2.node):=cell_regrown ((hbc _ _ hb).trans d0)
   have G1:∀ d os,(Go.Sort.grow (redrawn wr d) os).cell? ⟨b,off+(q+1) * 9+1,none⟩=some (.string m2.idn):=cell_regrown ((hbc _ _ hb).trans d1)
   have G2:∀ d os,(Go.Sort.grow (redrawn wr d) os).cell? ⟨b,off+(q+1) * 9+2,none⟩=some (.string m2.name):=cell_regrown ((hbc _ _ hb).trans d2)
   have G3:∀ d os,(Go.Sort.grow (redrawn wr d) os).cell? ⟨b,off+(q+1) * 9+3,none⟩=some (.string m2.tag):=cell_regrown ((hbc _ _ hb).trans d3)
   have G4:∀ d os,(Go.Sort.grow (redrawn wr d) os).cell? ⟨b,off+(q+1) * 9+4,none⟩=some (.int .i64 m2.addr):=cell_regrown ((hbc _ _ hb).trans d4)
   have G5:∀ d os,(Go.Sort.grow (redrawn wr d) os).cell? ⟨b,off+(q+1) * 9+5,none⟩=some (.int .i64 m2.port):=cell_regrown ((hbc _ _ hb).trans d5)
   have G6:∀ d os,(Go.Sort.grow (redrawn wr d) os).cell? ⟨b,off+(q+1) * 9+6,none⟩=some (.bool m2.passing):=cell_regrown ((hbc _ _ hb).trans d6)
   have G7:∀ d os,(Go.Sort.grow (redrawn wr d) os).cell? ⟨b,off+(q+1) * 9+7,none⟩=some (.int .i64 m2.version):=cell_regrown ((hbc _ _ hb).trans d7)
   have G8:∀ d os,(Go.Sort.grow (redrawn wr d) os).cell? ⟨b,off+(q+1) * 9+8,none⟩=some (.bool m2.gone):=cell_regrown ((hbc _ _ hb).trans d8)
   clear c0 c1 c2 c3 c4 c5 c6 c7 c8 d0 d1 d2 d3 d4 d5 d6 d7 d8 hbc hbf
   generalize ord m1 m2=r at *
   have hwq:IntKind.i64.wrap (q:Int)=(q:Int):=by rw [IntKind.wrap_i64];omega
   have hqn:q < n:=by omega
   have hq1:(q:Int)+1 < (n:Int):=by omega
   have hq0:(0:Int)≤(q:Int)+1:=by omega
   have htn:((q:Int)+1).toNat=q+1:=by omega
   by_cases hl:r < 0
   ·have hl2:¬ (0≤r):=by omega
    go_wp2_with fail
    refine wp_region_quiet_below (by kernel_rfl) (by kernel_rfl) ?_
    repeat (quiet_step (exact hN _ _))
    refine wpQuiet_nil ?_
    intro _ hw'
    obtain ⟨⟨dq,osq⟩,hw''⟩:=hw'
    subst hw''
    have HBQ:Hid (Below wr.heap.size wr (Go.Sort.grow (redrawn wr dq) osq)):=below_regrown wr dq osq
    clear hN F0 F1 F2 F3 F4 F5 F6 F7 F8 G0 G1 G2 G3 G4 G5 G6 G7 G8
    go_wp2_with fail
    go_roundw
    case rel=>exact ⟨q+1,.inl (by omega),by go_num,hbl.trans (HBQ.out.mono hsz),HZ.out hl⟩
    case measure=>simp [intOf];omega
   ·have hl2:0≤r:=by omega
    have h4:Hid (res=false):=HK.out hl2
    go_wp2_with fail
    refine wp_region_quiet_below (by kernel_rfl) (by kernel_rfl) ?_
    repeat (quiet_step (exact hN _ _))
    refine wpQuiet_nil ?_
    intro _ hw'
    obtain ⟨⟨dq,osq⟩,hw''⟩:=hw'
    subst hw''
    have HBQ:Hid (Below wr.heap.size wr (Go.Sort.grow (redrawn wr dq) osq)):=below_regrown wr dq osq
    clear hN F0 F1 F2 F3 F4 F5 F6 F7 F8 G0 G1 G2 G3 G4 G5 G6 G7 G8
    go_wp2_with fail
    go_ret
    exact ⟨ret_bool h4.out.symm,hbl.trans (HBQ.out.mono hsz)⟩
  ·have h0:Hid (res=true):=H0.out fun j hj=>hz.out j (by omega)
   go_wp2_with fail
   go_ret
   exact ⟨ret_bool h0.out.symm,hbl⟩
set_option maxHeartbeats 400000 in
theorem rises_none (a:Option Addr) (cap:Nat) (fv:Value) (w:World) :
 Calls Tryz.prog 66 #[.slice a 0 cap,fv] w fun e w'=>e=.returned (.bool true)∧w'=w:=by
 go_enter Tryz.func66,Tryz.ntmps66
 go_wp2_with fail
 go_loop [5] (fun i=>i=.int .i64 1) (fun _=>0)
 case atStart=>rfl
 case round=>
  subst hrel
  go_wp2_with fail
  go_ret
  exact ⟨rfl,rfl⟩
end Sv
namespace Sv
open Go.RowKit
end Sv
end Go.Proofs.YtignmeaeibaejaaGreatDoor
namespace Go.Proofs
open Go.Shelf
def Tryz.sortS_ren:Go.Shelf.Ren:=⟨fun | 6=>153 | 15=>163 | 14=>162 | 28=>179 | 29=>180 | 20=>171 | 21=>172 | 22=>173 | 23=>174 | 24=>175 | 25=>176 | 26=>177 | 27=>178 | 46=>185 | 47=>186 | 48=>187 | 49=>188 | 50=>189 | 57=>190 | n=>n,fun | 22=>81 | 24=>9 | 25=>138 | 3=>3 | 39=>70 | 0=>0 | 53=>201 | 55=>203 | 4=>4 | 46=>195 | 45=>194 | 50=>181 | 5=>5 | 9=>9 | 66=>206 | 70=>210 | 76=>216 | 77=>217 | n=>n,fun | n=>n⟩
theorem Tryz.sortS:Go.Proofs.SlLaysF.n6 Tryz.prog Tryz.sortS_ren:={
 mixed:=by kernel_rfl
 f6:=⟨Tryz.f153.name,by decide,Tryz.func153.trans (congrArg some (by kernel_rfl))⟩
 f14:=⟨Tryz.f162.name,by decide,Tryz.func162.trans (congrArg some (by kernel_rfl))⟩
 f15:=Tryz.func163.trans (congrArg some (by kernel_rfl))
 f20:=⟨Tryz.f171.name,by decide,Tryz.func171.trans (congrArg some (by kernel_rfl))⟩
 f21:=⟨Tryz.f172.name,by decide,Tryz.func172.trans (congrArg some (by kernel_rfl))⟩
 f22:=⟨Tryz.f173.name,by decide,Tryz.func173.trans (congrArg some (by kernel_rfl))⟩
 f23:=⟨Tryz.f174.name,by decide,Tryz.func174.trans (congrArg some (by kernel_rfl))⟩
 f24:=⟨Tryz.f175.name,by decide,Tryz.func175.trans (congrArg some (by kernel_rfl))⟩
 f25:=⟨Tryz.f176.name,by decide,Tryz.func176.trans (congrArg some (by kernel_rfl))⟩
 f26:=⟨Tryz.f177.name,by decide,Tryz.func177.trans (congrArg some (by kernel_rfl))⟩
 f27:=⟨Tryz.f178.name,by decide,Tryz.func178.trans (congrArg some (by kernel_rfl))⟩
 f28:=Tryz.func179.trans (congrArg some (by kernel_rfl))
 f29:=Tryz.func180.trans (congrArg some (by kernel_rfl))
 f46:=⟨Tryz.f185.name,by decide,Tryz.func185.trans (congrArg some (by kernel_rfl))⟩
 f47:=Tryz.func186.trans (congrArg some (by kernel_rfl))
 f48:=Tryz.func187.trans (congrArg some (by kernel_rfl))
 f49:=⟨Tryz.f188.name,by decide,Tryz.func188.trans (congrArg some (by kernel_rfl))⟩
 f50:=⟨Tryz.f189.name,by decide,Tryz.func189.trans (congrArg some (by kernel_rfl))⟩
 f57:=⟨Tryz.f190.name,by decide,Tryz.func190.trans (congrArg some (by kernel_rfl))⟩
 t0:=Tryz.underlying0
 a0:=Tryz.isAgg0
 z0:=Tryz.sizeOf0
 v0:=Tryz.zeroValue0
 t3:=Tryz.underlying3
 a3:=Tryz.isAgg3
 z3:=Tryz.sizeOf3
 v3:=Tryz.zeroValue3
 t4:=Tryz.underlying4
 a4:=Tryz.isAgg4
 z4:=Tryz.sizeOf4
 v4:=Tryz.zeroValue4
 t5:=Tryz.underlying5
 a5:=Tryz.isAgg5
 z5:=Tryz.sizeOf5
 v5:=Tryz.zeroValue5
 t9:=Tryz.underlying9
 a9:=Tryz.isAgg9
 z9:=Tryz.sizeOf9
 v9:=Tryz.zeroValue9
 t22:=Tryz.underlying81
 a22:=Tryz.isAgg81
 z22:=Tryz.sizeOf81
 v22:=Tryz.zeroValue81
 a24:=Tryz.isAgg9
 z24:=Tryz.sizeOf9
 t25:=Tryz.underlying138
 a25:=Tryz.isAgg138
 z25:=Tryz.sizeOf138
 v25:=Tryz.zeroValue138
 t39:=Tryz.underlying70
 a39:=Tryz.isAgg70
 z39:=Tryz.sizeOf70
 v39:=Tryz.zeroValue70
 t45:=Tryz.underlying194
 a45:=Tryz.isAgg194
 z45:=Tryz.sizeOf194
 v45:=Tryz.zeroValue194
 t46:=Tryz.underlying195
 a46:=Tryz.isAgg195
 z46:=Tryz.sizeOf195
 v46:=Tryz.zeroValue195
 t50:=Tryz.underlying181
 a50:=Tryz.isAgg181
 z50:=Tryz.sizeOf181
 v50:=Tryz.zeroValue181
 t53:=Tryz.underlying201
 a53:=Tryz.isAgg201
 z53:=Tryz.sizeOf201
 v53:=Tryz.zeroValue201
 t55:=Tryz.underlying203
 a55:=Tryz.isAgg203
 z55:=Tryz.sizeOf203
 v55:=Tryz.zeroValue203
 t66:=Tryz.underlying206
 a66:=Tryz.isAgg206
 z66:=Tryz.sizeOf206
 v66:=Tryz.zeroValue206
 t70:=Tryz.underlying210
 a70:=Tryz.isAgg210
 z70:=Tryz.sizeOf210
 v70:=Tryz.zeroValue210
 t76:=Tryz.underlying216
 a76:=Tryz.isAgg216
 z76:=Tryz.sizeOf216
 v76:=Tryz.zeroValue216
 t77:=Tryz.underlying217
 a77:=Tryz.isAgg217
 z77:=Tryz.sizeOf217
 v77:=Tryz.zeroValue217 }
end Go.Proofs
namespace Go.Proofs.YtignmeaeibaejaaGreatDoor
open Go.RowKit Go.Sort Go.Shelf Go.Lib Go.WideMaps Go.Maps
def nm (ns:List ByteArray) (x:Nat):ByteArray:=ns.getD x ByteArray.empty
def cfF (ns:List ByteArray) (d:ByteArray→Int) (m:Nat) (x y:Fin (m+1)):Int:=cfN d (nm ns x.val) (nm ns y.val)
theorem ltF_is (ns:List ByteArray) (d:ByteArray→Int) (m:Nat) (x y:Fin (m+1)):ltOf (cfF ns d m) x y=ltN d (nm ns x.val) (nm ns y.val):=rfl
theorem swoF (ns:List ByteArray) (d:ByteArray→Int) (m:Nat):SWO (ltOf (cfF ns d m)) where
 irrefl _:=(swoN d).irrefl _
 trans _ _ _ h1 h2:=(swoN d).trans _ _ _ h1 h2
 ntrans _ _ _ h1 h2:=(swoN d).ntrans _ _ _ h1 h2
def encN (ns:List ByteArray) (m:Nat) (x:Fin (m+1)):Value:=.string (nm ns x.val)
def allF (m:Nat):Array (Fin (m+1)):=Array.ofFn (fun x=>x)
theorem allF_size (m:Nat):(allF m).size=m+1:=by simp [allF]
theorem allF_get (m j:Nat) (hj:j < m+1):(allF m)[j]! = ⟨j,hj⟩:=by
 rw [getElem!_pos _ j (by rw [allF_size];exact hj)]
 simp [allF]
theorem allF_names (ns:List ByteArray) (m:Nat) (hn:ns.length=m+1):(allF m).toList.map (fun x=>nm ns x.val)=ns:=by
 apply List.ext_getElem
 ·simp [allF,hn]
 ·intro j h1 h2
  rw [List.getElem_map,Array.getElem_toList]
  simp only [allF,Array.getElem_ofFn,nm]
  simp [List.getD,List.getElem?_eq_getElem h2]
theorem alloc_grow (W:World) (o:Obj):(W.alloc o).drew=grow (W.drewN 1) #[o]:=by
 simp only [grow,World.alloc,World.drew,World.drewN,Array.push_eq_append]
theorem sortWorld_block {α:Type} [Inhabited α] (enc:α→Value) (w:World) (b off q g:Nat) (dk:Array α) (os:Array Obj) (hne:g≠b) (hl:g < w.heap.size):(sortWorld enc w b off q dk os).heap[g]?=w.heap[g]?:=by
 unfold sortWorld
 rw [heap_grow_old _ _ (by simp [putRow,mapBlock,Go.Sort.ahead];omega)]
 have:b≠g:=fun e=>hne e.symm
 simp [putRow,mapBlock,Go.Sort.ahead,Array.getElem?_modify,this]
theorem below_sortW {α:Type} [Inhabited α] (enc:α→Value) {B:Nat} {w:World} {g off n:Nat} {d:Array α} {os:Array Obj} (hg:B≤g) (hB:B≤w.heap.size):Below B w (sortWorld enc w g off n d os):=
 ⟨rfl,rfl,rfl,by simp [sortWorld,putRow,mapBlock,Go.Sort.ahead,grow],fun k hk=>sortWorld_block enc w g off n k d os (by omega) (by omega)⟩
theorem cmpN (ns:List ByteArray) (m db kb g n gb:Nat) (D:DataW Unit) (w:World) (hsz:∀ j,(nm ns j).size≤maxLen) (hd:w.cell? ⟨db,0,none⟩=some (.func (.func 151) #[] #[.pointer (some ⟨kb,0,none⟩)])) (hk:w.cell? ⟨kb,0,none⟩=some (.map (some g))) (hm:w.ownsMap Tryz.prog 9 (plainElem (H:=Unit) Tryz.prog 3) g n D) (h1:db≠gb) (h2:kb≠gb) (h3:g≠gb) :
 CmpLays1 Tryz.prog 154 #[.pointer (some ⟨db,0,none⟩)] (encN ns m) (cfF ns (dV D) m) gb 0 (allF m).size w:=by
 intro q os dk hs x y
 have hl1:db < w.heap.size:=World.block_lt_of_cell? w _ hd
 have hl2:kb < w.heap.size:=World.block_lt_of_cell? w _ hk
 have hl3:g < w.heap.size:=hm.lt
 have c1:=(cell?_sortWorld_other (encN ns m) w gb 0 q dk os ⟨db,0,none⟩ h1 hl1).trans hd
 have c2:=(cell?_sortWorld_other (encN ns m) w gb 0 q dk os ⟨kb,0,none⟩ h2 hl2).trans hk
 have m1:(sortWorld (encN ns m) w gb 0 q dk os).ownsMap Tryz.prog 9 (plainElem (H:=Unit) Tryz.prog 3) g n D:=by
  obtain ⟨es,cl,e1,e2⟩:=hm
  exact ⟨es,cl,(sortWorld_block (encN ns m) w gb 0 q g dk os h3 hl3).trans e1,e2⟩
 refine (cmp2_any _ _ db kb g n D _ (hsz x.val) (hsz y.val) c1 c2 m1).mono ?_
 rintro e w' ⟨rfl,rfl⟩
 exact ⟨rfl,1,_,alloc_grow _ _⟩
theorem sorted_of {ns:List ByteArray} {d:ByteArray→Int} {m:Nat} {d':Array (Fin (m+1))} (hn:ns.length=m+1) (hp:PermIn 0 (allF m).size (allF m) d') (hs:SortedIn (ltOf (cfF ns d m)) 0 (allF m).size d') :
 d'.toList.map (fun x=>nm ns x.val)=So.insAll (ltN d) ns:=by
 obtain ⟨hsz,_,hperm⟩:=hp
 rw [Array.extract_size,show d'.extract 0 (allF m).size=d' by rw [← hsz,Array.extract_size]] at hperm
 refine So.insAll_eq (swoN d) (ltN_anti d) ?_ ?_
 ·have h:=hperm.map (fun x=>nm ns x.val)
  rw [allF_names ns m hn] at h
  exact h
 ·have hds:d'.size=m+1:=by rw [hsz,allF_size]
  refine List.pairwise_iff_getElem.2 fun i j hi hj hij=>?_
  have hj':j < d'.size:=by simpa using hj
  have hi':i < d'.size:=by omega
  have h:=hs i j (Nat.zero_le _) hij (by rw [allF_size];omega)
  rw [getElem!_pos d' j hj',getElem!_pos d' i hi',ltF_is] at h
  simpa using h
theorem sortF_any (ns:List ByteArray) (m db kb g n gb c:Nat) (D:DataW Unit) (w:World) (hn:ns.length=m+1) (hsm:m < 1000) (hsz:∀ j,(nm ns j).size≤maxLen) (hd:w.cell? ⟨db,0,none⟩=some (.func (.func 151) #[] #[.pointer (some ⟨kb,0,none⟩)])) (hk:w.cell? ⟨kb,0,none⟩=some (.map (some g))) (hm:w.ownsMap Tryz.prog 9 (plainElem (H:=Unit) Tryz.prog 3) g n D) (h1:db≠gb) (h2:kb≠gb) (h3:g≠gb)
 (hcell:∀ j,j < m+1→w.cell? ⟨gb,j,none⟩=some (.string (nm ns j))) (hfz:∀ j,w.frozen? ⟨gb,j,none⟩=false) {B:Nat} (hB:B≤gb) :
 Calls Tryz.prog 153 #[.slice (some ⟨gb,0,none⟩) (m+1) c,.func (.func 154) #[] #[.pointer (some ⟨db,0,none⟩)]] w fun e w'=>e=.returned (.tuple #[])∧TSl w' (.slice (some ⟨gb,0,none⟩) (m+1) c) (So.insAll (ltN (dV D)) ns)∧Below B w w'∧∀ j,w'.frozen? ⟨gb,j,none⟩=false:=by
 have eg:∀ args w,(callFunc 154 args).run Tryz.prog w=.ok (.enter 154 args) w:=enters_of Tryz.func154 (by kernel_rfl) rfl
 have hgw:gb < w.heap.size:=World.block_lt_of_cell? w ⟨gb,0,none⟩ (hcell 0 (by omega))
 have HHH:Holds (encN ns m) w gb 0 (allF m):=fun j hj=>by
  rw [allF_size] at hj
  rw [allF_get m j hj,Nat.zero_add]
  exact ⟨hcell j hj,hfz j⟩
 have hcon:=Any.slices_SortFunc Tryz.sortS (encN ns m) (fun _=>rfl) (cfF ns (dV D) m) (swoF ns (dV D) m) 154 #[.pointer (some ⟨db,0,none⟩)] gb 0 c (allF m) w eg (cmpN ns m db kb g n gb D w hsz hd hk hm h1 h2 h3) HHH hgw (by rw [allF_size];omega)
 rw [show Value.slice (some ⟨gb,0,none⟩) (allF m).size c=Value.slice (some ⟨gb,0,none⟩) (m+1) c by rw [allF_size]] at hcon
 refine hcon.mono ?_
 rintro e w2 ⟨rfl,d',nd,os,hp,hs,hw2⟩
 have hL:=sorted_of hn hp hs
 have hds:d'.size=m+1:=by rw [hp.1,allF_size]
 have hlen:(So.insAll (ltN (dV D)) ns).length=m+1:=by rw [← hL];simp [hds]
 refine ⟨rfl,⟨some ⟨gb,0,none⟩,c,by rw [hlen],fun j=>?_,.inr ⟨gb,0,rfl,?_,fun j hj=>?_⟩⟩,?_,fun j=>?_⟩
 ·by_cases hj:j < (So.insAll (ltN (dV D)) ns).length
  ·have hm2:(So.insAll (ltN (dV D)) ns).getD j ByteArray.empty∈So.insAll (ltN (dV D)) ns:=by simp [List.getD,List.getElem?_eq_getElem hj]
   rw [← hL] at hm2
   obtain ⟨x,_,hx⟩:=List.mem_map.1 hm2
   rw [hL] at hx
   rw [← hx];exact hsz x.val
  ·rw [show (So.insAll (ltN (dV D)) ns).getD j ByteArray.empty=ByteArray.empty by simp [List.getD,List.getElem?_eq_none (by omega:(So.insAll (ltN (dV D)) ns).length≤j)]]
   decide
 ·rw [hw2]
  exact Nat.lt_of_lt_of_le hgw (below_sortW (encN ns m) (B:=0) (Nat.zero_le _) (Nat.zero_le _)).size
 ·have hj':j < m+1:=by rw [hlen] at hj;exact hj
  have e1:=cell?_putRow (encN ns m) (Go.Sort.ahead w nd) gb 0 (allF m) d' (show Holds (encN ns m) (Go.Sort.ahead w nd) gb 0 (allF m) from HHH) hp.1 j (by omega)
  have e2:w2.cell? ⟨gb,0+j,none⟩=(putRow (encN ns m) (Go.Sort.ahead w nd) gb 0 d').cell? ⟨gb,0+j,none⟩:=by
   rw [hw2]
   exact cell?_grow _ _ _ (World.block_lt_of_cell? (putRow (encN ns m) (Go.Sort.ahead w nd) gb 0 d') ⟨gb,0+j,none⟩ e1)
  rw [e2,e1,getElem!_pos d' j (by omega)]
  have e3:(So.insAll (ltN (dV D)) ns).getD j ByteArray.empty=nm ns (d'[j]'(by omega)).val:=by
   rw [← hL];simp [List.getD,hds,hj']
  rw [e3];rfl
 ·rw [hw2]
  exact below_sortW (encN ns m) hB (by omega)
 ·rw [hw2]
  exact (frozen?_grow _ _ ⟨gb,j,none⟩ (by simpa [putRow,mapBlock,Go.Sort.ahead] using hgw)).trans ((frozen?_putRow _ _ _ _ _ _).trans (hfz j))
end Go.Proofs.YtignmeaeibaejaaGreatDoor
