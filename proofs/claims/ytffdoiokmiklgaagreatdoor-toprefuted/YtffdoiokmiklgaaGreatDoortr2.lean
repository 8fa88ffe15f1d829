import Derived.Test.YtffdoiokmiklgaaGreatDoortr1
import Derived.Deep.RegionHeld3
namespace Go.Proofs.YtffdoiokmiklgaaGreatDoor
namespace Sv
open Go.RowKit
structure Svc where
 node:ByteArray
 idn:ByteArray
 name:ByteArray
 tag:ByteArray
 addr:Int
 port:Int
 passing:Bool
 version:Int
 gone:Bool
def dm:Svc:=⟨ByteArray.empty,ByteArray.empty,ByteArray.empty,ByteArray.empty,0,0,false,0,false⟩
def Svc.ok (m:Svc):Prop:=m.node.size≤maxLen∧m.idn.size≤maxLen∧m.name.size≤maxLen∧m.tag.size≤maxLen
theorem dm_ok:dm.ok:=by simp [Svc.ok,dm]
def Row (w:World) (b off:Nat) (ms:List Svc):Prop:=∀ j,j < ms.length →
 w.cell? ⟨b,off+j * 9,none⟩=some (.string (ms.getD j dm).node)∧w.cell? ⟨b,off+j * 9+1,none⟩=some (.string (ms.getD j dm).idn)∧w.cell? ⟨b,off+j * 9+2,none⟩=some (.string (ms.getD j dm).name)∧w.cell? ⟨b,off+j * 9+3,none⟩=some (.string (ms.getD j dm).tag)∧w.cell? ⟨b,off+j * 9+4,none⟩=some (.int .i64 (ms.getD j dm).addr)∧w.cell? ⟨b,off+j * 9+5,none⟩=some (.int .i64 (ms.getD j dm).port)∧w.cell? ⟨b,off+j * 9+6,none⟩=some (.bool (ms.getD j dm).passing)∧w.cell? ⟨b,off+j * 9+7,none⟩=some (.int .i64 (ms.getD j dm).version)∧w.cell? ⟨b,off+j * 9+8,none⟩=some (.bool (ms.getD j dm).gone)
def Sl (w:World) (v:Value) (ms:List Svc):Prop:=
 ∃ (a:Option Addr) (cap:Nat),v=.slice a ms.length cap∧(∀ j,(ms.getD j dm).ok) ∧
  (ms=[]∨∃ b off,a=some ⟨b,off,none⟩∧b < w.heap.size∧Row w b off ms)
def Svc.cs (m:Svc):List Value:=[.string m.node,.string m.idn,.string m.name,.string m.tag,.int .i64 m.addr,.int .i64 m.port,.bool m.passing,.int .i64 m.version,.bool m.gone]
def fl (ms:List Svc):List Value:=ms.flatMap Svc.cs
theorem cs_len (m:Svc):m.cs.length=9:=rfl
theorem fl_cons (m:Svc) (r:List Svc):fl (m :: r)=m.cs++fl r:=by simp [fl]
theorem fl_append (a b:List Svc):fl (a++b)=fl a++fl b:=by simp [fl]
theorem fl_len:∀ ms:List Svc,(fl ms).length=ms.length * 9
 | []=>rfl
 | m :: r=>by rw [fl_cons,List.length_append,fl_len r,cs_len,List.length_cons];omega
theorem cs_one (m:Svc):∀ v∈m.cs,v.oneCell'=true:=by
 intro v hv;simp [Svc.cs] at hv;rcases hv with rfl | rfl | rfl | rfl | rfl | rfl | rfl | rfl | rfl<;>rfl
theorem fl_one (ms:List Svc):∀ v∈fl ms,v.oneCell'=true:=by
 intro v hv
 obtain ⟨m,_,h⟩:=List.mem_flatMap.1 hv
 exact cs_one m v h
theorem fl_get (ms:List Svc) (j:Nat) (hj:j < ms.length) (t:Nat) (ht:t < 9):(fl ms)[j * 9+t]?=(ms.getD j dm).cs[t]?:=by
 induction ms generalizing j with
 | nil=>simp at hj
 | cons m r ih=>
   rw [fl_cons]
   cases j with
   | zero=>rw [List.getElem?_append_left (by rw [cs_len];omega)];simp
   | succ j=>
     rw [List.getElem?_append_right (by rw [cs_len];omega),cs_len,show (j+1) * 9+t - 9=j * 9+t by omega,ih j (by simpa using hj)]
     simp
abbrev Own (base:Nat) (w:World) (v:Value) (ms:List Svc):Prop:=w.ownsRow base 42 9 v ms.length (fl ms)
theorem Own.sl {base:Nat} {w:World} {v:Value} {ms:List Svc} (h:Own base w v ms) (hs:∀ j,(ms.getD j dm).ok):Sl w v ms:=by
 rcases h.2 with ⟨rfl,h0⟩ | ⟨g,c,cur,rfl,hbg,hg,hnc,hcm,hcs,htake⟩
 ·exact ⟨none,0,by rw [h0],hs,.inl (List.eq_nil_of_length_eq_zero h0)⟩
 ·refine ⟨_,c,rfl,hs,.inr ⟨g,0,rfl,(Array.getElem?_eq_some_iff.1 hg).1,fun j hj=>?_⟩⟩
  have hc:∀ t,t < 9→w.cell? ⟨g,0+j * 9+t,none⟩=(ms.getD j dm).cs[t]?:=fun t ht=>by
   rw [cellsAt hg,← fl_get ms j hj t ht,← htake,List.getElem?_take_of_lt (by omega)];simp
  exact ⟨hc 0 (by omega),hc 1 (by omega),hc 2 (by omega),hc 3 (by omega),hc 4 (by omega),hc 5 (by omega),hc 6 (by omega),hc 7 (by omega),hc 8 (by omega)⟩
theorem Own.below {base:Nat} {w w':World} {v:Value} {ms:List Svc} (h:Own base w v ms) (hb:Below w.heap.size w w'):Own base w' v ms:=by
 rcases h.2 with ⟨rfl,h0⟩ | ⟨g,c,cur,rfl,hbg,hg,hnc,hcm,hcs,htake⟩
 ·exact ⟨h.1,.inl ⟨rfl,h0⟩⟩
 ·have hlt:g < w.heap.size:=(Array.getElem?_eq_some_iff.1 hg).1
  exact ⟨h.1,.inr ⟨g,c,cur,rfl,hbg,(hb.block g hlt).trans hg,hnc,hcm,hcs,htake⟩⟩
theorem Own.lt {base:Nat} {w:World} {v:Value} {ms:List Svc} (h:Own base w v ms) (k:Nat) (hk:v.ownBlock=some k):base≤k∧k < w.heap.size:=World.ownsRow.lt h k hk
theorem Sl.below {w w':World} {v:Value} {ms:List Svc} (h:Sl w v ms) (hb:Below w.heap.size w w'):Sl w' v ms:=by
 obtain ⟨a,cap,rfl,hs,h⟩:=h
 refine ⟨a,cap,rfl,hs,?_⟩
 rcases h with h | ⟨b,off,rfl,hlt,hr⟩
 ·exact .inl h
 ·refine .inr ⟨b,off,rfl,Nat.lt_of_lt_of_le hlt hb.size,fun j hj=>?_⟩
  obtain ⟨hc,_⟩:=bcell hb
  obtain ⟨c0,c1,c2,c3,c4,c5,c6,c7,c8⟩:=hr j hj
  exact ⟨(hc _ _ hlt).trans c0,(hc _ _ hlt).trans c1,(hc _ _ hlt).trans c2,(hc _ _ hlt).trans c3,(hc _ _ hlt).trans c4,(hc _ _ hlt).trans c5,(hc _ _ hlt).trans c6,(hc _ _ hlt).trans c7,(hc _ _ hlt).trans c8⟩
theorem Row.later {w w':World} {b off:Nat} {ms:List Svc} (hr:Row w b off ms) (hb:Below w.heap.size w w') (hlt:b < w.heap.size):Row w' b off ms:=fun j hj=>by
 obtain ⟨hc,_⟩:=bcell hb
 obtain ⟨c0,c1,c2,c3,c4,c5,c6,c7,c8⟩:=hr j hj
 exact ⟨(hc _ _ hlt).trans c0,(hc _ _ hlt).trans c1,(hc _ _ hlt).trans c2,(hc _ _ hlt).trans c3,(hc _ _ hlt).trans c4,(hc _ _ hlt).trans c5,(hc _ _ hlt).trans c6,(hc _ _ hlt).trans c7,(hc _ _ hlt).trans c8⟩
theorem Own.mono {base base':Nat} {w:World} {v:Value} {ms:List Svc} (h:Own base w v ms) (hb:base'≤base):Own base' w v ms:=by
 rcases h.2 with ⟨rfl,h0⟩ | ⟨g,c,cur,rfl,hbg,hg,hnc,hcm,hcs,htake⟩
 ·exact ⟨h.1,.inl ⟨rfl,h0⟩⟩
 ·exact ⟨h.1,.inr ⟨g,c,cur,rfl,Nat.le_trans hb hbg,hg,hnc,hcm,hcs,htake⟩⟩
theorem own_nil (base:Nat) (w:World):Own base w (.slice none 0 0) []:=World.ownsRow_nil w base 42 9
theorem ns_mem {ms:List Svc} (h:∀ j,(ms.getD j dm).ok):∀ m∈ms,(m).ok:=by
 intro m hm
 obtain ⟨j,hj,rfl⟩:=List.getElem_of_mem hm
 have:=h j
 simpa [List.getD,List.getElem?_eq_getElem hj] using this
theorem ns_get {ms:List Svc} (h:∀ m∈ms,(m).ok):∀ j,(ms.getD j dm).ok:=by
 intro j
 by_cases hj:j < ms.length
 ·have:=h ms[j] (List.getElem_mem hj)
  simpa [List.getD,List.getElem?_eq_getElem hj] using this
 ·rw [List.getD,List.getElem?_eq_none (Nat.le_of_not_lt hj)];exact dm_ok
theorem own_names {base:Nat} {w:World} {v:Value} {ms:List Svc} (h:Own base w v ms) (hs:∀ m∈ms,(m).ok):Sl w v ms:=h.sl (ns_get hs)
theorem own_snoc {base:Nat} {w:World} {v:Value} {L:List Svc} {m:Svc} (h:w.ownsRow base 42 9 v (L.length+1) (fl L++m.cs)):Own base w v (L++[m]):=by
 have e:fl (L++[m])=fl L++m.cs:=by rw [fl_append,fl_cons];simp [fl]
 show w.ownsRow base 42 9 v (L++[m]).length (fl (L++[m]))
 rw [e,List.length_append]
 exact h
end Sv
namespace Sv
open Go.RowKit
theorem Tryz.info42:(Tryz.prog.info? 42).map (fun i=>(i.zero,i.size,i.bytes))=some (some (.agg #[.string ⟨#[]⟩,.string ⟨#[]⟩,.string ⟨#[]⟩,.string ⟨#[]⟩,.int .i64 0,.int .i64 0,.bool false,.int .i64 0,.bool false]),9,104):=by kernel_rfl
end Sv
namespace Sv
open Go.RowKit
def ord:Svc→Svc→Int:=RL.lex (fun a b=>cmpI a.node b.node) (fun a b=>cmpI a.idn b.idn)
theorem keyed:RL.Keyed ord:=RL.keyed_lex (RL.keyed_txt Svc.node) (RL.keyed_txt Svc.idn)
def newC:Svc→Svc→Int:=RL.lex (fun a b=>a.version - b.version) (RL.lex (fun a b=>RL.bI a.gone - RL.bI b.gone) (RL.lex (fun a b=>cmpI a.name b.name) (RL.lex (fun a b=>cmpI a.tag b.tag) (RL.lex (fun a b=>a.addr - b.addr) (RL.lex (fun a b=>a.port - b.port) (fun a b=>RL.bI a.passing - RL.bI b.passing))))))
def newE (a b:Svc):Bool:=decide (0 < newC a b)
abbrev Rise (ms:List Svc):Prop:=RL.Rise ord ms
abbrev joinL (a b:List Svc):List Svc:=RL.join ord newE a b
abbrev risesB (ms:List Svc):Bool:=RL.risesB ord ms
theorem rises_allO (ms:List Svc) (h:∀ j,j+1 < ms.length→ord (ms.getD j dm) (ms.getD (j+1) dm) < 0):risesB ms=true:=RL.rises_all ord dm ms h
theorem rises_getO (ms:List Svc) (h:risesB ms=true):∀ j,j+1 < ms.length→ord (ms.getD j dm) (ms.getD (j+1) dm) < 0:=RL.rises_get ord dm ms h
def tagB (t:ByteArray):Bool:=decide (t=ByteArray.empty) || labB t
def Svc.e (m:Svc):Int:=
 if (labB m.node && (labB m.idn && (labB m.name && tagB m.tag)))=true then (if (within m.addr 0 4294967295 && (within m.port 0 65535 && within m.version 1 1000000))=true then 0 else 3) else 1
def firstE:List Svc→Int
 | []=>0
 | m :: r=>if m.e=0 then firstE r else m.e
theorem firstE_zero:∀ (ms:List Svc),(∀ j,j < ms.length→(ms.getD j dm).e=0)→firstE ms=0
 | [],_=>rfl
 | m :: r,h=>by
   have h0:=h 0 (by simp)
   simp only [List.getD_cons_zero] at h0
   rw [firstE,if_pos h0]
   exact firstE_zero r fun j hj=>by have:=h (j+1) (by simpa using hj);simpa using this
theorem firstE_at:∀ (ms:List Svc) (k:Nat),k < ms.length→(∀ j,j < k→(ms.getD j dm).e=0)→(ms.getD k dm).e≠0→firstE ms=(ms.getD k dm).e
 | [],k,h,_,_=>by simp at h
 | m :: r,0,_,_,hne=>by
   simp only [List.getD_cons_zero] at hne ⊢
   rw [firstE,if_neg hne]
 | m :: r,k+1,h,hz,hne=>by
   have h0:=hz 0 (by omega)
   simp only [List.getD_cons_zero] at h0
   rw [firstE,if_pos h0,List.getD_cons_succ]
   rw [List.getD_cons_succ] at hne
   exact firstE_at r k (by simpa using h) (fun j hj=>by have:=hz (j+1) (by omega);simpa using this) hne
theorem firstE_mem:∀ (ms:List Svc),firstE ms=0→∀ m∈ms,m.e=0
 | [],_,m,hm=>by simp at hm
 | x :: r,h,m,hm=>by
   rw [firstE] at h
   split at h
   ·rename_i hx
    rcases List.mem_cons.1 hm with rfl | hm
    ·exact hx
    ·exact firstE_mem r h m hm
   ·rename_i hx;exact absurd h hx
def chk (ms:List Svc):Int:=if 40 < ms.length then 2 else if firstE ms=0 then (if risesB ms=true then 0 else 4) else firstE ms
theorem chk_e (ms:List Svc) (k:Nat) (hn:ms.length≤40) (hk:k < ms.length) (hz:∀ j,j < k→(ms.getD j dm).e=0) (hne:(ms.getD k dm).e≠0):chk ms=(ms.getD k dm).e:=by
 have h:=firstE_at ms k hk hz hne
 rw [chk,if_neg (by omega),h,if_neg hne]
theorem chk_r (ms:List Svc) (hn:ms.length≤40) (hz:∀ j,j < ms.length→(ms.getD j dm).e=0):chk ms=if risesB ms=true then 0 else 4:=by
 rw [chk,if_neg (by omega),firstE_zero ms hz,if_pos rfl]
theorem chk_zero {ms:List Svc} (h:chk ms=0):ms.length≤40∧Rise ms∧firstE ms=0:=by
 unfold chk at h
 split at h
 ·omega
 ·split at h
  ·rename_i h1 h2
   split at h
   ·rename_i h3
    exact ⟨by omega,RL.rise_of ord keyed ms h3,h2⟩
   ·omega
  ·rename_i h1 h2;exact absurd h h2
def chkTwo (a b:List Svc):Int:=if chk a=0 then chk b else chk a
def joinE (a b:List Svc):Int:=if chkTwo a b=0 then (if 40 < (joinL a b).length then 2 else 0) else chkTwo a b
end Sv
namespace Sv
open Go.RowKit
theorem cell_topS {W:World} {cs:Array Value} {t:TypeId} {g k:Nat} (hg:g=W.heap.size):(W.alloc (.cells cs t)).cell? ⟨g,k,none⟩=cs[k]?:=by subst hg;simp
def orZ (a b:Int):Int:=if a=0 then b else a
set_option maxHeartbeats 800000 in
theorem or_any (a b:Int) (g:Nat) (c:Nat) (w:World) (h0:w.cell? ⟨g,0,none⟩=some (.int .i64 a)) (h1:w.cell? ⟨g,1,none⟩=some (.int .i64 b)) :
 Calls Tryz.prog 210 #[.slice (some ⟨g,0,none⟩) 2 c] w fun e w'=>e=.returned (.int .i64 (orZ a b))∧w'=w:=by
 by_cases ha:a=0
 ·subst ha
  by_cases hb:b=0
  ·subst hb
   go_enter Tryz.func210,Tryz.ntmps210
   go_wp2_with fail
   refine wp_loop_rounds 3 ?_
   rw [rounds_succ]
   go_wp2_with fail
   rw [rounds_succ]
   go_wp2_with fail
   rw [rounds_succ]
   go_wp2_with fail
   go_ret
   exact ⟨rfl,rfl⟩
  ·have hb':(b != 0)=true:=by simpa using hb
   go_enter Tryz.func210,Tryz.ntmps210
   go_wp2_with fail
   refine wp_loop_rounds 3 ?_
   rw [rounds_succ]
   go_wp2_with fail
   rw [rounds_succ]
   go_wp2_with fail
   go_ret
   exact ⟨rfl,rfl⟩
 ·have ha':(a != 0)=true:=by simpa using ha
  go_enter Tryz.func210,Tryz.ntmps210
  go_wp2_with fail
  refine wp_loop_rounds 3 ?_
  rw [rounds_succ]
  go_wp2_with fail
  go_ret
  exact ⟨ret_int (by unfold orZ;rw [if_neg ha]),rfl⟩
set_option maxHeartbeats 800000 in
theorem order_any (a b:Svc) (w:World) :
 Calls Tryz.prog 184 #[.agg #[.string a.node,.string a.idn,.string a.name,.string a.tag,.int .i64 a.addr,.int .i64 a.port,.bool a.passing,.int .i64 a.version,.bool a.gone],.agg #[.string b.node,.string b.idn,.string b.name,.string b.tag,.int .i64 b.addr,.int .i64 b.port,.bool b.passing,.int .i64 b.version,.bool b.gone]] w fun e w'=>e=.returned (.int .i64 (ord a b))∧Below w.heap.size w w':=by
 go_enter Tryz.func184,Tryz.ntmps184
 go_wp2_with fail
 obtain ⟨W,hW⟩:∃ W,W=(w.alloc (.cells #[.string a.node,.string a.idn,.string a.name,.string a.tag,.int .i64 a.addr,.int .i64 a.port,.bool a.passing,.int .i64 a.version,.bool a.gone] 42)).alloc (.cells #[.string b.node,.string b.idn,.string b.name,.string b.tag,.int .i64 b.addr,.int .i64 b.port,.bool b.passing,.int .i64 b.version,.bool b.gone] 42):=⟨_,rfl⟩
 rw [← hW]
 have hbW:Below w.heap.size w W:=by rw [hW];exact ((Below.refl _ _).alloc (Nat.le_refl _) _).alloc (by simp) _
 have hga:W.heap[w.heap.size]?=some (.cells #[.string a.node,.string a.idn,.string a.name,.string a.tag,.int .i64 a.addr,.int .i64 a.port,.bool a.passing,.int .i64 a.version,.bool a.gone] 42 (0,0)):=by
  rw [hW,Below.heap_alloc _ _ _ (by simp)];exact heap_alloc_new w _
 have hgb:W.heap[w.heap.size+1]?=some (.cells #[.string b.node,.string b.idn,.string b.name,.string b.tag,.int .i64 b.addr,.int .i64 b.port,.bool b.passing,.int .i64 b.version,.bool b.gone] 42 (0,0)):=by
  have h:=heap_alloc_new (w.alloc (.cells #[.string a.node,.string a.idn,.string a.name,.string a.tag,.int .i64 a.addr,.int .i64 a.port,.bool a.passing,.int .i64 a.version,.bool a.gone] 42)) (.cells #[.string b.node,.string b.idn,.string b.name,.string b.tag,.int .i64 b.addr,.int .i64 b.port,.bool b.passing,.int .i64 b.version,.bool b.gone] 42)
  rw [hW];simpa using h
 have n0:W.cell? ⟨w.heap.size,0,none⟩=some (.string a.node):=cellsAt hga 0
 have n1:W.cell? ⟨w.heap.size,1,none⟩=some (.string a.idn):=cellsAt hga 1
 have m0:W.cell? ⟨w.heap.size+1,0,none⟩=some (.string b.node):=cellsAt hgb 0
 have m1:W.cell? ⟨w.heap.size+1,1,none⟩=some (.string b.idn):=cellsAt hgb 1
 have HBW:Hid (Below w.heap.size w W):=hbW
 have hsW:=hbW.size
 have h1:=World.new_ne W _ n0
 have h2:=World.new_ne W _ n1
 have h3:=World.new_ne W _ m0
 have h4:=World.new_ne W _ m1
 clear hga hgb hW hbW
 go_region_held3 (fun w'=>w'.cell? ⟨w.heap.size,0,none⟩=some (.string a.node)∧w'.cell? ⟨w.heap.size,1,none⟩=some (.string a.idn)∧w'.cell? ⟨w.heap.size+1,0,none⟩=some (.string b.node)∧w'.cell? ⟨w.heap.size+1,1,none⟩=some (.string b.idn)) (go_keep) (first | (go_at_call 99;refine (compare_any _ _ _).mono ?_;rintro e w' ⟨rfl,rfl⟩) | (go_at_call 210;refine (or_any (cmpI a.node b.node) (cmpI a.idn b.idn) _ _ _ (cell_topS rfl) (cell_topS rfl)).mono ?_;rintro e w' ⟨rfl,rfl⟩))
 go_wp2_with fail
 go_ret
 exact ⟨rfl,(HBW.out.alloc hsW _).drew⟩
end Sv
end Go.Proofs.YtffdoiokmiklgaaGreatDoor
