import Derived.Test.YtikgjgmgbfjcgaaGreatQ6
import Derived.Test.YtikgjgmgbfjcgaaGreatQ3
import Derived.Deep.RegionHeld3
import Derived.Lib.QuietBelow
namespace Go.Proofs.YtikgjgmgbfjcgaaGreat
namespace Sv
open Go.RowKit
def ord:Svc→Svc→Int:=RL.lex (fun a b=>cmpI a.node b.node) (fun a b=>cmpI a.idn b.idn)
theorem keyed:RL.Keyed ord:=RL.keyed_lex (RL.keyed_txt Svc.node) (RL.keyed_txt Svc.idn)
def newC:Svc→Svc→Int:=RL.lex (fun a b=>a.version - b.version) (RL.lex (fun a b=>RL.bI a.gone - RL.bI b.gone) (RL.lex (fun a b=>cmpI a.name b.name) (RL.lex (fun a b=>cmpI a.tag b.tag) (RL.lex (fun a b=>a.addr - b.addr) (RL.lex (fun a b=>a.port - b.port) (fun a b=>RL.bI a.passing - RL.bI b.passing))))))
theorem keyedC:RL.Keyed newC:=RL.keyed_lex (RL.keyed_int Svc.version) (RL.keyed_lex (RL.keyed_int fun a:Svc=>RL.bI a.gone) (RL.keyed_lex (RL.keyed_txt Svc.name) (RL.keyed_lex (RL.keyed_txt Svc.tag) (RL.keyed_lex (RL.keyed_int Svc.addr) (RL.keyed_lex (RL.keyed_int Svc.port) (RL.keyed_int fun a:Svc=>RL.bI a.passing))))))
def newE (a b:Svc):Bool:=decide (0 < newC a b)
theorem newest:RL.Newest ord newE:=RL.newest_of keyedC fun a b h1 h2=>by
 obtain ⟨n1,n2⟩:=RL.lex_zero h1
 obtain ⟨h3,h2⟩:=RL.lex_zero h2
 obtain ⟨h4,h2⟩:=RL.lex_zero h2
 obtain ⟨h5,h2⟩:=RL.lex_zero h2
 obtain ⟨h6,h2⟩:=RL.lex_zero h2
 obtain ⟨h7,h2⟩:=RL.lex_zero h2
 obtain ⟨h8,h9⟩:=RL.lex_zero h2
 have e1:a.node=b.node:=(cmpI_eq _ _).1 n1
 have e2:a.idn=b.idn:=(cmpI_eq _ _).1 n2
 have e3:a.version=b.version:=by omega
 have e4:a.gone=b.gone:=RL.bI_inj h4
 have e5:a.name=b.name:=(cmpI_eq _ _).1 h5
 have e6:a.tag=b.tag:=(cmpI_eq _ _).1 h6
 have e7:a.addr=b.addr:=by omega
 have e8:a.port=b.port:=by omega
 have e9:a.passing=b.passing:=RL.bI_inj h9
 obtain ⟨a_node,a_idn,a_name,a_tag,a_addr,a_port,a_passing,a_version,a_gone⟩:=a
 obtain ⟨b_node,b_idn,b_name,b_tag,b_addr,b_port,b_passing,b_version,b_gone⟩:=b
 simp only at e1 e2 e3 e4 e5 e6 e7 e8 e9
 subst e1 e2 e3 e4 e5 e6 e7 e8 e9
 rfl
abbrev Rise (ms:List Svc):Prop:=RL.Rise ord ms
abbrev hearL (ms:List Svc) (m:Svc):List Svc:=RL.hear ord newE ms m
abbrev joinL (a b:List Svc):List Svc:=RL.join ord newE a b
abbrev At (ms:List Svc) (t:Svc) (p:Nat) (f:Bool):Prop:=RL.At ord dm ms t p f
abbrev risesB (ms:List Svc):Bool:=RL.risesB ord ms
theorem rise_mono {ms:List Svc} (h:Rise ms) (t:Svc):∀ i j,i≤j→j < ms.length→ord (ms.getD j dm) t < 0→ord (ms.getD i dm) t < 0:=RL.rise_mono ord dm keyed h t
theorem rises_allO (ms:List Svc) (h:∀ j,j+1 < ms.length→ord (ms.getD j dm) (ms.getD (j+1) dm) < 0):risesB ms=true:=RL.rises_all ord dm ms h
theorem rises_getO (ms:List Svc) (h:risesB ms=true):∀ j,j+1 < ms.length→ord (ms.getD j dm) (ms.getD (j+1) dm) < 0:=RL.rises_get ord dm ms h
theorem at_any (ms:List Svc) (hr:Rise ms) (t:Svc):∃ p f,At ms t p f:=RL.at_any ord dm keyed ms hr t
theorem at_uniq {ms:List Svc} {t:Svc} {p q:Nat} {f e:Bool} (h:At ms t p f) (k:At ms t q e):p=q∧f=e:=RL.at_uniq ord dm h k
theorem hearL_at (ms:List Svc) (m:Svc) (p:Nat) (f:Bool) (h:At ms m p f) :
 hearL ms m=if f=true then (if newE m (ms.getD p dm)=true then ms.set p m else ms) else ms.take p++m :: ms.drop p:=RL.hear_at ord newE dm ms m p f h
theorem hearL_mem (ms:List Svc) (m x:Svc) (h:x∈hearL ms m):x=m∨x∈ms:=RL.hear_mem ord newE ms m x h
theorem hearL_rise (ms:List Svc) (m:Svc) (h:Rise ms):Rise (hearL ms m):=RL.hear_rise ord newE keyed ms m h
theorem hearL_len (ms:List Svc) (m:Svc):ms.length≤(hearL ms m).length∧(hearL ms m).length≤ms.length+1:=RL.hear_len ord newE ms m
theorem joinL_rise (b a:List Svc) (h:Rise a):Rise (joinL a b):=RL.join_rise ord newE keyed b a h
theorem joinL_len (b a:List Svc):(joinL a b).length≤a.length+b.length:=RL.join_len ord newE b a
theorem joinL_mem (b a:List Svc) (x:Svc) (h:x∈joinL a b):x∈a∨x∈b:=RL.join_mem ord newE b a x h
theorem joinL_take (a b:List Svc) (j:Nat) (hj:j < b.length):joinL a (b.take (j+1))=hearL (joinL a (b.take j)) (b.getD j dm):=RL.join_take ord newE dm a b j hj
theorem joinL_nil (b:List Svc) (h:Rise b):joinL [] b=b:=RL.join_nil ord newE b h
theorem ns_hear {ms:List Svc} {m:Svc} (h:∀ m∈ms,m.ok) (hm:m.ok):∀ x∈hearL ms m,x.ok:=by
 intro x hx
 rcases hearL_mem ms m x hx with rfl | hx
 ·exact hm
 ·exact h x hx
theorem ns_join (b a:List Svc) (ha:∀ m∈a,m.ok) (hb:∀ m∈b,m.ok):∀ x∈joinL a b,x.ok:=by
 intro x hx
 rcases joinL_mem b a x hx with h | h
 ·exact ha x h
 ·exact hb x h
def tagB (t:ByteArray):Bool:=decide (t=ByteArray.empty) || labB t
def Svc.e (m:Svc):Int:=
 if (labB m.node && (labB m.idn && (labB m.name && tagB m.tag)))=true then (if (within m.addr 0 4294967295 && (within m.port 0 65535 && within m.version 1 1000000))=true then 0 else 3) else 1
def firstE:List Svc→Int
 | []=>0
 | m :: r=>if m.e=0 then firstE r else m.e
theorem firstE_zero:∀ (ms:List Svc),(∀ j,j < ms.length→(ms.getD j dm).e=0)→firstE ms=0
 | [],_=>rfl
 | m :: r,h=>by
   have h0:=h 0 (by simp)
   simp only [List.getD_cons_zero] at h0
   rw [firstE,if_pos h0]
   exact firstE_zero r fun j hj=>by have:=h (j+1) (by simpa using hj);simpa using this
theorem firstE_at:∀ (ms:List Svc) (k:Nat),k < ms.length→(∀ j,j < k→(ms.getD j dm).e=0)→(ms.getD k dm).e≠0→firstE ms=(ms.getD k dm).e
 | [],k,h,_,_=>by simp at h
 | m :: r,0,_,_,hne=>by
   simp only [List.getD_cons_zero] at hne ⊢
   rw [firstE,if_neg hne]
 | m :: r,k+1,h,hz,hne=>by
   have h0:=hz 0 (by omega)
   simp only [List.getD_cons_zero] at h0
   rw [firstE,if_pos h0,List.getD_cons_succ]
   rw [List.getD_cons_succ] at hne
   exact firstE_at r k (by simpa using h) (fun j hj=>by have:=hz (j+1) (by omega);simpa using this) hne
theorem firstE_mem:∀ (ms:List Svc),firstE ms=0→∀ m∈ms,m.e=0
 | [],_,m,hm=>by simp at hm
 | x :: r,h,m,hm=>by
   rw [firstE] at h
   split at h
   ·rename_i hx
    rcases List.mem_cons.1 hm with rfl | hm
    ·exact hx
    ·exact firstE_mem r h m hm
   ·rename_i hx;exact absurd h hx
theorem firstE_all:∀ (ms:List Svc),(∀ m∈ms,m.e=0)→firstE ms=0
 | [],_=>rfl
 | x :: r,h=>by rw [firstE,if_pos (h x (by simp))];exact firstE_all r fun m hm=>h m (by simp [hm])
def chk (ms:List Svc):Int:=if 40 < ms.length then 2 else if firstE ms=0 then (if risesB ms=true then 0 else 4) else firstE ms
theorem chk_e (ms:List Svc) (k:Nat) (hn:ms.length≤40) (hk:k < ms.length) (hz:∀ j,j < k→(ms.getD j dm).e=0) (hne:(ms.getD k dm).e≠0):chk ms=(ms.getD k dm).e:=by
 have h:=firstE_at ms k hk hz hne
 rw [chk,if_neg (by omega),h,if_neg hne]
theorem chk_r (ms:List Svc) (hn:ms.length≤40) (hz:∀ j,j < ms.length→(ms.getD j dm).e=0):chk ms=if risesB ms=true then 0 else 4:=by
 rw [chk,if_neg (by omega),firstE_zero ms hz,if_pos rfl]
theorem chk_4 (ms:List Svc) (k:Nat) (hn:ms.length≤40) (hz:∀ j,j < ms.length→(ms.getD j dm).e=0) (hk:k+1 < ms.length) (hl:¬ ord (ms.getD k dm) (ms.getD (k+1) dm) < 0):chk ms=4:=by
 rw [chk_r ms hn hz,if_neg]
 intro h
 exact hl (rises_getO ms h k hk)
theorem chk_0 (ms:List Svc) (hn:ms.length≤40) (hz:∀ j,j < ms.length→(ms.getD j dm).e=0) (hl:∀ j,j+1 < ms.length→ord (ms.getD j dm) (ms.getD (j+1) dm) < 0):chk ms=0:=by
 rw [chk_r ms hn hz,if_pos (rises_allO ms hl)]
theorem chk_zero {ms:List Svc} (h:chk ms=0):ms.length≤40∧Rise ms∧firstE ms=0:=by
 unfold chk at h
 split at h
 ·omega
 ·split at h
  ·rename_i h1 h2
   split at h
   ·rename_i h3
    exact ⟨by omega,RL.rise_of ord keyed ms h3,h2⟩
   ·omega
  ·rename_i h1 h2;exact absurd h h2
theorem chk_of {ms:List Svc} (h1:ms.length≤40) (h2:Rise ms) (h3:∀ m∈ms,m.e=0):chk ms=0:=by
 rw [chk,if_neg (by omega),firstE_all ms h3,if_pos rfl,if_pos (RL.rises_of ord ms h2)]
def chkTwo (a b:List Svc):Int:=if chk a=0 then chk b else chk a
def stg (a b:List Svc) (k:Nat):List Svc:=if k=0 then [] else if k=1 then a else joinL a b
def joinE (a b:List Svc):Int:=if chkTwo a b=0 then (if 40 < (joinL a b).length then 2 else 0) else chkTwo a b
end Sv
namespace Sv
open Go.RowKit
theorem cell_topS {W:World} {cs:Array Value} {t:TypeId} {g k:Nat} (hg:g=W.heap.size):(W.alloc (.cells cs t)).cell? ⟨g,k,none⟩=cs[k]?:=by subst hg;simp
theorem less_not {a b:ByteArray} (h:¬ a=b):Op.bytesLess a.toList b.toList = !Op.bytesLess b.toList a.toList:=by
 have h1:=bl_total b.toList a.toList
 rw [(beq_name h).1,Bool.or_false] at h1
 exact h1.symm
def orZ (a b:Int):Int:=if a=0 then b else a
set_option maxHeartbeats 800000 in
theorem or_any (a b:Int) (g:Nat) (c:Nat) (w:World) (h0:w.cell? ⟨g,0,none⟩=some (.int .i64 a)) (h1:w.cell? ⟨g,1,none⟩=some (.int .i64 b)) :
 Calls Tryz.prog 183 #[.slice (some ⟨g,0,none⟩) 2 c] w fun e w'=>e=.returned (.int .i64 (orZ a b))∧w'=w:=by
 by_cases ha:a=0
 ·subst ha
  by_cases hb:b=0
  ·subst hb
   go_enter Tryz.func183,Tryz.ntmps183
   go_wp2_with fail
   refine wp_loop_rounds 3 ?_
   rw [rounds_succ]
   go_wp2_with fail
   rw [rounds_succ]
   go_wp2_with fail
   rw [rounds_succ]
   go_wp2_with fail
   go_ret
   exact ⟨rfl,rfl⟩
  ·have hb':(b != 0)=true:=by simpa using hb
   go_enter Tryz.func183,Tryz.ntmps183
   go_wp2_with fail
   refine wp_loop_rounds 3 ?_
   rw [rounds_succ]
   go_wp2_with fail
   rw [rounds_succ]
   go_wp2_with fail
   go_ret
   exact ⟨rfl,rfl⟩
 ·have ha':(a != 0)=true:=by simpa using ha
  go_enter Tryz.func183,Tryz.ntmps183
  go_wp2_with fail
  refine wp_loop_rounds 3 ?_
  rw [rounds_succ]
  go_wp2_with fail
  go_ret
  exact ⟨ret_int (by unfold orZ;rw [if_neg ha]),rfl⟩
set_option maxHeartbeats 800000 in
theorem order_any (a b:Svc) (w:World) :
 Calls Tryz.prog 147 #[.agg #[.string a.node,.string a.idn,.string a.name,.string a.tag,.int .i64 a.addr,.int .i64 a.port,.bool a.passing,.int .i64 a.version,.bool a.gone],.agg #[.string b.node,.string b.idn,.string b.name,.string b.tag,.int .i64 b.addr,.int .i64 b.port,.bool b.passing,.int .i64 b.version,.bool b.gone]] w fun e w'=>e=.returned (.int .i64 (ord a b))∧Below w.heap.size w w':=by
 go_enter Tryz.func147,Tryz.ntmps147
 go_wp2_with fail
 obtain ⟨W,hW⟩:∃ W,W=(w.alloc (.cells #[.string a.node,.string a.idn,.string a.name,.string a.tag,.int .i64 a.addr,.int .i64 a.port,.bool a.passing,.int .i64 a.version,.bool a.gone] 62)).alloc (.cells #[.string b.node,.string b.idn,.string b.name,.string b.tag,.int .i64 b.addr,.int .i64 b.port,.bool b.passing,.int .i64 b.version,.bool b.gone] 62):=⟨_,rfl⟩
 rw [← hW]
 have hbW:Below w.heap.size w W:=by rw [hW];exact ((Below.refl _ _).alloc (Nat.le_refl _) _).alloc (by simp) _
 have hga:W.heap[w.heap.size]?=some (.cells #[.string a.node,.string a.idn,.string a.name,.string a.tag,.int .i64 a.addr,.int .i64 a.port,.bool a.passing,.int .i64 a.version,.bool a.gone] 62 (0,0)):=by
  rw [hW,Below.heap_alloc _ _ _ (by simp)];exact heap_alloc_new w _
 have hgb:W.heap[w.heap.size+1]?=some (.cells #[.string b.node,.string b.idn,.string b.name,.string b.tag,.int .i64 b.addr,.int .i64 b.port,.bool b.passing,.int .i64 b.version,.bool b.gone] 62 (0,0)):=by
  have h:=heap_alloc_new (w.alloc (.cells #[.string a.node,.string a.idn,.string a.name,.string a.tag,.int .i64 a.addr,.int .i64 a.port,.bool a.passing,.int .i64 a.version,.bool a.gone] 62)) (.cells #[.string b.node,.string b.idn,.string b.name,.string b.tag,.int .i64 b.addr,.int .i64 b.port,.bool b.passing,.int .i64 b.version,.bool b.gone] 62)
  rw [hW];simpa using h
 have n0:W.cell? ⟨w.heap.size,0,none⟩=some (.string a.node):=cellsAt hga 0
 have n1:W.cell? ⟨w.heap.size,1,none⟩=some (.string a.idn):=cellsAt hga 1
 have m0:W.cell? ⟨w.heap.size+1,0,none⟩=some (.string b.node):=cellsAt hgb 0
 have m1:W.cell? ⟨w.heap.size+1,1,none⟩=some (.string b.idn):=cellsAt hgb 1
 have HBW:Hid (Below w.heap.size w W):=hbW
 have hsW:=hbW.size
 have h1:=World.new_ne W _ n0
 have h2:=World.new_ne W _ n1
 have h3:=World.new_ne W _ m0
 have h4:=World.new_ne W _ m1
 clear hga hgb hW hbW
 go_region_held3 (fun w'=>w'.cell? ⟨w.heap.size,0,none⟩=some (.string a.node)∧w'.cell? ⟨w.heap.size,1,none⟩=some (.string a.idn)∧w'.cell? ⟨w.heap.size+1,0,none⟩=some (.string b.node)∧w'.cell? ⟨w.heap.size+1,1,none⟩=some (.string b.idn)) (go_keep) (first | (go_at_call 115;refine (compare_any _ _ _).mono ?_;rintro e w' ⟨rfl,rfl⟩) | (go_at_call 183;refine (or_any (cmpI a.node b.node) (cmpI a.idn b.idn) _ _ _ (cell_topS rfl) (cell_topS rfl)).mono ?_;rintro e w' ⟨rfl,rfl⟩))
 go_wp2_with fail
 go_ret
 exact ⟨rfl,(HBW.out.alloc hsW _).drew⟩
theorem newE_def (a b:Svc):newE a b=if a.version=b.version then (if a.gone=b.gone then (if a.name=b.name then (if a.tag=b.tag then (if a.addr=b.addr then (if a.port=b.port then (a.passing && !b.passing) else decide (b.port < a.port)) else decide (b.addr < a.addr)) else less b.tag a.tag) else less b.name a.name) else a.gone) else decide (b.version < a.version):=by
 have hI:∀ x y:Int,(x - y=0)↔x=y:=fun x y=>by omega
 have hB:∀ x y:Bool,(RL.bI x=RL.bI y)↔x=y:=fun x y=>⟨fun h=>RL.bI_inj (by omega),fun h=>by rw [h]⟩
 have hP:∀ x y:Int,(0 < x - y)↔y < x:=fun x y=>by omega
 have hL:∀ x y:ByteArray,decide (0 < cmpI x y)=less y x:=fun x y=>by rw [Bool.eq_iff_iff,decide_eq_true_eq];exact cmpI_gt x y
 have hG:∀ x y:Bool,x≠y→decide (0 < RL.bI x - RL.bI y)=x:=fun x y h=>by cases x<;>cases y<;>simp [RL.bI] at h ⊢
 have hQ:∀ x y:Bool,decide (0 < RL.bI x - RL.bI y)=(x && !y):=fun x y=>by cases x<;>cases y<;>simp [RL.bI]
 simp only [newE,newC,RL.lex,hI,hB,cmpI_eq]
 by_cases h1:a.version=b.version
 ·simp only [if_pos h1]
  by_cases h2:a.gone=b.gone
  ·simp only [if_pos h2]
   by_cases h3:a.name=b.name
   ·simp only [if_pos h3]
    by_cases h4:a.tag=b.tag
    ·simp only [if_pos h4]
     by_cases h5:a.addr=b.addr
     ·simp only [if_pos h5]
      by_cases h6:a.port=b.port
      ·simp only [if_pos h6];exact hQ _ _
      ·simp only [if_neg h6,hP]
     ·simp only [if_neg h5,hP]
    ·simp only [if_neg h4];exact hL _ _
   ·simp only [if_neg h3];exact hL _ _
  ·simp only [if_neg h2];exact hG _ _ h2
 ·simp only [if_neg h1,hP]
set_option maxHeartbeats 1600000 in
theorem newer_vars (f:Nat) (hf:f=210) (a_node:ByteArray) (a_idn:ByteArray) (a_name:ByteArray) (a_tag:ByteArray) (a_addr:Int) (a_port:Int) (a_passing:Bool) (a_version:Int) (a_gone:Bool) (b_node:ByteArray) (b_idn:ByteArray) (b_name:ByteArray) (b_tag:ByteArray) (b_addr:Int) (b_port:Int) (b_passing:Bool) (b_version:Int) (b_gone:Bool) (w:World) :
 Calls Tryz.prog f #[.agg #[.string a_node,.string a_idn,.string a_name,.string a_tag,.int .i64 a_addr,.int .i64 a_port,.bool a_passing,.int .i64 a_version,.bool a_gone],.agg #[.string b_node,.string b_idn,.string b_name,.string b_tag,.int .i64 b_addr,.int .i64 b_port,.bool b_passing,.int .i64 b_version,.bool b_gone]] w fun e w'=>e=.returned (.bool (newE ⟨a_node,a_idn,a_name,a_tag,a_addr,a_port,a_passing,a_version,a_gone⟩ ⟨b_node,b_idn,b_name,b_tag,b_addr,b_port,b_passing,b_version,b_gone⟩))∧Below w.heap.size w w':=by
 subst hf
 have hB:Hid (Below w.heap.size w ((w.alloc (.cells #[.string a_node,.string a_idn,.string a_name,.string a_tag,.int .i64 a_addr,.int .i64 a_port,.bool a_passing,.int .i64 a_version,.bool a_gone] 62)).alloc (.cells #[.string b_node,.string b_idn,.string b_name,.string b_tag,.int .i64 b_addr,.int .i64 b_port,.bool b_passing,.int .i64 b_version,.bool b_gone] 62))):=((Below.refl _ _).alloc (Nat.le_refl _) _).alloc (by simp) _
 by_cases h1:a_version=b_version
 ·subst h1
  by_cases h2:a_gone=b_gone
  ·subst h2
   by_cases h3:a_name=b_name
   ·subst h3
    by_cases h4:a_tag=b_tag
    ·subst h4
     by_cases h5:a_addr=b_addr
     ·subst h5
      by_cases h6:a_port=b_port
      ·subst h6
       cases a_passing
       all_goals
        go_enter Tryz.func210,Tryz.ntmps210
        go_wp2
        go_ret
        exact ⟨ret_bool (by rw [newE_def];simp),hB.out⟩
      ·have h6':(a_port != b_port)=true:=by simpa using h6
       go_enter Tryz.func210,Tryz.ntmps210
       go_wp2
       go_ret
       exact ⟨ret_bool (by rw [newE_def];simp [h6]),hB.out⟩
     ·have h5':(a_addr != b_addr)=true:=by simpa using h5
      go_enter Tryz.func210,Tryz.ntmps210
      go_wp2
      go_ret
      exact ⟨ret_bool (by rw [newE_def];simp [h5]),hB.out⟩
    ·obtain ⟨g1,g2⟩:=beq_name h4
     have H4:Hid (¬ a_tag=b_tag):=h4
     clear h4
     go_enter Tryz.func210,Tryz.ntmps210
     go_wp2
     go_ret
     exact ⟨ret_bool (by rw [newE_def];simp [H4.out,less];exact less_not H4.out),hB.out⟩
   ·obtain ⟨g1,g2⟩:=beq_name h3
    have H3:Hid (¬ a_name=b_name):=h3
    clear h3
    go_enter Tryz.func210,Tryz.ntmps210
    go_wp2
    go_ret
    exact ⟨ret_bool (by rw [newE_def];simp [H3.out,less];exact less_not H3.out),hB.out⟩
  ·have hg:b_gone = !a_gone:=by cases a_gone<;>cases b_gone<;>simp at h2 ⊢
   subst hg
   clear h2
   cases a_gone
   all_goals
    go_enter Tryz.func210,Tryz.ntmps210
    go_wp2
    go_ret
    exact ⟨ret_bool (by rw [newE_def];simp),hB.out⟩
 ·have h1':(a_version != b_version)=true:=by simpa using h1
  go_enter Tryz.func210,Tryz.ntmps210
  go_wp2
  go_ret
  exact ⟨ret_bool (by rw [newE_def];simp [h1]),hB.out⟩
theorem newerE_any (a b:Svc) (w:World) :
 Calls Tryz.prog 210 #[.agg #[.string a.node,.string a.idn,.string a.name,.string a.tag,.int .i64 a.addr,.int .i64 a.port,.bool a.passing,.int .i64 a.version,.bool a.gone],.agg #[.string b.node,.string b.idn,.string b.name,.string b.tag,.int .i64 b.addr,.int .i64 b.port,.bool b.passing,.int .i64 b.version,.bool b.gone]] w fun e w'=>e=.returned (.bool (newE a b))∧Below w.heap.size w w':=
 newer_vars _ rfl a.node a.idn a.name a.tag a.addr a.port a.passing a.version a.gone b.node b.idn b.name b.tag b.addr b.port b.passing b.version b.gone w
end Sv
namespace Sv
open Go.RowKit
set_option maxHeartbeats 800000 in
set_option maxRecDepth 100000 in
theorem rises_row (ms:List Svc) (b off cap:Nat) (w:World) (hr:Row w b off ms) (hb:b < w.heap.size) (hn:ms.length≤40) :
 Calls Tryz.prog 146 #[.slice (some ⟨b,off,none⟩) ms.length cap,.func (.func 147) #[] #[]] w fun e w'=>e=.returned (.bool (risesB ms))∧Below w.heap.size w w':=by
 have HR:Hid (Row w b off ms):=hr
 clear hr
 have H4:Hid (∀ k,k+1 < ms.length→0≤ord (ms.getD k dm) (ms.getD (k+1) dm)→risesB ms=false):=fun k hk hl=>by
  rcases h:risesB ms with _ | _
  ·rfl
  ·have:=rises_getO ms h k hk;omega
 have H0:Hid ((∀ j,j+1 < ms.length→ord (ms.getD j dm) (ms.getD (j+1) dm) < 0)→risesB ms=true):=rises_allO ms
 generalize hN:ms.length=n at *
 have HN:Hid (ms.length=n):=hN
 clear hN
 generalize hC:risesB ms=res at *
 have HC:Hid (risesB ms=res):=hC
 clear hC
 go_enter Tryz.func146,Tryz.ntmps146
 go_wp2_with fail
 go_loopw [5] (fun i w'=>∃ k:Nat,(k+1≤n∨k=0)∧i=.int .i64 (k+1)∧Below w.heap.size w w'∧Hid (∀ j,j < k→ord (ms.getD j dm) (ms.getD (j+1) dm) < 0)) (fun i _=>n - (intOf i).toNat)
 case atStart=>exact ⟨0,.inr rfl,rfl,Below.refl _ _,fun j h=>absurd h (Nat.not_lt_zero _)⟩
 case round=>
  obtain ⟨q,hq,rfl,hbl,hz⟩:=hrel
  obtain ⟨hbc,hbf⟩:=bcell hbl
  have hsz:=hbl.size
  by_cases hlt:q+1 < n
  ·obtain ⟨c0,c1,c2,c3,c4,c5,c6,c7,c8⟩:=HR.out q (by rw [HN.out];omega)
   obtain ⟨d0,d1,d2,d3,d4,d5,d6,d7,d8⟩:=HR.out (q+1) (by rw [HN.out];exact hlt)
   have HK:Hid (0≤ord (ms.getD q dm) (ms.getD (q+1) dm)→res=false):=fun h=>H4.out q hlt h
   have HZ:Hid (ord (ms.getD q dm) (ms.getD (q+1) dm) < 0→∀ j,j < q+1→ord (ms.getD j dm) (ms.getD (j+1) dm) < 0):=fun h j hj=>by
    rcases Nat.lt_succ_iff_lt_or_eq.1 hj with h2 | rfl
    ·exact hz.out j h2
    ·exact h
   generalize ms.getD q dm=m1 at *
   generalize ms.getD (q+1) dm=m2 at *
   have hN:∀ d os,Calls Tryz.prog 147 #[.agg #[.string m1.node,.string m1.idn,.string m1.name,.string m1.tag,.int .i64 m1.addr,.int .i64 m1.port,.bool m1.passing,.int .i64 m1.version,.bool m1.gone],.agg #[.string m2.node,.string m2.idn,.string m2.name,.string m2.tag,.int .i64 m2.addr,.int .i64 m2.port,.bool m2.passing,.int .i64 m2.version,.bool m2.gone]] (Go.Sort.grow (redrawn wr d) os) fun e w''=>e=.returned (.int .i64 (ord m1 m2))∧∃ p:Regrown,w''=Go.Sort.grow (redrawn wr p.d) p.os:=fun d os=>Calls.regrown_of (order_any m1 m2 _)
   have F0:∀ d os,(Go.Sort.grow (redrawn wr d) os).cell? ⟨b,off+q * 9,none⟩=some (.string m1.node):=cell_regrown ((hbc _ _ hb).trans c0)
   have F1:∀ d os,(Go.Sort.grow (redrawn wr d) os).cell? ⟨b,off+q * 9+1,none⟩=some (.string m1.idn):=cell_regrown ((hbc _ _ hb).trans c1)
   have F2:∀ d os,(Go.Sort.grow (redrawn wr d) os).cell? ⟨b,off+q * 9+2,none⟩=some (.string m1.name):=cell_regrown ((hbc _ _ hb).trans c2)
   have F3:∀ d os,(Go.Sort.grow (redrawn wr d) os).cell? ⟨b,off+q * 9+3,none⟩=some (.string m1.tag):=cell_regrown ((hbc _ _ hb).trans c3)
   have F4:∀ d os,(Go.Sort.grow (redrawn wr d) os).cell? ⟨b,off+q * 9+4,none⟩=some (.int .i64 m1.addr):=cell_regrown ((hbc _ _ hb).trans c4)
   have F5:∀ d os,(Go.Sort.grow (redrawn wr d) os).cell? ⟨b,off+q * 9+5,none⟩=some (.int .i64 m1.port):=cell_regrown ((hbc _ _ hb).trans c5)
   have F6:∀ d os,(Go.Sort.grow (redrawn wr d) os).cell? ⟨b,off+q * 9+6,none⟩=some (.bool m1.passing):=cell_regrown ((hbc _ _ hb).trans c6)
   have F7:∀ d os,(Go.Sort.grow (redrawn wr d) os).cell? ⟨b,off+q * 9+7,none⟩=some (.int .i64 m1.version):=cell_regrown ((hbc _ _ hb).trans c7)
   have F8:∀ d os,(Go.Sort.grow (redrawn wr d) os).cell? ⟨b,off+q * 9+8,none⟩=some (.bool m1.gone):=cell_regrown ((hbc _ _ hb).trans c8)
   have G0:∀ d os,(Go.Sort.grow (redrawn wr d) os).cell? ⟨b,off+(q+1) * 9,none⟩=some (.string m2.node):=cell_regrown ((hbc _ _ hb).trans d0)
   have G1:∀ d os,(Go.Sort.grow (redrawn wr d) os).cell? ⟨b,off+(q+1) * 9+1,none⟩=some (.string m2.idn):=cell_regrown ((hbc _ _ hb).trans d1)
   have G2:∀ d os,(Go.Sort.grow (redrawn wr d) os).cell? ⟨b,off+(q+1) * 9+2,none⟩=some (.string m2.name):=cell_regrown ((hbc _ _ hb).trans d2)
   have G3:∀ d os,(Go.Sort.grow (redrawn wr d) os).cell? ⟨b,off+(q+1) * 9+3,none⟩=some (.string m2.tag):=cell_regrown ((hbc _ _ hb).trans d3)
   have G4:∀ d os,(Go.Sort.grow (redrawn wr d) os).cell? ⟨b,off+(q+1) * 9+4,none⟩=some (.int .i64 m2.addr):=cell_regrown ((hbc _ _ hb).trans d4)
   have G5:∀ d os,(Go.Sort.grow (redrawn wr d) os).cell? ⟨b,off+(q+1) * 9+5,none⟩=some (.int .i64 m2.port):=cell_regrown ((hbc _ _ hb).trans d5)
   have G6:∀ d os,(Go.Sort.grow (redrawn wr d) os).cell? ⟨b,off+(q+1) * 9+6,none⟩=some (.bool m2.passing):=cell_regrown ((hbc _ _ hb).trans d6)
   have G7:∀ d os,(Go.Sort.grow (redrawn wr d) os).cell? ⟨b,off+(q+1) * 9+7,none⟩=some (.int .i64 m2.version):=cell_regrown ((hbc _ _ hb).trans d7)
   have G8:∀ d os,(Go.Sort.grow (redrawn wr d) os).cell? ⟨b,off+(q+1) * 9+8,none⟩=some (.bool m2.gone):=cell_regrown ((hbc _ _ hb).trans d8)
   clear c0 c1 c2 c3 c4 c5 c6 c7 c8 d0 d1 d2 d3 d4 d5 d6 d7 d8 hbc hbf
   generalize ord m1 m2=r at *
   have hwq:IntKind.i64.wrap (q:Int)=(q:Int):=by rw [IntKind.wrap_i64];omega
   have hqn:q < n:=by omega
   have hq1:(q:Int)+1 < (n:Int):=by omega
   have hq0:(0:Int)≤(q:Int)+1:=by omega
   have htn:((q:Int)+1).toNat=q+1:=by omega
   by_cases hl:r < 0
   ·have hl2:¬ (0≤r):=by omega
    go_wp2_with fail
    refine wp_region_quiet_below (by kernel_rfl) (by kernel_rfl) ?_
    repeat (quiet_step (exact hN _ _))
    refine wpQuiet_nil ?_
    intro _ hw'
    obtain ⟨⟨dq,osq⟩,hw''⟩:=hw'
    subst hw''
    have HBQ:Hid (Below wr.heap.size wr (Go.Sort.grow (redrawn wr dq) osq)):=below_regrown wr dq osq
    clear hN F0 F1 F2 F3 F4 F5 F6 F7 F8 G0 G1 G2 G3 G4 G5 G6 G7 G8
    go_wp2_with fail
    go_roundw
    case rel=>exact ⟨q+1,.inl (by omega),by go_num,hbl.trans (HBQ.out.mono hsz),HZ.out hl⟩
    case measure=>simp [intOf];omega
   ·have hl2:0≤r:=by omega
    have h4:Hid (res=false):=HK.out hl2
    go_wp2_with fail
    refine wp_region_quiet_below (by kernel_rfl) (by kernel_rfl) ?_
    repeat (quiet_step (exact hN _ _))
    refine wpQuiet_nil ?_
    intro _ hw'
    obtain ⟨⟨dq,osq⟩,hw''⟩:=hw'
    subst hw''
    have HBQ:Hid (Below wr.heap.size wr (Go.Sort.grow (redrawn wr dq) osq)):=below_regrown wr dq osq
    clear hN F0 F1 F2 F3 F4 F5 F6 F7 F8 G0 G1 G2 G3 G4 G5 G6 G7 G8
    go_wp2_with fail
    go_ret
    exact ⟨ret_bool h4.out.symm,hbl.trans (HBQ.out.mono hsz)⟩
  ·have h0:Hid (res=true):=H0.out fun j hj=>hz.out j (by omega)
   go_wp2_with fail
   go_ret
   exact ⟨ret_bool h0.out.symm,hbl⟩
set_option maxHeartbeats 400000 in
theorem rises_none (a:Option Addr) (cap:Nat) (fv:Value) (w:World) :
 Calls Tryz.prog 146 #[.slice a 0 cap,fv] w fun e w'=>e=.returned (.bool true)∧w'=w:=by
 go_enter Tryz.func146,Tryz.ntmps146
 go_wp2_with fail
 go_loop [5] (fun i=>i=.int .i64 1) (fun _=>0)
 case atStart=>rfl
 case round=>
  subst hrel
  go_wp2_with fail
  go_ret
  exact ⟨rfl,rfl⟩
set_option maxHeartbeats 800000 in
theorem search_row (ms:List Svc) (b off cap:Nat) (lk:Svc) (w:World) (hr:Row w b off ms) (hb:b < w.heap.size) (hn:ms.length≤80)
 (hmono:∀ i j,i≤j→j < ms.length→ord (ms.getD j dm) lk < 0→ord (ms.getD i dm) lk < 0) :
 Calls Tryz.prog 236 #[.slice (some ⟨b,off,none⟩) ms.length cap,.agg #[.string lk.node,.string lk.idn,.string lk.name,.string lk.tag,.int .i64 lk.addr,.int .i64 lk.port,.bool lk.passing,.int .i64 lk.version,.bool lk.gone],.func (.func 147) #[] #[]] w fun e w'=>∃ (p:Nat) (f:Bool),e=.returned (.tuple #[.int .i64 p,.bool f])∧Below w.heap.size w w' ∧
  p≤ms.length∧(∀ j,j < p→ord (ms.getD j dm) lk < 0)∧(∀ j,p≤j→j < ms.length→0≤ord (ms.getD j dm) lk)∧(f=true↔p < ms.length∧ord (ms.getD p dm) lk=0):=by
 have HR:Hid (Row w b off ms):=hr
 clear hr
 have HM:Hid (∀ i j,i≤j→j < ms.length→ord (ms.getD j dm) lk < 0→ord (ms.getD i dm) lk < 0):=hmono
 clear hmono
 generalize hN:ms.length=n at *
 have HN:Hid (ms.length=n):=hN
 clear hN
 go_enter Tryz.func236,Tryz.ntmps236
 go_wp2_with fail
 obtain ⟨W0,hW0⟩:∃ W0,W0=w.alloc (.cells #[.string lk.node,.string lk.idn,.string lk.name,.string lk.tag,.int .i64 lk.addr,.int .i64 lk.port,.bool lk.passing,.int .i64 lk.version,.bool lk.gone] 62):=⟨_,rfl⟩
 have hb0:Below w.heap.size w W0:=by rw [hW0];exact (Below.refl _ _).alloc (Nat.le_refl _) _
 have hg0:W0.heap[w.heap.size]?=some (.cells #[.string lk.node,.string lk.idn,.string lk.name,.string lk.tag,.int .i64 lk.addr,.int .i64 lk.port,.bool lk.passing,.int .i64 lk.version,.bool lk.gone] 62 (0,0)):=by rw [hW0];exact heap_alloc_new w _
 have hs0:W0.heap.size=w.heap.size+1:=by rw [hW0];simp
 have HR0:Hid (Row W0 b off ms):=HR.out.later hb0 hb
 have hT:∀ o,W0.cell? ⟨w.heap.size,o,none⟩=#[.string lk.node,.string lk.idn,.string lk.name,.string lk.tag,.int .i64 lk.addr,.int .i64 lk.port,.bool lk.passing,.int .i64 lk.version,.bool lk.gone][o]?:=fun o=>cellsAt hg0 o
 have HT:Hid (∀ o,W0.cell? ⟨w.heap.size,o,none⟩=#[.string lk.node,.string lk.idn,.string lk.name,.string lk.tag,.int .i64 lk.addr,.int .i64 lk.port,.bool lk.passing,.int .i64 lk.version,.bool lk.gone][o]?):=hT
 have HB0:Hid (Below w.heap.size w W0):=hb0
 have HW0:Hid (W0=w.alloc (.cells #[.string lk.node,.string lk.idn,.string lk.name,.string lk.tag,.int .i64 lk.addr,.int .i64 lk.port,.bool lk.passing,.int .i64 lk.version,.bool lk.gone] 62)):=hW0
 clear hT hg0 hb0 HR hW0
 have hb':b < w.heap.size+1:=by omega
 go_loopw [9,10] (fun i j w'=>∃ k l:Nat,k≤l∧l≤n∧i=.int .i64 k∧j=.int .i64 l∧Below (w.heap.size+1) W0 w'∧Hid (∀ j,j < k→ord (ms.getD j dm) lk < 0)∧Hid (∀ j,l≤j→j < n→0≤ord (ms.getD j dm) lk)) (fun i j _=>(intOf j).toNat - (intOf i).toNat)
 case atStart=>exact ⟨0,n,Nat.zero_le _,Nat.le_refl _,rfl,rfl,by rw [HW0.out];exact Below.refl _ _,fun j h=>absurd h (Nat.not_lt_zero _),fun j h1 h2=>by omega⟩
 case round=>
  obtain ⟨k,l,hkl,hln,rfl,rfl,hbl,hlo,hhi⟩:=hrel
  have hsz:=hbl.size
  have hbc:∀ b o,b < w.heap.size+1→wr.cell? ⟨b,o,none⟩=W0.cell? ⟨b,o,none⟩:=fun b o h=>hbl.cell (p:=⟨b,o,none⟩) h
  have G0:∀ d os,(Go.Sort.grow (redrawn wr d) os).cell? ⟨w.heap.size,0,none⟩=some (.string lk.node):=cell_regrown ((hbc _ _ (by omega)).trans (HT.out 0))
  have G1:∀ d os,(Go.Sort.grow (redrawn wr d) os).cell? ⟨w.heap.size,1,none⟩=some (.string lk.idn):=cell_regrown ((hbc _ _ (by omega)).trans (HT.out 1))
  have G2:∀ d os,(Go.Sort.grow (redrawn wr d) os).cell? ⟨w.heap.size,2,none⟩=some (.string lk.name):=cell_regrown ((hbc _ _ (by omega)).trans (HT.out 2))
  have G3:∀ d os,(Go.Sort.grow (redrawn wr d) os).cell? ⟨w.heap.size,3,none⟩=some (.string lk.tag):=cell_regrown ((hbc _ _ (by omega)).trans (HT.out 3))
  have G4:∀ d os,(Go.Sort.grow (redrawn wr d) os).cell? ⟨w.heap.size,4,none⟩=some (.int .i64 lk.addr):=cell_regrown ((hbc _ _ (by omega)).trans (HT.out 4))
  have G5:∀ d os,(Go.Sort.grow (redrawn wr d) os).cell? ⟨w.heap.size,5,none⟩=some (.int .i64 lk.port):=cell_regrown ((hbc _ _ (by omega)).trans (HT.out 5))
  have G6:∀ d os,(Go.Sort.grow (redrawn wr d) os).cell? ⟨w.heap.size,6,none⟩=some (.bool lk.passing):=cell_regrown ((hbc _ _ (by omega)).trans (HT.out 6))
  have G7:∀ d os,(Go.Sort.grow (redrawn wr d) os).cell? ⟨w.heap.size,7,none⟩=some (.int .i64 lk.version):=cell_regrown ((hbc _ _ (by omega)).trans (HT.out 7))
  have G8:∀ d os,(Go.Sort.grow (redrawn wr d) os).cell? ⟨w.heap.size,8,none⟩=some (.bool lk.gone):=cell_regrown ((hbc _ _ (by omega)).trans (HT.out 8))
  by_cases hlt:k < l
  ·obtain ⟨h,hh,h1,h2⟩:∃ h:Nat,((k:Int)+(l:Int)) / 2=(h:Int)∧k≤h∧h < l:=⟨(k+l) / 2,by omega,by omega,by omega⟩
   obtain ⟨c0,c1,c2,c3,c4,c5,c6,c7,c8⟩:=HR0.out h (by rw [HN.out];omega)
   have hm1:=HM.out
   have HK:Hid (ord (ms.getD h dm) lk < 0→∀ j,j < h+1→ord (ms.getD j dm) lk < 0):=fun hx j hj=>hm1 j h (by omega) (by omega) hx
   have HL:Hid (0≤ord (ms.getD h dm) lk→∀ j,h≤j→j < n→0≤ord (ms.getD j dm) lk):=fun hx j hj hjn=>by
    apply Int.not_lt.1
    intro hq
    have:=hm1 h j hj hjn hq
    omega
   clear hm1
   have hhn:h < n:=by omega
   generalize ms.getD h dm=m at *
   have hO:∀ d os,Calls Tryz.prog 147 #[.agg #[.string m.node,.string m.idn,.string m.name,.string m.tag,.int .i64 m.addr,.int .i64 m.port,.bool m.passing,.int .i64 m.version,.bool m.gone],.agg #[.string lk.node,.string lk.idn,.string lk.name,.string lk.tag,.int .i64 lk.addr,.int .i64 lk.port,.bool lk.passing,.int .i64 lk.version,.bool lk.gone]] (Go.Sort.grow (redrawn wr d) os) fun e w''=>e=.returned (.int .i64 (ord m lk))∧∃ p:Regrown,w''=Go.Sort.grow (redrawn wr p.d) p.os:=fun d os=>Calls.regrown_of (order_any m lk _)
   have F0:∀ d os,(Go.Sort.grow (redrawn wr d) os).cell? ⟨b,off+h * 9,none⟩=some (.string m.node):=cell_regrown ((hbc _ _ hb').trans c0)
   have F1:∀ d os,(Go.Sort.grow (redrawn wr d) os).cell? ⟨b,off+h * 9+1,none⟩=some (.string m.idn):=cell_regrown ((hbc _ _ hb').trans c1)
   have F2:∀ d os,(Go.Sort.grow (redrawn wr d) os).cell? ⟨b,off+h * 9+2,none⟩=some (.string m.name):=cell_regrown ((hbc _ _ hb').trans c2)
   have F3:∀ d os,(Go.Sort.grow (redrawn wr d) os).cell? ⟨b,off+h * 9+3,none⟩=some (.string m.tag):=cell_regrown ((hbc _ _ hb').trans c3)
   have F4:∀ d os,(Go.Sort.grow (redrawn wr d) os).cell? ⟨b,off+h * 9+4,none⟩=some (.int .i64 m.addr):=cell_regrown ((hbc _ _ hb').trans c4)
   have F5:∀ d os,(Go.Sort.grow (redrawn wr d) os).cell? ⟨b,off+h * 9+5,none⟩=some (.int .i64 m.port):=cell_regrown ((hbc _ _ hb').trans c5)
   have F6:∀ d os,(Go.Sort.grow (redrawn wr d) os).cell? ⟨b,off+h * 9+6,none⟩=some (.bool m.passing):=cell_regrown ((hbc _ _ hb').trans c6)
   have F7:∀ d os,(Go.Sort.grow (redrawn wr d) os).cell? ⟨b,off+h * 9+7,none⟩=some (.int .i64 m.version):=cell_regrown ((hbc _ _ hb').trans c7)
   have F8:∀ d os,(Go.Sort.grow (redrawn wr d) os).cell? ⟨b,off+h * 9+8,none⟩=some (.bool m.gone):=cell_regrown ((hbc _ _ hb').trans c8)
   clear c0 c1 c2 c3 c4 c5 c6 c7 c8 hbc
   generalize ord m lk=r at *
   by_cases hlt2:r < 0
   ·go_wp2_with fail
    refine wp_region_quiet_below (by kernel_rfl) (by kernel_rfl) ?_
    repeat (quiet_step (exact hO _ _))
    refine wpQuiet_nil ?_
    intro _ hw'
    obtain ⟨⟨dq,osq⟩,hw''⟩:=hw'
    subst hw''
    have HBQ:Hid (Below wr.heap.size wr (Go.Sort.grow (redrawn wr dq) osq)):=below_regrown wr dq osq
    clear hO F0 F1 F2 F3 F4 F5 F6 F7 F8 G0 G1 G2 G3 G4 G5 G6 G7 G8
    go_wp2_with fail
    exact ⟨⟨h+1,l,by omega,by omega,by go_num,rfl,hbl.trans (HBQ.out.mono (by omega)),HK.out hlt2,hhi⟩,by simp [intOf];omega⟩
   ·have hlt3:0≤r:=by omega
    go_wp2_with fail
    refine wp_region_quiet_below (by kernel_rfl) (by kernel_rfl) ?_
    repeat (quiet_step (exact hO _ _))
    refine wpQuiet_nil ?_
    intro _ hw'
    obtain ⟨⟨dq,osq⟩,hw''⟩:=hw'
    subst hw''
    have HBQ:Hid (Below wr.heap.size wr (Go.Sort.grow (redrawn wr dq) osq)):=below_regrown wr dq osq
    clear hO F0 F1 F2 F3 F4 F5 F6 F7 F8 G0 G1 G2 G3 G4 G5 G6 G7 G8
    go_wp2_with fail
    exact ⟨⟨k,h,by omega,by omega,rfl,rfl,hbl.trans (HBQ.out.mono (by omega)),hlo,HL.out hlt3⟩,by simp [intOf];omega⟩
  ·have hkl':l=k:=by omega
   subst hkl'
   by_cases hkn:l < n
   ·obtain ⟨c0,c1,c2,c3,c4,c5,c6,c7,c8⟩:=HR0.out l (by rw [HN.out];omega)
    generalize hm:ms.getD l dm=m at *
    have Hm:Hid (ms.getD l dm=m):=hm
    clear hm
    have hO:∀ d os,Calls Tryz.prog 147 #[.agg #[.string m.node,.string m.idn,.string m.name,.string m.tag,.int .i64 m.addr,.int .i64 m.port,.bool m.passing,.int .i64 m.version,.bool m.gone],.agg #[.string lk.node,.string lk.idn,.string lk.name,.string lk.tag,.int .i64 lk.addr,.int .i64 lk.port,.bool lk.passing,.int .i64 lk.version,.bool lk.gone]] (Go.Sort.grow (redrawn wr d) os) fun e w''=>e=.returned (.int .i64 (ord m lk))∧∃ p:Regrown,w''=Go.Sort.grow (redrawn wr p.d) p.os:=fun d os=>Calls.regrown_of (order_any m lk _)
    have F0:∀ d os,(Go.Sort.grow (redrawn wr d) os).cell? ⟨b,off+l * 9,none⟩=some (.string m.node):=cell_regrown ((hbc _ _ hb').trans c0)
    have F1:∀ d os,(Go.Sort.grow (redrawn wr d) os).cell? ⟨b,off+l * 9+1,none⟩=some (.string m.idn):=cell_regrown ((hbc _ _ hb').trans c1)
    have F2:∀ d os,(Go.Sort.grow (redrawn wr d) os).cell? ⟨b,off+l * 9+2,none⟩=some (.string m.name):=cell_regrown ((hbc _ _ hb').trans c2)
    have F3:∀ d os,(Go.Sort.grow (redrawn wr d) os).cell? ⟨b,off+l * 9+3,none⟩=some (.string m.tag):=cell_regrown ((hbc _ _ hb').trans c3)
    have F4:∀ d os,(Go.Sort.grow (redrawn wr d) os).cell? ⟨b,off+l * 9+4,none⟩=some (.int .i64 m.addr):=cell_regrown ((hbc _ _ hb').trans c4)
    have F5:∀ d os,(Go.Sort.grow (redrawn wr d) os).cell? ⟨b,off+l * 9+5,none⟩=some (.int .i64 m.port):=cell_regrown ((hbc _ _ hb').trans c5)
    have F6:∀ d os,(Go.Sort.grow (redrawn wr d) os).cell? ⟨b,off+l * 9+6,none⟩=some (.bool m.passing):=cell_regrown ((hbc _ _ hb').trans c6)
    have F7:∀ d os,(Go.Sort.grow (redrawn wr d) os).cell? ⟨b,off+l * 9+7,none⟩=some (.int .i64 m.version):=cell_regrown ((hbc _ _ hb').trans c7)
    have F8:∀ d os,(Go.Sort.grow (redrawn wr d) os).cell? ⟨b,off+l * 9+8,none⟩=some (.bool m.gone):=cell_regrown ((hbc _ _ hb').trans c8)
    clear c0 c1 c2 c3 c4 c5 c6 c7 c8 hbc
    generalize hrr:ord m lk=r at *
    have Hr:Hid (ord m lk=r):=hrr
    clear hrr
    go_wp2_with fail
    refine wp_region_quiet_below (by kernel_rfl) (by kernel_rfl) ?_
    repeat (quiet_step (exact hO _ _))
    refine wpQuiet_nil ?_
    intro _ hw'
    obtain ⟨⟨dq,osq⟩,hw''⟩:=hw'
    subst hw''
    have HBQ:Hid (Below wr.heap.size wr (Go.Sort.grow (redrawn wr dq) osq)):=below_regrown wr dq osq
    clear hO F0 F1 F2 F3 F4 F5 F6 F7 F8 G0 G1 G2 G3 G4 G5 G6 G7 G8
    go_wp2_with fail
    go_ret2
    refine ⟨l,_,rfl,HB0.out.trans ((hbl.trans (HBQ.out.mono (by omega))).mono (by omega)),by omega,hlo.out,hhi.out,?_⟩
    rw [Hm.out,Hr.out]
    simp [hkn]
   ·clear G0 G1 G2 G3 G4 G5 G6 G7 G8
    have hkd:decide ((l:Int) < (n:Int))=false:=by simp;omega
    go_wp2_with fail
    go_quiet (fail)
    go_wp2_with fail
    go_ret2
    refine ⟨l,_,rfl,HB0.out.trans ((below_drewN hbl _).mono (by omega)),by omega,hlo.out,hhi.out,?_⟩
    simp [hkn]
set_option maxHeartbeats 800000 in
theorem search_none (a:Option Addr) (cap:Nat) (lk:Svc) (fv:Value) (w:World) :
 Calls Tryz.prog 236 #[.slice a 0 cap,.agg #[.string lk.node,.string lk.idn,.string lk.name,.string lk.tag,.int .i64 lk.addr,.int .i64 lk.port,.bool lk.passing,.int .i64 lk.version,.bool lk.gone],fv] w fun e w'=>e=.returned (.tuple #[.int .i64 0,.bool false])∧Below w.heap.size w w':=by
 go_enter Tryz.func236,Tryz.ntmps236
 go_wp2_with fail
 go_loop [9,10] (fun i j=>i=.int .i64 0∧j=.int .i64 0) (fun _ _=>0)
 case atStart=>exact ⟨rfl,rfl⟩
 case round=>
  obtain ⟨rfl,rfl⟩:=hrel
  go_wp2_with fail
  go_quiet (fail)
  go_wp2_with fail
  go_ret2
  exact ⟨rfl,below_drewN ((Below.refl _ _).alloc (Nat.le_refl _) _) _⟩
theorem bsearch_any (ms:List Svc) (v:Value) (lk:Svc) (w:World) (h:Sl w v ms) (hn:ms.length≤80)
 (hmono:∀ i j,i≤j→j < ms.length→ord (ms.getD j dm) lk < 0→ord (ms.getD i dm) lk < 0) :
 Calls Tryz.prog 236 #[v,.agg #[.string lk.node,.string lk.idn,.string lk.name,.string lk.tag,.int .i64 lk.addr,.int .i64 lk.port,.bool lk.passing,.int .i64 lk.version,.bool lk.gone],.func (.func 147) #[] #[]] w fun e w'=>∃ (p:Nat) (f:Bool),e=.returned (.tuple #[.int .i64 p,.bool f])∧Below w.heap.size w w'∧At ms lk p f:=by
 obtain ⟨a,cap,rfl,hs,h⟩:=h
 rcases h with rfl | ⟨b,off,rfl,hb,hr⟩
 ·refine (search_none a cap lk _ w).mono ?_
  rintro e w' ⟨rfl,hb⟩
  exact ⟨0,false,rfl,hb,⟨by simp,fun j h=>by omega,fun j h h2=>by simp at h2,by simp⟩⟩
 ·refine (search_row ms b off cap lk w hr hb hn hmono).mono ?_
  rintro e w' ⟨p,f,rfl,hbl,g1,g2,g3,g4⟩
  exact ⟨p,f,rfl,hbl,⟨g1,g2,g3,g4⟩⟩
set_option maxHeartbeats 400000 in
theorem find_any (ms:List Svc) (v:Value) (lk:Svc) (w:World) (h:Sl w v ms) (hn:ms.length≤80) (hr:Rise ms) :
 Calls Tryz.prog 218 #[v,.agg #[.string lk.node,.string lk.idn,.string lk.name,.string lk.tag,.int .i64 lk.addr,.int .i64 lk.port,.bool lk.passing,.int .i64 lk.version,.bool lk.gone],.func (.func 147) #[] #[]] w fun e w'=>∃ (p:Nat) (f:Bool),e=.returned (.tuple #[.int .i64 p,.bool f])∧Below w.heap.size w w'∧At ms lk p f:=by
 have HC:Hid (∀ w',Below w.heap.size w w'→Calls Tryz.prog 236 #[v,.agg #[.string lk.node,.string lk.idn,.string lk.name,.string lk.tag,.int .i64 lk.addr,.int .i64 lk.port,.bool lk.passing,.int .i64 lk.version,.bool lk.gone],.func (.func 147) #[] #[]] w' fun e w''=>∃ (p:Nat) (f:Bool),e=.returned (.tuple #[.int .i64 p,.bool f])∧Below w'.heap.size w' w''∧At ms lk p f):=
  fun w' hb=>bsearch_any ms v lk w' (h.below hb) hn (rise_mono hr lk)
 clear h hn hr
 go_enter Tryz.func218,Tryz.ntmps218
 go_wp2_with (go_at_call 236;refine (HC.out _ ?hb).mono ?_)
 case hb=>exact (Below.refl _ _).alloc (Nat.le_refl _) _
 rintro e w' ⟨p,f,rfl,hbl,hat⟩
 have HAT:Hid (At ms lk p f):=hat
 clear hat
 go_wp2_with fail
 go_ret2
 exact ⟨p,f,rfl,((Below.refl _ _).alloc (Nat.le_refl _) _).trans (hbl.mono (by simp)),HAT.out⟩
end Sv
namespace Sv
open Go.RowKit
theorem stg_len {a b:List Svc} (hla:a.length≤40) (hlb:b.length≤40) (k:Nat):(stg a b k).length≤80:=by
 unfold stg
 split
 ·simp
 ·split
  ·omega
  ·have:=joinL_len b a;omega
structure Kth (w:World) (pb:Nat) (a b:List Svc) (k:Nat) (l:List Svc) (pk:Option Addr) (ck:Nat):Prop where
 cell:w.cell? ⟨pb,k,none⟩=some (.slice pk l.length ck)
 row:l=[]∨∃ b off,pk=some ⟨b,off,none⟩∧b < w.heap.size∧Row w b off l
 oks:∀ m∈l,(m).ok
 len:l.length≤40
 len0:(stg a b k).length≤40
 rise0:Rise (stg a b k)
 oks0:∀ m∈stg a b k,(m).ok
 step:stg a b (k+1)=joinL (stg a b k) l
theorem kth_of {a b:List Svc} {va vb:Value} {pb:Nat} {w:World} (ha:Sl w va a) (hb:Sl w vb b) (hc0:w.cell? ⟨pb,0,none⟩=some va) (hc1:w.cell? ⟨pb,1,none⟩=some vb) (hla:a.length≤40) (hlb:b.length≤40) (ra:Rise a) (k:Nat) (hk:k < 2) :
 ∃ l pk ck,Kth w pb a b k l pk ck:=by
 obtain ⟨pa,ca,rfl,nsa,ha⟩:=ha
 obtain ⟨pv,cb,rfl,nsb,hb⟩:=hb
 have hcases:k=0∨k=1:=by omega
 rcases hcases with rfl | rfl
 ·exact ⟨a,pa,ca,hc0,ha,ns_mem nsa,hla,by simp [stg],by simp [stg],by simp [stg],(joinL_nil a ra).symm⟩
 ·exact ⟨b,pv,cb,hc1,hb,ns_mem nsb,hlb,hla,ra,ns_mem nsa,rfl⟩
set_option maxHeartbeats 4000000 in
set_option maxRecDepth 100000 in
theorem rjoin_two (a b:List Svc) (va vb:Value) (pb cap:Nat) (w:World) (ha:Sl w va a) (hb:Sl w vb b) (hpb:pb < w.heap.size) (hc0:w.cell? ⟨pb,0,none⟩=some va) (hc1:w.cell? ⟨pb,1,none⟩=some vb)
 (hla:a.length≤40) (hlb:b.length≤40) (ra:Rise a) :
 Calls Tryz.prog 209 #[.func (.func 147) #[] #[],.func (.func 210) #[] #[],.slice (some ⟨pb,0,none⟩) 2 cap] w fun e w'=>∃ v',e=.returned v'∧Own w.heap.size w' v' (joinL a b)∧Below w.heap.size w w':=by
 have HK:Hid (∀ k,k < 2→∃ l pk ck,Kth w pb a b k l pk ck):=fun k hk=>kth_of ha hb hc0 hc1 hla hlb ra k hk
 have HL2:Hid (∀ k,(stg a b k).length≤80):=stg_len hla hlb
 clear ha hb hc0 hc1 hla hlb ra
 go_enter Tryz.func209,Tryz.ntmps209
 go_wp2_with fail
 go_loopw [7,16] (fun kn i w'=>∃ k:Nat,k≤2∧i=.int .i64 k∧Below w.heap.size w w'∧Hid (Own w.heap.size w' kn (stg a b k))) (fun _ i _=>2 - (intOf i).toNat)
 case atStart=>exact ⟨0,by omega,rfl,Below.refl _ _,own_nil _ _⟩
 case round=>
  obtain ⟨k,hk,rfl,hbl,HO⟩:=hrel
  obtain ⟨hbc,hbf⟩:=bcell hbl
  have hsz:=hbl.size
  by_cases hk2:k < 2
  ·obtain ⟨l,pk,ck,hKth⟩:=HK.out k hk2
   have HKT:Hid (Kth w pb a b k l pk ck):=hKth
   have hcell:=hKth.cell
   clear hKth
   generalize hnl:l.length=nl at *
   have HNL:Hid (l.length=nl):=hnl
   clear hnl
   have hnl40:nl≤40:=by have:=HKT.out.len;have:=HNL.out;omega
   have hk2':(k:Int) < 2:=by omega
   go_wp2_with fail
   go_loopw [7,22] (fun kn j w'=>∃ q:Nat,q≤nl∧j=.int .i64 q∧Below w.heap.size w w'∧Hid (Own w.heap.size w' kn (joinL (stg a b k) (l.take q)))) (fun _ j _=>nl - (intOf j).toNat)
   case atStart=>exact ⟨0,Nat.zero_le _,rfl,hbl,HO⟩
   case round=>
    clear hbc hbf hsz hbl HO hcell
    obtain ⟨q,hq,rfl,hbl,HO⟩:=hrel
    obtain ⟨hbc,hbf⟩:=bcell hbl
    have hsz:=hbl.size
    by_cases hlt:q < nl
    ·obtain ⟨b2,off,hptr,hpl,hrow⟩:∃ b_1 off,pk=some ⟨b_1,off,none⟩∧b_1 < w.heap.size∧Row w b_1 off l:=by
      rcases HKT.out.row with h | h
      ·have:=HNL.out;rw [h] at this;simp at this;omega
      ·exact h
     subst hptr
     obtain ⟨c0,c1,c2,c3,c4,c5,c6,c7,c8⟩:=hrow q (by rw [HNL.out];exact hlt)
     clear hrow
     have HJ:Hid (joinL (stg a b k) (l.take (q+1))=hearL (joinL (stg a b k) (l.take q)) (l.getD q dm)):=joinL_take (stg a b k) l q (by rw [HNL.out];exact hlt)
     have HR:Hid (Rise (joinL (stg a b k) (l.take q))):=joinL_rise _ _ HKT.out.rise0
     have HNs:Hid (∀ j,((joinL (stg a b k) (l.take q)).getD j dm).ok):=ns_get (ns_join _ _ HKT.out.oks0 (fun x hx=>HKT.out.oks x (List.mem_of_mem_take hx)))
     have HL:Hid ((joinL (stg a b k) (l.take q)).length≤80):=by
      have h1:=joinL_len (l.take q) (stg a b k)
      have h2:(l.take q).length≤q:=List.length_take_le _ _
      have h3:=HKT.out.len0
      show (joinL (stg a b k) (l.take q)).length≤80
      omega
     generalize l.getD q dm=m at *
     generalize joinL (stg a b k) (l.take q)=known at *
     have hl40:known.length≤80:=HL.out
     obtain ⟨W1,hW1⟩:∃ W1,W1=wr.alloc (.cells #[.string m.node,.string m.idn,.string m.name,.string m.tag,.int .i64 m.addr,.int .i64 m.port,.bool m.passing,.int .i64 m.version,.bool m.gone] 62):=⟨_,rfl⟩
     have hb1:Below wr.heap.size wr W1:=by rw [hW1];exact (Below.refl _ _).alloc (Nat.le_refl _) _
     have hs1:W1.heap.size=wr.heap.size+1:=by rw [hW1];simp
     have hg1:W1.heap[wr.heap.size]?=some (.cells #[.string m.node,.string m.idn,.string m.name,.string m.tag,.int .i64 m.addr,.int .i64 m.port,.bool m.passing,.int .i64 m.version,.bool m.gone] 62 (0,0)):=by rw [hW1];exact heap_alloc_new wr _
     have HO1:Hid (Own w.heap.size W1 u7 known):=HO.out.below hb1
     have HF:Hid (Calls Tryz.prog 218 #[u7,.agg #[.string m.node,.string m.idn,.string m.name,.string m.tag,.int .i64 m.addr,.int .i64 m.port,.bool m.passing,.int .i64 m.version,.bool m.gone],.func (.func 147) #[] #[]] W1 fun e w'=>∃ (p:Nat) (f:Bool),e=.returned (.tuple #[.int .i64 p,.bool f])∧Below W1.heap.size W1 w'∧At known m p f):=
      find_any known u7 m W1 (HO1.out.sl HNs.out) HL.out HR.out
     have HB1:Hid (Below w.heap.size w W1):=hbl.trans (hb1.mono hsz)
     have HT:Hid (∀ o,W1.cell? ⟨wr.heap.size,o,none⟩=#[.string m.node,.string m.idn,.string m.name,.string m.tag,.int .i64 m.addr,.int .i64 m.port,.bool m.passing,.int .i64 m.version,.bool m.gone][o]?):=fun o=>cellsAt hg1 o
     have HW1:Hid (W1=wr.alloc (.cells #[.string m.node,.string m.idn,.string m.name,.string m.tag,.int .i64 m.addr,.int .i64 m.port,.bool m.passing,.int .i64 m.version,.bool m.gone] 62)):=hW1
     have hs1':w.heap.size≤W1.heap.size:=by omega
     clear hg1 hb1 HO HL HR hW1
     go_wp2_with fail
     rw [← HW1.out]
     refine HF.out.mono ?_
     rintro e w2 ⟨p,f,rfl,hb2,hat⟩
     have HAT:Hid (At known m p f):=hat
     have hpl2:p≤known.length:=hat.le
     have hsz2:=hb2.size
     have HO2:Hid (Own w.heap.size w2 u7 known):=HO1.out.below hb2
     have HB2:Hid (Below w.heap.size w w2):=HB1.out.trans (hb2.mono hs1')
     have t0:w2.cell? ⟨wr.heap.size,0,none⟩=some (.string m.node):=(hb2.cell (p:=⟨wr.heap.size,0,none⟩) (by show wr.heap.size < W1.heap.size;omega)).trans (HT.out 0)
     have t1:w2.cell? ⟨wr.heap.size,1,none⟩=some (.string m.idn):=(hb2.cell (p:=⟨wr.heap.size,1,none⟩) (by show wr.heap.size < W1.heap.size;omega)).trans (HT.out 1)
     have t2:w2.cell? ⟨wr.heap.size,2,none⟩=some (.string m.name):=(hb2.cell (p:=⟨wr.heap.size,2,none⟩) (by show wr.heap.size < W1.heap.size;omega)).trans (HT.out 2)
     have t3:w2.cell? ⟨wr.heap.size,3,none⟩=some (.string m.tag):=(hb2.cell (p:=⟨wr.heap.size,3,none⟩) (by show wr.heap.size < W1.heap.size;omega)).trans (HT.out 3)
     have t4:w2.cell? ⟨wr.heap.size,4,none⟩=some (.int .i64 m.addr):=(hb2.cell (p:=⟨wr.heap.size,4,none⟩) (by show wr.heap.size < W1.heap.size;omega)).trans (HT.out 4)
     have t5:w2.cell? ⟨wr.heap.size,5,none⟩=some (.int .i64 m.port):=(hb2.cell (p:=⟨wr.heap.size,5,none⟩) (by show wr.heap.size < W1.heap.size;omega)).trans (HT.out 5)
     have t6:w2.cell? ⟨wr.heap.size,6,none⟩=some (.bool m.passing):=(hb2.cell (p:=⟨wr.heap.size,6,none⟩) (by show wr.heap.size < W1.heap.size;omega)).trans (HT.out 6)
     have t7:w2.cell? ⟨wr.heap.size,7,none⟩=some (.int .i64 m.version):=(hb2.cell (p:=⟨wr.heap.size,7,none⟩) (by show wr.heap.size < W1.heap.size;omega)).trans (HT.out 7)
     have t8:w2.cell? ⟨wr.heap.size,8,none⟩=some (.bool m.gone):=(hb2.cell (p:=⟨wr.heap.size,8,none⟩) (by show wr.heap.size < W1.heap.size;omega)).trans (HT.out 8)
     have hs2:w.heap.size≤w2.heap.size:=by omega
     have hs2':wr.heap.size < w2.heap.size:=by omega
     clear hat HF hbc hbf c0 c1 c2 c3 c4 c5 c6 c7 c8 hb2 HO1 HB1 HT
     cases f
     ·have hne:Hid (u7.ownBlock≠some w2.heap.size):=fun e=>by have:=HO2.out.lt _ e;omega
      have HO3:Hid (Own w.heap.size (w2.alloc (.cells #[.string m.node,.string m.idn,.string m.name,.string m.tag,.int .i64 m.addr,.int .i64 m.port,.bool m.passing,.int .i64 m.version,.bool m.gone] 62)) u7 known):=HO2.out.below ((Below.refl _ _).alloc (Nat.le_refl _) _)
      have hvb:Hid ((w2.alloc (.cells #[.string m.node,.string m.idn,.string m.name,.string m.tag,.int .i64 m.addr,.int .i64 m.port,.bool m.passing,.int .i64 m.version,.bool m.gone] 62)).heap[w2.heap.size]?=some (.cells m.cs.toArray 62 (0,0))):=heap_alloc_new w2 _
      go_wp2_with (go_at_call 232;refine (insert_any w.heap.size p w2.heap.size u7 known m _ HO3.out HAT.out.le (by omega) (by simp;omega) hvb.out hne.out).mono ?_;rintro e w4 ⟨v',rfl,g1,g2⟩)
      go_roundw
      case rel=>
       have hfin:∃ q_1:Nat,q_1≤nl∧Value.int .i64 ((q:Int)+1)=.int .i64 q_1∧Below w.heap.size w w4∧Hid (Own w.heap.size w4 v' (joinL (stg a b k) (l.take q_1))):=⟨q+1,by omega,by go_num,below_grown (HB2.out.alloc hs2 _) HO3.out g2 (by simp;omega),by rw [HJ.out,hearL_at known m p false HAT.out];exact g1⟩
       first | exact hfin | ((repeat apply Exists.intro);exact ⟨hfin,rfl⟩)
      case measure=>simp [intOf];omega
     ·have hp:p < known.length:=(HAT.out.is.1 rfl).1
      obtain ⟨g,c,hu⟩:=own_form HO2.out p hp
      subst hu
      obtain ⟨c0,c1,c2,c3,c4,c5,c6,c7,c8⟩:=own_cells HO2.out p hp
      have hgl:=HO2.out.lt g rfl
      have hgl2:g < w2.heap.size:=hgl.2
      generalize hm:known.getD p dm=m2 at *
      have Hm:Hid (known.getD p dm=m2):=hm
      clear hm
      have hN:∀ d os,Calls Tryz.prog 210 #[.agg #[.string m.node,.string m.idn,.string m.name,.string m.tag,.int .i64 m.addr,.int .i64 m.port,.bool m.passing,.int .i64 m.version,.bool m.gone],.agg #[.string m2.node,.string m2.idn,.string m2.name,.string m2.tag,.int .i64 m2.addr,.int .i64 m2.port,.bool m2.passing,.int .i64 m2.version,.bool m2.gone]] (Go.Sort.grow (redrawn w2 d) os) fun e w''=>e=.returned (.bool (newE m m2))∧∃ p:Regrown,w''=Go.Sort.grow (redrawn w2 p.d) p.os:=fun d os=>Calls.regrown_of (newerE_any m m2 _)
      have F0:∀ d os,(Go.Sort.grow (redrawn w2 d) os).cell? ⟨g,p * 9,none⟩=some (.string m2.node):=cell_regrown c0
      have F1:∀ d os,(Go.Sort.grow (redrawn w2 d) os).cell? ⟨g,p * 9+1,none⟩=some (.string m2.idn):=cell_regrown c1
      have F2:∀ d os,(Go.Sort.grow (redrawn w2 d) os).cell? ⟨g,p * 9+2,none⟩=some (.string m2.name):=cell_regrown c2
      have F3:∀ d os,(Go.Sort.grow (redrawn w2 d) os).cell? ⟨g,p * 9+3,none⟩=some (.string m2.tag):=cell_regrown c3
      have F4:∀ d os,(Go.Sort.grow (redrawn w2 d) os).cell? ⟨g,p * 9+4,none⟩=some (.int .i64 m2.addr):=cell_regrown c4
      have F5:∀ d os,(Go.Sort.grow (redrawn w2 d) os).cell? ⟨g,p * 9+5,none⟩=some (.int .i64 m2.port):=cell_regrown c5
      have F6:∀ d os,(Go.Sort.grow (redrawn w2 d) os).cell? ⟨g,p * 9+6,none⟩=some (.bool m2.passing):=cell_regrown c6
      have F7:∀ d os,(Go.Sort.grow (redrawn w2 d) os).cell? ⟨g,p * 9+7,none⟩=some (.int .i64 m2.version):=cell_regrown c7
      have F8:∀ d os,(Go.Sort.grow (redrawn w2 d) os).cell? ⟨g,p * 9+8,none⟩=some (.bool m2.gone):=cell_regrown c8
      have G0:∀ d os,(Go.Sort.grow (redrawn w2 d) os).cell? ⟨wr.heap.size,0,none⟩=some (.string m.node):=cell_regrown t0
      have G1:∀ d os,(Go.Sort.grow (redrawn w2 d) os).cell? ⟨wr.heap.size,1,none⟩=some (.string m.idn):=cell_regrown t1
      have G2:∀ d os,(Go.Sort.grow (redrawn w2 d) os).cell? ⟨wr.heap.size,2,none⟩=some (.string m.name):=cell_regrown t2
      have G3:∀ d os,(Go.Sort.grow (redrawn w2 d) os).cell? ⟨wr.heap.size,3,none⟩=some (.string m.tag):=cell_regrown t3
      have G4:∀ d os,(Go.Sort.grow (redrawn w2 d) os).cell? ⟨wr.heap.size,4,none⟩=some (.int .i64 m.addr):=cell_regrown t4
      have G5:∀ d os,(Go.Sort.grow (redrawn w2 d) os).cell? ⟨wr.heap.size,5,none⟩=some (.int .i64 m.port):=cell_regrown t5
      have G6:∀ d os,(Go.Sort.grow (redrawn w2 d) os).cell? ⟨wr.heap.size,6,none⟩=some (.bool m.passing):=cell_regrown t6
      have G7:∀ d os,(Go.Sort.grow (redrawn w2 d) os).cell? ⟨wr.heap.size,7,none⟩=some (.int .i64 m.version):=cell_regrown t7
      have G8:∀ d os,(Go.Sort.grow (redrawn w2 d) os).cell? ⟨wr.heap.size,8,none⟩=some (.bool m.gone):=cell_regrown t8
      have hfz:∀ o,w2.frozen? ⟨g,o,none⟩=false:=fun o=>World.ownsRow.frozenAt HO2.out o
      have HFZ:Hid (∀ o,w2.frozen? ⟨g,o,none⟩=false):=hfz
      clear c0 c1 c2 c3 c4 c5 c6 c7 c8 hfz
      have HT:Hid (w2.cell? ⟨wr.heap.size,0,none⟩=some (.string m.node)∧w2.cell? ⟨wr.heap.size,1,none⟩=some (.string m.idn)∧w2.cell? ⟨wr.heap.size,2,none⟩=some (.string m.name)∧w2.cell? ⟨wr.heap.size,3,none⟩=some (.string m.tag)∧w2.cell? ⟨wr.heap.size,4,none⟩=some (.int .i64 m.addr)∧w2.cell? ⟨wr.heap.size,5,none⟩=some (.int .i64 m.port)∧w2.cell? ⟨wr.heap.size,6,none⟩=some (.bool m.passing)∧w2.cell? ⟨wr.heap.size,7,none⟩=some (.int .i64 m.version)∧w2.cell? ⟨wr.heap.size,8,none⟩=some (.bool m.gone)):=⟨t0,t1,t2,t3,t4,t5,t6,t7,t8⟩
      clear t0 t1 t2 t3 t4 t5 t6 t7 t8
      generalize hnw:newE m m2=nw at *
      have Hnw:Hid (newE m m2=nw):=hnw
      clear hnw
      cases nw
      ·go_wp2_with fail
       refine wp_region_quiet_below (by kernel_rfl) (by kernel_rfl) ?_
       repeat (quiet_step (exact hN _ _))
       refine wpQuiet_nil ?_
       intro _ hw'
       obtain ⟨⟨dq,osq⟩,hw''⟩:=hw'
       subst hw''
       have HBQ:Hid (Below w2.heap.size w2 (Go.Sort.grow (redrawn w2 dq) osq)):=below_regrown w2 dq osq
       clear hN F0 F1 F2 F3 F4 F5 F6 F7 F8 G0 G1 G2 G3 G4 G5 G6 G7 G8
       go_wp2_with fail
       go_roundw
       case rel=>
        have hfin:∃ q_1:Nat,q_1≤nl∧Value.int .i64 ((q:Int)+1)=.int .i64 q_1∧Below w.heap.size w (Go.Sort.grow (redrawn w2 dq) osq)∧Hid (Own w.heap.size (Go.Sort.grow (redrawn w2 dq) osq) (.slice (some ⟨g,0,none⟩) known.length c) (joinL (stg a b k) (l.take q_1))):=⟨q+1,by omega,by go_num,HB2.out.trans (HBQ.out.mono hs2),by rw [HJ.out,hearL_at known m p true HAT.out,if_pos rfl,Hm.out,if_neg (fun h=>Bool.false_ne_true (Hnw.out.symm.trans h))];exact HO2.out.below HBQ.out⟩
        first | exact hfin | ((repeat apply Exists.intro);exact ⟨hfin,rfl⟩)
       case measure=>simp [intOf];omega
      ·go_wp2_with fail
       refine wp_region_quiet_below (by kernel_rfl) (by kernel_rfl) ?_
       repeat (quiet_step (exact hN _ _))
       refine wpQuiet_nil ?_
       intro _ hw'
       obtain ⟨⟨dq,osq⟩,hw''⟩:=hw'
       subst hw''
       have HBQ:Hid (Below w2.heap.size w2 (Go.Sort.grow (redrawn w2 dq) osq)):=below_regrown w2 dq osq
       clear hN F0 F1 F2 F3 F4 F5 F6 F7 F8 G0 G1 G2 G3 G4 G5 G6 G7 G8
       generalize Go.Sort.grow (redrawn w2 dq) osq=w3 at *
       have HO3:Hid (Own w.heap.size w3 (.slice (some ⟨g,0,none⟩) known.length c) known):=HO2.out.below HBQ.out
       obtain ⟨c0,c1,c2,c3,c4,c5,c6,c7,c8⟩:=own_cells HO3.out p hp
       rw [Hm.out] at c0 c1 c2 c3 c4 c5 c6 c7 c8
       have hg3:g < w3.heap.size:=(HO3.out.lt g rfl).2
       have hfz:∀ o,w3.frozen? ⟨g,o,none⟩=false:=fun o=>World.ownsRow.frozenAt HO3.out o
       obtain ⟨t0,t1,t2,t3,t4,t5,t6,t7,t8⟩:=HT.out
       have s0:w3.cell? ⟨wr.heap.size,0,none⟩=some (.string m.node):=(HBQ.out.cell (p:=⟨wr.heap.size,0,none⟩) hs2').trans t0
       have s1:w3.cell? ⟨wr.heap.size,1,none⟩=some (.string m.idn):=(HBQ.out.cell (p:=⟨wr.heap.size,1,none⟩) hs2').trans t1
       have s2:w3.cell? ⟨wr.heap.size,2,none⟩=some (.string m.name):=(HBQ.out.cell (p:=⟨wr.heap.size,2,none⟩) hs2').trans t2
       have s3:w3.cell? ⟨wr.heap.size,3,none⟩=some (.string m.tag):=(HBQ.out.cell (p:=⟨wr.heap.size,3,none⟩) hs2').trans t3
       have s4:w3.cell? ⟨wr.heap.size,4,none⟩=some (.int .i64 m.addr):=(HBQ.out.cell (p:=⟨wr.heap.size,4,none⟩) hs2').trans t4
       have s5:w3.cell? ⟨wr.heap.size,5,none⟩=some (.int .i64 m.port):=(HBQ.out.cell (p:=⟨wr.heap.size,5,none⟩) hs2').trans t5
       have s6:w3.cell? ⟨wr.heap.size,6,none⟩=some (.bool m.passing):=(HBQ.out.cell (p:=⟨wr.heap.size,6,none⟩) hs2').trans t6
       have s7:w3.cell? ⟨wr.heap.size,7,none⟩=some (.int .i64 m.version):=(HBQ.out.cell (p:=⟨wr.heap.size,7,none⟩) hs2').trans t7
       have s8:w3.cell? ⟨wr.heap.size,8,none⟩=some (.bool m.gone):=(HBQ.out.cell (p:=⟨wr.heap.size,8,none⟩) hs2').trans t8
       clear t0 t1 t2 t3 t4 t5 t6 t7 t8
       go_wp2_with fail
       refine ⟨⟨q+1,by omega,by go_num,?_,?_⟩,by simp [intOf];omega⟩
       ·exact ((((((((((HB2.out.trans (HBQ.out.mono hs2)).setCell (p:=⟨g,p * 9,none⟩) hgl.1 (.string m.node)).setCell (p:=⟨g,p * 9+1,none⟩) hgl.1 (.string m.idn)).setCell (p:=⟨g,p * 9+2,none⟩) hgl.1 (.string m.name)).setCell (p:=⟨g,p * 9+3,none⟩) hgl.1 (.string m.tag)).setCell (p:=⟨g,p * 9+4,none⟩) hgl.1 (.int .i64 m.addr)).setCell (p:=⟨g,p * 9+5,none⟩) hgl.1 (.int .i64 m.port)).setCell (p:=⟨g,p * 9+6,none⟩) hgl.1 (.bool m.passing)).setCell (p:=⟨g,p * 9+7,none⟩) hgl.1 (.int .i64 m.version)).setCell (p:=⟨g,p * 9+8,none⟩) hgl.1 (.bool m.gone))
       ·rw [HJ.out,hearL_at known m p true HAT.out,if_pos rfl,Hm.out,if_pos Hnw.out]
        exact own_set HO3.out hp m
    ·have hqn:q=nl:=by omega
     subst hqn
     have HO3:Hid (Own w.heap.size wr u7 (stg a b (k+1))):=by
      have h:=HO.out
      rw [List.take_of_length_le (by rw [HNL.out];exact Nat.le_refl _)] at h
      rw [HKT.out.step];exact h
     go_wp2_with fail
     go_roundw
     case rel=>exact ⟨k+1,by omega,by go_num,hbl,HO3⟩
     case measure=>simp [intOf];omega
  ·have hk3:k=2:=by omega
   subst hk3
   go_wp2_with fail
   go_ret
   exact ⟨_,rfl,HO.out,hbl⟩
end Sv
end Go.Proofs.YtikgjgmgbfjcgaaGreat
