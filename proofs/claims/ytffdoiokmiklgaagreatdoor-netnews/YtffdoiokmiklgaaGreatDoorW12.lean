import Derived.Test.YtffdoiokmiklgaaGreatDoorW8
import Derived.Deep.RegionHeld3
namespace Go.Proofs.YtffdoiokmiklgaaGreatDoor
namespace Sv
open Go.RowKit
theorem cell_topS {W:World} {cs:Array Value} {t:TypeId} {g k:Nat} (hg:g=W.heap.size):(W.alloc (.cells cs t)).cell? ⟨g,k,none⟩=cs[k]?:=by subst hg;simp
theorem less_not {a b:ByteArray} (h:¬ a=b):Op.bytesLess a.toList b.toList = !Op.bytesLess b.toList a.toList:=by
 have h1:=bl_total b.toList a.toList
 rw [(beq_name h).1,Bool.or_false] at h1
 exact h1.symm
def orZ (a b:Int):Int:=if a=0 then b else a
set_option maxHeartbeats 800000 in
theorem or_any (a b:Int) (g:Nat) (c:Nat) (w:World) (h0:w.cell? ⟨g,0,none⟩=some (.int .i64 a)) (h1:w.cell? ⟨g,1,none⟩=some (.int .i64 b)) :
 Calls Tryz.prog 210 #[.slice (some ⟨g,0,none⟩) 2 c] w fun e w'=>e=.returned (.int .i64 (orZ a b))∧w'=w:=by
 by_cases ha:a=0
 ·subst ha
  by_cases hb:b=0
  ·subst hb
   go_enter Tryz.func210,Tryz.ntmps210
   go_wp2_with fail
   refine wp_loop_rounds 3 ?_
   rw [rounds_succ]
   go_wp2_with fail
   rw [rounds_succ]
   go_wp2_with fail
   rw [rounds_succ]
   go_wp2_with fail
   go_ret
   exact ⟨rfl,rfl⟩
  ·have hb':(b != 0)=true:=by simpa using hb
   go_enter Tryz.func210,Tryz.ntmps210
   go_wp2_with fail
   refine wp_loop_rounds 3 ?_
   rw [rounds_succ]
   go_wp2_with fail
   rw [rounds_succ]
   go_wp2_with fail
   go_ret
   exact ⟨rfl,rfl⟩
 ·have ha':(a != 0)=true:=by simpa using ha
  go_enter Tryz.func210,Tryz.ntmps210
  go_wp2_with fail
  refine wp_loop_rounds 3 ?_
  rw [rounds_succ]
  go_wp2_with fail
  go_ret
  exact ⟨ret_int (by unfold orZ;rw [if_neg ha]),rfl⟩
set_option maxHeartbeats 800000 in
theorem order_any (a b:Svc) (w:World) :
 Calls Tryz.prog 184 #[.agg #[.string a.node,.string a.idn,.string a.name,.string a.tag,.int .i64 a.addr,.int .i64 a.port,.bool a.passing,.int .i64 a.version,.bool a.gone],.agg #[.string b.node,.string b.idn,.string b.name,.string b.tag,.int .i64 b.addr,.int .i64 b.port,.bool b.passing,.int .i64 b.version,.bool b.gone]] w fun e w'=>e=.returned (.int .i64 (ord a b))∧Below w.heap.size w w':=by
 go_enter Tryz.func184,Tryz.ntmps184
 go_wp2_with fail
 obtain ⟨W,hW⟩:∃ W,W=(w.alloc (.cells #[.string a.node,.string a.idn,.string a.name,.string a.tag,.int .i64 a.addr,.int .i64 a.port,.bool a.passing,.int .i64 a.version,.bool a.gone] 42)).alloc (.cells #[.string b.node,.string b.idn,.string b.name,.string b.tag,.int .i64 b.addr,.int .i64 b.port,.bool b.passing,.int .i64 b.version,.bool b.gone] 42):=⟨_,rfl⟩
 rw [← hW]
 have hbW:Below w.heap.size w W:=by rw [hW];exact ((Below.refl _ _).alloc (Nat.le_refl _) _).alloc (by simp) _
 have hga:W.heap[w.heap.size]?=some (.cells #[.string a.node,.string a.idn,.string a.name,.string a.tag,.int .i64 a.addr,.int .i64 a.port,.bool a.passing,.int .i64 a.version,.bool a.gone] 42 (0,0)):=by
  rw [hW,Below.heap_alloc _ _ _ (by simp)];exact heap_alloc_new w _
 have hgb:W.heap[w.heap.size+1]?=some (.cells #[.string b.node,.string b.idn,.string b.name,.string b.tag,.int .i64 b.addr,.int .i64 b.port,.bool b.passing,.int .i64 b.version,.bool b.gone] 42 (0,0)):=by
  have h:=heap_alloc_new (w.alloc (.cells #[.string a.node,.string a.idn,.string a.name,.string a.tag,.int .i64 a.addr,.int .i64 a.port,.bool a.passing,.int .i64 a.version,.bool a.gone] 42)) (.cells #[.string b.node,.string b.idn,.string b.name,.string b.tag,.int .i64 b.addr,.int .i64 b.port,.bool b.passing,.int .i64 b.version,.bool b.gone] 42)
  rw [hW];simpa using h
 have n0:W.cell? ⟨w.heap.size,0,none⟩=some (.string a.node):=cellsAt hga 0
 have n1:W.cell? ⟨w.heap.size,1,none⟩=some (.string a.idn):=cellsAt hga 1
 have m0:W.cell? ⟨w.heap.size+1,0,none⟩=some (.string b.node):=cellsAt hgb 0
 have m1:W.cell? ⟨w.heap.size+1,1,none⟩=some (.string b.idn):=cellsAt hgb 1
 have HBW:Hid (Below w.heap.size w W):=hbW
 have hsW:=hbW.size
 have h1:=World.new_ne W _ n0
 have h2:=World.new_ne W _ n1
 have h3:=World.new_ne W _ m0
 have h4:=World.new_ne W _ m1
 clear hga hgb hW hbW
 go_region_held3 (fun w'=>w'.cell? ⟨w.heap.size,0,none⟩=some (.string a.node)∧w'.cell? ⟨w.heap.size,1,none⟩=some (.string a.idn)∧w'.cell? ⟨w.heap.size+1,0,none⟩=some (.string b.node)∧w'.cell? ⟨w.heap.size+1,1,none⟩=some (.string b.idn)) (go_keep) (first | (go_at_call 99;refine (compare_any _ _ _).mono ?_;rintro e w' ⟨rfl,rfl⟩) | (go_at_call 210;refine (or_any (cmpI a.node b.node) (cmpI a.idn b.idn) _ _ _ (cell_topS rfl) (cell_topS rfl)).mono ?_;rintro e w' ⟨rfl,rfl⟩))
 go_wp2_with fail
 go_ret
 exact ⟨rfl,(HBW.out.alloc hsW _).drew⟩
theorem newE_def (a b:Svc):newE a b=if a.version=b.version then (if a.gone=b.gone then (if a.name=b.name then (if a.tag=b.tag then (if a.addr=b.addr then (if a.port=b.port then (a.passing && !b.passing) else decide (b.port < a.port)) else decide (b.addr < a.addr)) else less b.tag a.tag) else less b.name a.name) else a.gone) else decide (b.version < a.version):=by
 have hI:∀ x y:Int,(x - y=0)↔x=y:=fun x y=>by omega
 have hB:∀ x y:Bool,(RL.bI x=RL.bI y)↔x=y:=fun x y=>⟨fun h=>RL.bI_inj (by omega),fun h=>by rw [h]⟩
 have hP:∀ x y:Int,(0 < x - y)↔y < x:=fun x y=>by omega
 have hL:∀ x y:ByteArray,decide (0 < cmpI x y)=less y x:=fun x y=>by rw [Bool.eq_iff_iff,decide_eq_true_eq];exact cmpI_gt x y
 have hG:∀ x y:Bool,x≠y→decide (0 < RL.bI x - RL.bI y)=x:=fun x y h=>by cases x<;>cases y<;>simp [RL.bI] at h ⊢
 have hQ:∀ x y:Bool,decide (0 < RL.bI x - RL.bI y)=(x && !y):=fun x y=>by cases x<;>cases y<;>simp [RL.bI]
 simp only [newE,newC,RL.lex,hI,hB,cmpI_eq]
 by_cases h1:a.version=b.version
 ·simp only [if_pos h1]
  by_cases h2:a.gone=b.gone
  ·simp only [if_pos h2]
   by_cases h3:a.name=b.name
   ·simp only [if_pos h3]
    by_cases h4:a.tag=b.tag
    ·simp only [if_pos h4]
     by_cases h5:a.addr=b.addr
     ·simp only [if_pos h5]
      by_cases h6:a.port=b.port
      ·simp only [if_pos h6];exact hQ _ _
      ·simp only [if_neg h6,hP]
     ·simp only [if_neg h5,hP]
    ·simp only [if_neg h4];exact hL _ _
   ·simp only [if_neg h3];exact hL _ _
  ·simp only [if_neg h2];exact hG _ _ h2
 ·simp only [if_neg h1,hP]
set_option maxHeartbeats 1600000 in
theorem newer_vars (f:Nat) (hf:f=199) (a_node:ByteArray) (a_idn:ByteArray) (a_name:ByteArray) (a_tag:ByteArray) (a_addr:Int) (a_port:Int) (a_passing:Bool) (a_version:Int) (a_gone:Bool) (b_node:ByteArray) (b_idn:ByteArray) (b_name:ByteArray) (b_tag:ByteArray) (b_addr:Int) (b_port:Int) (b_passing:Bool) (b_version:Int) (b_gone:Bool) (w:World) :
 Calls Tryz.prog f #[.agg #[.string a_node,.string a_idn,.string a_name,.string a_tag,.int .i64 a_addr,.int .i64 a_port,.bool a_passing,.int .i64 a_version,.bool a_gone],.agg #[.string b_node,.string b_idn,.string b_name,.string b_tag,.int .i64 b_addr,.int .i64 b_port,.bool b_passing,.int .i64 b_version,.bool b_gone]] w fun e w'=>e=.returned (.bool (newE ⟨a_node,a_idn,a_name,a_tag,a_addr,a_port,a_passing,a_version,a_gone⟩ ⟨b_node,b_idn,b_name,b_tag,b_addr,b_port,b_passing,b_version,b_gone⟩))∧Below w.heap.size w w':=by
 subst hf
 have hB:Hid (Below w.heap.size w ((w.alloc (.cells #[.string a_node,.string a_idn,.string a_name,.string a_tag,.int .i64 a_addr,.int .i64 a_port,.bool a_passing,.int .i64 a_version,.bool a_gone] 42)).alloc (.cells #[.string b_node,.string b_idn,.string b_name,.string b_tag,.int .i64 b_addr,.int .i64 b_port,.bool b_passing,.int .i64 b_version,.bool b_gone] 42))):=((Below.refl _ _).alloc (Nat.le_refl _) _).alloc (by simp) _
 by_cases h1:a_version=b_version
 ·subst h1
  by_cases h2:a_gone=b_gone
  ·subst h2
   by_cases h3:a_name=b_name
   ·subst h3
    by_cases h4:a_tag=b_tag
    ·subst h4
     by_cases h5:a_addr=b_addr
     ·subst h5
      by_cases h6:a_port=b_port
      ·subst h6
       cases a_passing
       all_goals
        go_enter Tryz.func199,Tryz.ntmps199
        go_wp2
        go_ret
        exact ⟨ret_bool (by rw [newE_def];simp),hB.out⟩
      ·have h6':(a_port != b_port)=true:=by simpa using h6
       go_enter Tryz.func199,Tryz.ntmps199
       go_wp2
       go_ret
       exact ⟨ret_bool (by rw [newE_def];simp [h6]),hB.out⟩
     ·have h5':(a_addr != b_addr)=true:=by simpa using h5
      go_enter Tryz.func199,Tryz.ntmps199
      go_wp2
      go_ret
      exact ⟨ret_bool (by rw [newE_def];simp [h5]),hB.out⟩
    ·obtain ⟨g1,g2⟩:=beq_name h4
     have H4:Hid (¬ a_tag=b_tag):=h4
     clear h4
     go_enter Tryz.func199,Tryz.ntmps199
     go_wp2
     go_ret
     exact ⟨ret_bool (by rw [newE_def];simp [H4.out,less];exact less_not H4.out),hB.out⟩
   ·obtain ⟨g1,g2⟩:=beq_name h3
    have H3:Hid (¬ a_name=b_name):=h3
    clear h3
    go_enter Tryz.func199,Tryz.ntmps199
    go_wp2
    go_ret
    exact ⟨ret_bool (by rw [newE_def];simp [H3.out,less];exact less_not H3.out),hB.out⟩
  ·have hg:b_gone = !a_gone:=by cases a_gone<;>cases b_gone<;>simp at h2 ⊢
   subst hg
   clear h2
   cases a_gone
   all_goals
    go_enter Tryz.func199,Tryz.ntmps199
    go_wp2
    go_ret
    exact ⟨ret_bool (by rw [newE_def];simp),hB.out⟩
 ·have h1':(a_version != b_version)=true:=by simpa using h1
  go_enter Tryz.func199,Tryz.ntmps199
  go_wp2
  go_ret
  exact ⟨ret_bool (by rw [newE_def];simp [h1]),hB.out⟩
theorem newerE_any (a b:Svc) (w:World) :
 Calls Tryz.prog 199 #[.agg #[.string a.node,.string a.idn,.string a.name,.string a.tag,.int .i64 a.addr,.int .i64 a.port,.bool a.passing,.int .i64 a.version,.bool a.gone],.agg #[.string b.node,.string b.idn,.string b.name,.string b.tag,.int .i64 b.addr,.int .i64 b.port,.bool b.passing,.int .i64 b.version,.bool b.gone]] w fun e w'=>e=.returned (.bool (newE a b))∧Below w.heap.size w w':=
 newer_vars _ rfl a.node a.idn a.name a.tag a.addr a.port a.passing a.version a.gone b.node b.idn b.name b.tag b.addr b.port b.passing b.version b.gone w
end Sv
end Go.Proofs.YtffdoiokmiklgaaGreatDoor
