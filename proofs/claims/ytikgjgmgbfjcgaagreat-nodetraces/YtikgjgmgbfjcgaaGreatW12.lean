import Derived.Test.YtikgjgmgbfjcgaaGreatW4
import Derived.Deep.Slices
import Derived.Lib.SmallJoins
import Derived.ProofKit
import Derived.OpenShut
namespace Go.Proofs.YtikgjgmgbfjcgaaGreat
open Go.RowKit
def flatI (a b:Pl):Int:=(a.x - b.x) * (a.x - b.x)+(a.y - b.y) * (a.y - b.y)+(a.z - b.z) * (a.z - b.z)
def apartI (a b:Pl):Int:=rt (flatI a b)
def farI (a b:Pl):Int:=apartI a b+a.h+b.h
theorem wrapk_id {m:Int} (h0 : -9223372036854775808≤m) (h1:m≤9223372036854775807):IntKind.i64.wrap m=m:=by
 rw [IntKind.wrap_i64];omega
theorem sq_nonneg (x:Int):0≤x * x:=by
 rcases Int.le_total 0 x with h | h
 ·exact Int.mul_nonneg h h
 ·exact Int.mul_nonneg_of_nonpos_of_nonpos h h
theorem sq_bd {x m:Int} (h0 : -m≤x) (h1:x≤m):x * x≤m * m:=by
 rcases Int.le_total 0 x with h | h
 ·exact sq_le h h1
 ·have:=sq_le (a := -x) (b:=m) (by omega) (by omega)
  rwa [Int.neg_mul_neg] at this
theorem sq_20 {x:Int} (h0 : -20000000≤x) (h1:x≤20000000):x * x≤400000000000000:=sq_bd (m:=20000000) h0 h1
theorem flatI_bd {a b:Pl} (ha:OkP a) (hb:OkP b):0≤flatI a b∧flatI a b≤1200000000000000:=by
 have h1:=sq_20 (x:=a.x - b.x) (by have:=ha.x0;have:=hb.x1;omega) (by have:=ha.x1;have:=hb.x0;omega)
 have h2:=sq_20 (x:=a.y - b.y) (by have:=ha.y0;have:=hb.y1;omega) (by have:=ha.y1;have:=hb.y0;omega)
 have h3:=sq_20 (x:=a.z - b.z) (by have:=ha.z0;have:=hb.z1;omega) (by have:=ha.z1;have:=hb.z0;omega)
 have g1:=sq_nonneg (a.x - b.x)
 have g2:=sq_nonneg (a.y - b.y)
 have g3:=sq_nonneg (a.z - b.z)
 unfold flatI
 omega
theorem isRoot_rt {n r:Int} (h:IsRoot n r):IsRoot n (rt n):=by rw [rt_eq h];exact h
theorem root_ex:∀ (n:Nat),∃ r:Nat,IsRoot n r
 | 0=>⟨0,by decide,by decide,by decide⟩
 | n+1=>by
   obtain ⟨r,h0,h1,h2⟩:=root_ex n
   by_cases h:(((r+1:Nat):Int)) * ((r+1:Nat):Int)≤((n+1:Nat):Int)
   ·refine ⟨r+1,by omega,h,?_⟩
    have e1:((r:Int)+1+1) * ((r:Int)+1+1)=((r:Int)+1) * ((r:Int)+1)+2 * r+3:=by
     simp only [Int.add_mul,Int.mul_add];omega
    push_cast
    omega
   ·refine ⟨r,h0,by push_cast;omega,by push_cast at h ⊢;omega⟩
theorem rt_is {n:Int} (h:0≤n):IsRoot n (rt n):=by
 obtain ⟨r,hr⟩:=root_ex n.toNat
 rw [Int.toNat_of_nonneg h] at hr
 exact isRoot_rt hr
theorem rt_le {n:Int} (h0:0≤n) (h1:n≤1200000000000000):0≤rt n∧rt n≤34641016:=by
 obtain ⟨h,g,_⟩:=rt_is h0
 refine ⟨h,?_⟩
 apply Classical.byContradiction;intro c
 have:=sq_le (a:=34641017) (b:=rt n) (by omega) (by omega)
 omega
theorem apartI_bd {a b:Pl} (ha:OkP a) (hb:OkP b):0≤apartI a b∧apartI a b≤34641016:=
 rt_le (flatI_bd ha hb).1 (flatI_bd ha hb).2
set_option maxHeartbeats 1600000 in
theorem apart_any (a b:Pl) (w:World) (ha:OkP a) (hb:OkP b) :
 Calls Tryz.prog 217 #[.agg #[.int .i64 a.x,.int .i64 a.y,.int .i64 a.z,.int .i64 a.h,.int .i64 a.s],.agg #[.int .i64 b.x,.int .i64 b.y,.int .i64 b.z,.int .i64 b.h,.int .i64 b.s]] w fun e w'=>e=.returned (.int .i64 (apartI a b))∧Below w.heap.size w w':=by
 have h1:=sq_20 (x:=a.x - b.x) (by have:=ha.x0;have:=hb.x1;omega) (by have:=ha.x1;have:=hb.x0;omega)
 have h2:=sq_20 (x:=a.y - b.y) (by have:=ha.y0;have:=hb.y1;omega) (by have:=ha.y1;have:=hb.y0;omega)
 have h3:=sq_20 (x:=a.z - b.z) (by have:=ha.z0;have:=hb.z1;omega) (by have:=ha.z1;have:=hb.z0;omega)
 have g1:=sq_nonneg (a.x - b.x)
 have g2:=sq_nonneg (a.y - b.y)
 have g3:=sq_nonneg (a.z - b.z)
 have HE:Hid (apartI a b=rt ((a.x - b.x) * (a.x - b.x)+(a.y - b.y) * (a.y - b.y)+(a.z - b.z) * (a.z - b.z))):=(show apartI a b=_ from rfl)
 obtain ⟨ax0,ax1,ay0,ay1,az0,az1,_,_,_,_⟩:=ha
 obtain ⟨bx0,bx1,by0,by1,bz0,bz1,_,_,_,_⟩:=hb
 generalize apartI a b=r at *
 obtain ⟨x1,y1,z1,p1,s1⟩:=a
 obtain ⟨x2,y2,z2,p2,s2⟩:=b
 simp only at *
 go_enter Tryz.func217,Tryz.ntmps217
 go_wp2_with fail
 go_quiet (fail)
 go_wp2_with (go_at_call 235;refine (root_any _ _ (by omega) (by omega)).mono ?_;rintro e w' ⟨rfl,rfl⟩)
 go_ret
 exact ⟨retn HE.out.symm,below_drewN (((Below.refl _ _).alloc (Nat.le_refl _) _).alloc (by simp) _) _⟩
set_option maxHeartbeats 1600000 in
theorem far_any (a b:Pl) (w:World) (ha:OkP a) (hb:OkP b) :
 Calls Tryz.prog 173 #[.agg #[.int .i64 a.x,.int .i64 a.y,.int .i64 a.z,.int .i64 a.h,.int .i64 a.s],.agg #[.int .i64 b.x,.int .i64 b.y,.int .i64 b.z,.int .i64 b.h,.int .i64 b.s]] w fun e w'=>e=.returned (.int .i64 (farI a b))∧Below w.heap.size w w':=by
 obtain ⟨r0,r1⟩:=apartI_bd ha hb
 have HE:Hid (farI a b=apartI a b+a.h+b.h):=(show farI a b=_ from rfl)
 have hap:=fun w=>apart_any a b w ha hb
 have h0:=ha.h0
 have h1:=ha.h1
 have g0:=hb.h0
 have g1:=hb.h1
 clear ha hb
 generalize apartI a b=r at *
 generalize farI a b=f at *
 obtain ⟨x1,y1,z1,p1,s1⟩:=a
 obtain ⟨x2,y2,z2,p2,s2⟩:=b
 simp only at *
 generalize hW:(w.alloc (.cells #[.int .i64 x1,.int .i64 y1,.int .i64 z1,.int .i64 p1,.int .i64 s1] 27)).alloc (.cells #[.int .i64 x2,.int .i64 y2,.int .i64 z2,.int .i64 p2,.int .i64 s2] 27)=W at *
 have HW:Hid (Below w.heap.size w W):=by rw [← hW];exact ((Below.refl _ _).alloc (Nat.le_refl _) _).alloc (by simp) _
 have E0:∀ d os,(Go.Sort.grow (redrawn W d) os).cell? ⟨w.heap.size,0,none⟩=some (.int .i64 x1):=cell_regrown (by rw [← hW];simp)
 have E1:∀ d os,(Go.Sort.grow (redrawn W d) os).cell? ⟨w.heap.size,1,none⟩=some (.int .i64 y1):=cell_regrown (by rw [← hW];simp)
 have E2:∀ d os,(Go.Sort.grow (redrawn W d) os).cell? ⟨w.heap.size,2,none⟩=some (.int .i64 z1):=cell_regrown (by rw [← hW];simp)
 have E3:∀ d os,(Go.Sort.grow (redrawn W d) os).cell? ⟨w.heap.size,3,none⟩=some (.int .i64 p1):=cell_regrown (by rw [← hW];simp)
 have E4:∀ d os,(Go.Sort.grow (redrawn W d) os).cell? ⟨w.heap.size,4,none⟩=some (.int .i64 s1):=cell_regrown (by rw [← hW];simp)
 have F0:∀ d os,(Go.Sort.grow (redrawn W d) os).cell? ⟨w.heap.size+1,0,none⟩=some (.int .i64 x2):=cell_regrown (by rw [← hW];simp)
 have F1:∀ d os,(Go.Sort.grow (redrawn W d) os).cell? ⟨w.heap.size+1,1,none⟩=some (.int .i64 y2):=cell_regrown (by rw [← hW];simp)
 have F2:∀ d os,(Go.Sort.grow (redrawn W d) os).cell? ⟨w.heap.size+1,2,none⟩=some (.int .i64 z2):=cell_regrown (by rw [← hW];simp)
 have F3:∀ d os,(Go.Sort.grow (redrawn W d) os).cell? ⟨w.heap.size+1,3,none⟩=some (.int .i64 p2):=cell_regrown (by rw [← hW];simp)
 have F4:∀ d os,(Go.Sort.grow (redrawn W d) os).cell? ⟨w.heap.size+1,4,none⟩=some (.int .i64 s2):=cell_regrown (by rw [← hW];simp)
 have cN:∀ d os,Calls Tryz.prog 217 #[.agg #[.int .i64 x1,.int .i64 y1,.int .i64 z1,.int .i64 p1,.int .i64 s1],.agg #[.int .i64 x2,.int .i64 y2,.int .i64 z2,.int .i64 p2,.int .i64 s2]] (Go.Sort.grow (redrawn W d) os) fun e w''=>e=.returned (.int .i64 r)∧∃ p:Regrown,w''=Go.Sort.grow (redrawn W p.d) p.os:=fun d os=>
  Calls.regrown_of ((hap _).mono (by rintro e w' ⟨rfl,hb⟩;exact ⟨rfl,hb⟩))
 clear hap
 go_enter Tryz.func173,Tryz.ntmps173
 go_wp2_with fail
 refine wp_region_quiet_below (by kernel_rfl) (by kernel_rfl) ?_
 repeat (quiet_step (exact cN _ _))
 refine wpQuiet_nil ?_
 intro _ hw'
 obtain ⟨⟨dq,osq⟩,hw''⟩:=hw'
 subst hw''
 have HBQ:Hid (Below W.heap.size W (Go.Sort.grow (redrawn W dq) osq)):=below_regrown W dq osq
 clear cN E0 E1 E2 E3 E4 F0 F1 F2 F3 F4
 go_wp2_with fail
 go_ret
 exact ⟨retn (by rw [wrapk_id (m:=r+p1) (by omega) (by omega),wrapk_id (by omega) (by omega)];exact HE.out.symm),HW.out.trans (HBQ.out.mono HW.out.size)⟩
theorem chkPs_two (a b:Pl):chkPs [a,b]=0↔OkP a∧OkP b:=by
 rw [← okP_iff,← okP_iff]
 unfold chkPs chkPs chkPs
 by_cases h:chkP a=0<;>by_cases g:chkP b=0<;>simp [h,g]
theorem cell_top {W:World} {cs:Array Value} {t:TypeId} {g k:Nat} (hg:g=W.heap.size):(W.alloc (.cells cs t)).cell? ⟨g,k,none⟩=cs[k]?:=by subst hg;simp
theorem cell_under {W:World} {o:Obj} {g k:Nat} (hg:g < W.heap.size):(W.alloc o).cell? ⟨g,k,none⟩=W.cell? ⟨g,k,none⟩:=
 ((Below.refl W.heap.size W).alloc (Nat.le_refl _) o).cell (p:=⟨g,k,none⟩) hg
theorem prow_two {W:World} {a b:Pl} {t:TypeId} {g:Nat} (hg:g=W.heap.size):PRow (W.alloc (.cells #[.int .i64 a.x,.int .i64 a.y,.int .i64 a.z,.int .i64 a.h,.int .i64 a.s,.int .i64 b.x,.int .i64 b.y,.int .i64 b.z,.int .i64 b.h,.int .i64 b.s] t)) g 0 [a,b]:=by
 intro k hk
 match k,hk with
 | 0,_=>exact ⟨cell_top hg,cell_top hg,cell_top hg,cell_top hg,cell_top hg⟩
 | 1,_=>exact ⟨cell_top hg,cell_top hg,cell_top hg,cell_top hg,cell_top hg⟩
def betw (n a b:Int):Bool:=decide (a≤n) && decide (n≤b)
theorem retb {a b:Bool} (h:a=b):Ending.returned (.bool a)=.returned (.bool b):=by rw [h]
set_option maxHeartbeats 400000 in
theorem between_any' (n a b:Int) (w:World) :
 Calls Tryz.prog 43 #[.int .i64 n,.int .i64 a,.int .i64 b] w fun e w'=>e=.returned (.bool (betw n a b))∧w'=w:=by
 go_enter Tryz.func43,Tryz.ntmps43
 go_wp2
 all_goals
  go_ret
  exact ⟨retb (by unfold betw;rw [Bool.eq_iff_iff];simp;try omega),rfl⟩
theorem betw_true {n a b:Int} (h:betw n a b=true):a≤n∧n≤b:=by simpa [betw] using h
theorem betw_false {n a b:Int} (h:betw n a b=false):¬ (a≤n∧n≤b):=by
 intro g;simp [betw,g.1,g.2] at h
theorem chkP_three {p:Pl} (h:¬ OkP p):chkP p=3:=(chkP_or p).resolve_left (fun e=>h ((okP_iff p).1 e))
set_option maxHeartbeats 1600000 in
theorem checkPlace_any (p:Pl) (w:World) :
 Calls Tryz.prog 50 #[.agg #[.int .i64 p.x,.int .i64 p.y,.int .i64 p.z,.int .i64 p.h,.int .i64 p.s]] w fun e w'=>e=.returned (.int .i64 (chkP p))∧w'=w.alloc (.cells #[.int .i64 p.x,.int .i64 p.y,.int .i64 p.z,.int .i64 p.h,.int .i64 p.s] 27):=by
 have HK:=okP_iff p
 have H3:Hid (¬ OkP p→chkP p=3):=chkP_three
 have HX:Hid (chkP p=0↔OkP p):=HK
 clear HK
 rcases h1:betw p.x (-10000000) 10000000 with _ | _
 ·have HE:Hid (chkP p=3):=H3.out (fun o=>betw_false h1 ⟨o.x0,o.x1⟩)
  clear HX H3
  go_enter Tryz.func50,Tryz.ntmps50
  go_wp2_with (go_at_call 43;refine (between_any' _ _ _ _).mono ?_;rintro e w' ⟨rfl,rfl⟩;rw [h1])
  go_ret
  exact ⟨retn HE.out.symm,rfl⟩
 rcases h2:betw p.y (-10000000) 10000000 with _ | _
 ·have HE:Hid (chkP p=3):=H3.out (fun o=>betw_false h2 ⟨o.y0,o.y1⟩)
  clear HX H3
  go_enter Tryz.func50,Tryz.ntmps50
  go_wp2_with (go_at_call 43;refine (between_any' _ _ _ _).mono ?_;rintro e w' ⟨rfl,rfl⟩;first | rw [h1] | rw [h2])
  go_ret
  exact ⟨retn HE.out.symm,rfl⟩
 rcases h3:betw p.z (-10000000) 10000000 with _ | _
 ·have HE:Hid (chkP p=3):=H3.out (fun o=>betw_false h3 ⟨o.z0,o.z1⟩)
  clear HX H3
  go_enter Tryz.func50,Tryz.ntmps50
  go_wp2_with (go_at_call 43;refine (between_any' _ _ _ _).mono ?_;rintro e w' ⟨rfl,rfl⟩;first | rw [h1] | rw [h2] | rw [h3])
  go_ret
  exact ⟨retn HE.out.symm,rfl⟩
 rcases h4:betw p.h 0 1000000 with _ | _
 ·have HE:Hid (chkP p=3):=H3.out (fun o=>betw_false h4 ⟨o.h0,o.h1⟩)
  clear HX H3
  go_enter Tryz.func50,Tryz.ntmps50
  go_wp2_with (go_at_call 43;refine (between_any' _ _ _ _).mono ?_;rintro e w' ⟨rfl,rfl⟩;first | rw [h1] | rw [h2] | rw [h3] | rw [h4])
  go_ret
  exact ⟨retn HE.out.symm,rfl⟩
 rcases h5:betw p.s 0 1000 with _ | _
 ·have HE:Hid (chkP p=3):=H3.out (fun o=>betw_false h5 ⟨o.s0,o.s1⟩)
  clear HX H3
  go_enter Tryz.func50,Tryz.ntmps50
  go_wp2_with (go_at_call 43;refine (between_any' _ _ _ _).mono ?_;rintro e w' ⟨rfl,rfl⟩;first | rw [h1] | rw [h2] | rw [h3] | rw [h4] | rw [h5])
  go_ret
  exact ⟨retn HE.out.symm,rfl⟩
 ·have HE:Hid (chkP p=0):=HX.out.2 ⟨(betw_true h1).1,(betw_true h1).2,(betw_true h2).1,(betw_true h2).2,(betw_true h3).1,(betw_true h3).2,(betw_true h4).1,(betw_true h4).2,(betw_true h5).1,(betw_true h5).2⟩
  clear HX H3
  go_enter Tryz.func50,Tryz.ntmps50
  go_wp2_with (go_at_call 43;refine (between_any' _ _ _ _).mono ?_;rintro e w' ⟨rfl,rfl⟩;first | rw [h1] | rw [h2] | rw [h3] | rw [h4] | rw [h5])
  go_ret
  exact ⟨retn HE.out.symm,rfl⟩
set_option maxHeartbeats 1600000 in
theorem flatFar_any (a b:Pl) (w:World) (ha:OkP a) (hb:OkP b) :
 Calls Tryz.prog 133 #[.agg #[.int .i64 a.x,.int .i64 a.y,.int .i64 a.z,.int .i64 a.h,.int .i64 a.s],.agg #[.int .i64 b.x,.int .i64 b.y,.int .i64 b.z,.int .i64 b.h,.int .i64 b.s]] w fun e w'=>e=.returned (.int .i64 (apartI a b))∧Below w.heap.size w w':=by
 have h1:=sq_20 (x:=a.x - b.x) (by have:=ha.x0;have:=hb.x1;omega) (by have:=ha.x1;have:=hb.x0;omega)
 have h2:=sq_20 (x:=a.y - b.y) (by have:=ha.y0;have:=hb.y1;omega) (by have:=ha.y1;have:=hb.y0;omega)
 have h3:=sq_20 (x:=a.z - b.z) (by have:=ha.z0;have:=hb.z1;omega) (by have:=ha.z1;have:=hb.z0;omega)
 have g1:=sq_nonneg (a.x - b.x)
 have g2:=sq_nonneg (a.y - b.y)
 have g3:=sq_nonneg (a.z - b.z)
 have HE:Hid (apartI a b=rt ((a.x - b.x) * (a.x - b.x)+(a.y - b.y) * (a.y - b.y)+(a.z - b.z) * (a.z - b.z))):=(show apartI a b=_ from rfl)
 obtain ⟨ax0,ax1,ay0,ay1,az0,az1,_,_,_,_⟩:=ha
 obtain ⟨bx0,bx1,by0,by1,bz0,bz1,_,_,_,_⟩:=hb
 generalize apartI a b=r at *
 obtain ⟨x1,y1,z1,p1,s1⟩:=a
 obtain ⟨x2,y2,z2,p2,s2⟩:=b
 simp only at *
 go_enter Tryz.func133,Tryz.ntmps133
 go_wp2_with (go_at_call 178;refine (rootOf_any _ _ (by omega) (by omega)).mono ?_;rintro e w' ⟨rfl,rfl⟩)
 go_ret
 exact ⟨retn HE.out.symm,((Below.refl _ _).alloc (Nat.le_refl _) _).alloc (by simp) _⟩
set_option maxHeartbeats 1600000 in
theorem farOf_any (a b:Pl) (w:World) (ha:OkP a) (hb:OkP b) :
 Calls Tryz.prog 132 #[.agg #[.int .i64 a.x,.int .i64 a.y,.int .i64 a.z,.int .i64 a.h,.int .i64 a.s],.agg #[.int .i64 b.x,.int .i64 b.y,.int .i64 b.z,.int .i64 b.h,.int .i64 b.s]] w fun e w'=>e=.returned (.int .i64 (farI a b))∧Below w.heap.size w w':=by
 obtain ⟨r0,r1⟩:=apartI_bd ha hb
 have HE:Hid (farI a b=apartI a b+a.h+b.h):=(show farI a b=_ from rfl)
 have hap:=fun w=>flatFar_any a b w ha hb
 have h0:=ha.h0
 have h1:=ha.h1
 have g0:=hb.h0
 have g1:=hb.h1
 clear ha hb
 generalize apartI a b=r at *
 generalize farI a b=f at *
 obtain ⟨x1,y1,z1,p1,s1⟩:=a
 obtain ⟨x2,y2,z2,p2,s2⟩:=b
 simp only at *
 generalize hW:(w.alloc (.cells #[.int .i64 x1,.int .i64 y1,.int .i64 z1,.int .i64 p1,.int .i64 s1] 27)).alloc (.cells #[.int .i64 x2,.int .i64 y2,.int .i64 z2,.int .i64 p2,.int .i64 s2] 27)=W at *
 have HW:Hid (Below w.heap.size w W):=by rw [← hW];exact ((Below.refl _ _).alloc (Nat.le_refl _) _).alloc (by simp) _
 have E0:∀ d os,(Go.Sort.grow (redrawn W d) os).cell? ⟨w.heap.size,0,none⟩=some (.int .i64 x1):=cell_regrown (by rw [← hW];simp)
 have E1:∀ d os,(Go.Sort.grow (redrawn W d) os).cell? ⟨w.heap.size,1,none⟩=some (.int .i64 y1):=cell_regrown (by rw [← hW];simp)
 have E2:∀ d os,(Go.Sort.grow (redrawn W d) os).cell? ⟨w.heap.size,2,none⟩=some (.int .i64 z1):=cell_regrown (by rw [← hW];simp)
 have E3:∀ d os,(Go.Sort.grow (redrawn W d) os).cell? ⟨w.heap.size,3,none⟩=some (.int .i64 p1):=cell_regrown (by rw [← hW];simp)
 have E4:∀ d os,(Go.Sort.grow (redrawn W d) os).cell? ⟨w.heap.size,4,none⟩=some (.int .i64 s1):=cell_regrown (by rw [← hW];simp)
 have F0:∀ d os,(Go.Sort.grow (redrawn W d) os).cell? ⟨w.heap.size+1,0,none⟩=some (.int .i64 x2):=cell_regrown (by rw [← hW];simp)
 have F1:∀ d os,(Go.Sort.grow (redrawn W d) os).cell? ⟨w.heap.size+1,1,none⟩=some (.int .i64 y2):=cell_regrown (by rw [← hW];simp)
 have F2:∀ d os,(Go.Sort.grow (redrawn W d) os).cell? ⟨w.heap.size+1,2,none⟩=some (.int .i64 z2):=cell_regrown (by rw [← hW];simp)
 have F3:∀ d os,(Go.Sort.grow (redrawn W d) os).cell? ⟨w.heap.size+1,3,none⟩=some (.int .i64 p2):=cell_regrown (by rw [← hW];simp)
 have F4:∀ d os,(Go.Sort.grow (redrawn W d) os).cell? ⟨w.heap.size+1,4,none⟩=some (.int .i64 s2):=cell_regrown (by rw [← hW];simp)
 have cN:∀ d os,Calls Tryz.prog 133 #[.agg #[.int .i64 x1,.int .i64 y1,.int .i64 z1,.int .i64 p1,.int .i64 s1],.agg #[.int .i64 x2,.int .i64 y2,.int .i64 z2,.int .i64 p2,.int .i64 s2]] (Go.Sort.grow (redrawn W d) os) fun e w''=>e=.returned (.int .i64 r)∧∃ p:Regrown,w''=Go.Sort.grow (redrawn W p.d) p.os:=fun d os=>
  Calls.regrown_of ((hap _).mono (by rintro e w' ⟨rfl,hb⟩;exact ⟨rfl,hb⟩))
 clear hap
 go_enter Tryz.func132,Tryz.ntmps132
 go_wp2_with fail
 refine wp_region_quiet_below (by kernel_rfl) (by kernel_rfl) ?_
 repeat (quiet_step (exact cN _ _))
 refine wpQuiet_nil ?_
 intro _ hw'
 obtain ⟨⟨dq,osq⟩,hw''⟩:=hw'
 subst hw''
 have HBQ:Hid (Below W.heap.size W (Go.Sort.grow (redrawn W dq) osq)):=below_regrown W dq osq
 clear cN E0 E1 E2 E3 E4 F0 F1 F2 F3 F4
 go_wp2_with fail
 go_ret
 exact ⟨retn (by rw [wrapk_id (m:=r+p1) (by omega) (by omega),wrapk_id (by omega) (by omega)];exact HE.out.symm),HW.out.trans (HBQ.out.mono HW.out.size)⟩
end Go.Proofs.YtikgjgmgbfjcgaaGreat
namespace Go.Proofs.YtikgjgmgbfjcgaaGreat
open Go.ChangeShapes Go.WideShapes Go.ChangeAt Go.RowKit
section
variable {H:Type} {enc:TypeId × Value→H} {w:World} {base:Nat} {spare:Nat→Bool} {held:Bool}
theorem Tryz.cellsPl:Tryz.prog.cellsOf 27=5:=by kernel_rfl
theorem Tryz.cellsI:Tryz.prog.cellsOf 3=1:=by kernel_rfl
def In64 (n:Int):Prop := -9223372036854775808≤n∧n≤9223372036854775807
structure Pl64 (p:Pl):Prop where
 x:In64 p.x
 y:In64 p.y
 z:In64 p.z
 h:In64 p.h
 s:In64 p.s
set_option maxRecDepth 100000 in
theorem pl_of_trod {fuel:Nat} {cs:List Value} {x:DataW H × List MemPlace} (h:DataW.trod enc Tryz.prog w base spare held fuel 27 cs=some x) :
 ∃ p:Pl,cs=[.int .i64 p.x,.int .i64 p.y,.int .i64 p.z,.int .i64 p.h,.int .i64 p.s]∧Pl64 p:=by
 obtain ⟨xs,n,_,_,hl,hlen,hf⟩:=DataW.trod_struct Tryz.underlying27 h
 rw [Tryz.cellsPl] at hl
 match cs,hl with
 | [c0,c1,c2,c3,c4],_=>
   match xs,hlen with
   | [y0,y1,y2,y3,y4],_=>
     have h0:=hf 0 _ rfl
     have h1:=hf 1 _ rfl
     have h2:=hf 2 _ rfl
     have h3:=hf 3 _ rfl
     have h4:=hf 4 _ rfl
     simp [Tryz.cellsI] at h0
     simp [Tryz.cellsI] at h1
     simp [Tryz.cellsI] at h2
     simp [Tryz.cellsI] at h3
     simp [Tryz.cellsI] at h4
     obtain ⟨a,e0,_,w0⟩:=DataW.trod_int Tryz.underlying3 h0
     obtain ⟨b,e1,_,w1⟩:=DataW.trod_int Tryz.underlying3 h1
     obtain ⟨c,e2,_,w2⟩:=DataW.trod_int Tryz.underlying3 h2
     obtain ⟨d,e3,_,w3⟩:=DataW.trod_int Tryz.underlying3 h3
     obtain ⟨e,e4,_,w4⟩:=DataW.trod_int Tryz.underlying3 h4
     simp only [List.cons.injEq,and_true] at e0 e1 e2 e3 e4
     subst e0 e1 e2 e3 e4
     exact ⟨⟨a,b,c,d,e⟩,rfl,bounds_i64 w0,bounds_i64 w1,bounds_i64 w2,bounds_i64 w3,bounds_i64 w4⟩
set_option maxRecDepth 100000 in
theorem open_place {r:Reach} {b0:Nat} {v:Value} {d:DataW H} {p:List MemPlace} (hv:Value.okWide Tryz.prog w r b0 27 v) (h:DataW.Trod enc Tryz.prog w base spare held 27 v d p) :
 ∃ q:Pl,v=.agg #[.int .i64 q.x,.int .i64 q.y,.int .i64 q.z,.int .i64 q.h,.int .i64 q.s]∧Pl64 q:=by
 obtain ⟨cs,rfl,hsz⟩:=okWide_struct Tryz.underlying27 hv
 obtain ⟨fuel,hf⟩:=h
 obtain ⟨q,hm,hs⟩:=pl_of_trod hf
 refine ⟨q,?_,hs⟩
 simp only [Value.cells] at hm
 congr 1
 apply Array.ext'
 exact hm
end
end Go.Proofs.YtikgjgmgbfjcgaaGreat
