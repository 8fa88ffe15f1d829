import Derived.Test.YtignmeaeibaejaaGreatDoorV3
namespace Go.Proofs.YtignmeaeibaejaaGreatDoor
open Go.RowKit
def flatI (a b:Pl):Int:=(a.x - b.x) * (a.x - b.x)+(a.y - b.y) * (a.y - b.y)+(a.z - b.z) * (a.z - b.z)
def apartI (a b:Pl):Int:=rt (flatI a b)
def farI (a b:Pl):Int:=apartI a b+a.h+b.h
theorem wrapk_id {m:Int} (h0 : -9223372036854775808≤m) (h1:m≤9223372036854775807):IntKind.i64.wrap m=m:=by
 rw [IntKind.wrap_i64];omega
theorem sq_nonneg (x:Int):0≤x * x:=by
 rcases Int.le_total 0 x with h | h
 ·exact Int.mul_nonneg h h
 ·exact Int.mul_nonneg_of_nonpos_of_nonpos h h
theorem sq_bd {x m:Int} (h0 : -m≤x) (h1:x≤m):x * x≤m * m:=by
 rcases Int.le_total 0 x with h | h
 ·exact sq_le h h1
 ·have:=sq_le (a := -x) (b:=m) (by omega) (by omega)
  rwa [Int.neg_mul_neg] at this
theorem sq_20 {x:Int} (h0 : -20000000≤x) (h1:x≤20000000):x * x≤400000000000000:=sq_bd (m:=20000000) h0 h1
theorem flatI_bd {a b:Pl} (ha:OkP a) (hb:OkP b):0≤flatI a b∧flatI a b≤1200000000000000:=by
 have h1:=sq_20 (x:=a.x - b.x) (by have:=ha.x0;have:=hb.x1;omega) (by have:=ha.x1;have:=hb.x0;omega)
 have h2:=sq_20 (x:=a.y - b.y) (by have:=ha.y0;have:=hb.y1;omega) (by have:=ha.y1;have:=hb.y0;omega)
 have h3:=sq_20 (x:=a.z - b.z) (by have:=ha.z0;have:=hb.z1;omega) (by have:=ha.z1;have:=hb.z0;omega)
 have g1:=sq_nonneg (a.x - b.x)
 have g2:=sq_nonneg (a.y - b.y)
 have g3:=sq_nonneg (a.z - b.z)
 unfold flatI
 omega
theorem isRoot_rt {n r:Int} (h:IsRoot n r):IsRoot n (rt n):=by rw [rt_eq h];exact h
theorem root_ex:∀ (n:Nat),∃ r:Nat,IsRoot n r
 | 0=>⟨0,by decide,by decide,by decide⟩
 | n+1=>by
   obtain ⟨r,h0,h1,h2⟩:=root_ex n
   by_cases h:(((r+1:Nat):Int)) * ((r+1:Nat):Int)≤((n+1:Nat):Int)
   ·refine ⟨r+1,by omega,h,?_⟩
    have e1:((r:Int)+1+1) * ((r:Int)+1+1)=((r:Int)+1) * ((r:Int)+1)+2 * r+3:=by
     simp only [Int.add_mul,Int.mul_add];omega
    push_cast
    omega
   ·refine ⟨r,h0,by push_cast;omega,by push_cast at h ⊢;omega⟩
theorem rt_is {n:Int} (h:0≤n):IsRoot n (rt n):=by
 obtain ⟨r,hr⟩:=root_ex n.toNat
 rw [Int.toNat_of_nonneg h] at hr
 exact isRoot_rt hr
theorem rt_le {n:Int} (h0:0≤n) (h1:n≤1200000000000000):0≤rt n∧rt n≤34641016:=by
 obtain ⟨h,g,_⟩:=rt_is h0
 refine ⟨h,?_⟩
 apply Classical.byContradiction;intro c
 have:=sq_le (a:=34641017) (b:=rt n) (by omega) (by omega)
 omega
theorem apartI_bd {a b:Pl} (ha:OkP a) (hb:OkP b):0≤apartI a b∧apartI a b≤34641016:=
 rt_le (flatI_bd ha hb).1 (flatI_bd ha hb).2
set_option maxHeartbeats 1600000 in
theorem apart_any (a b:Pl) (w:World) (ha:OkP a) (hb:OkP b) :
 Calls Tryz.prog 170 #[.agg #[.int .i64 a.x,.int .i64 a.y,.int .i64 a.z,.int .i64 a.h,.int .i64 a.s],.agg #[.int .i64 b.x,.int .i64 b.y,.int .i64 b.z,.int .i64 b.h,.int .i64 b.s]] w fun e w'=>e=.returned (.int .i64 (apartI a b))∧Below w.heap.size w w':=by
 have h1:=sq_20 (x:=a.x - b.x) (by have:=ha.x0;have:=hb.x1;omega) (by have:=ha.x1;have:=hb.x0;omega)
 have h2:=sq_20 (x:=a.y - b.y) (by have:=ha.y0;have:=hb.y1;omega) (by have:=ha.y1;have:=hb.y0;omega)
 have h3:=sq_20 (x:=a.z - b.z) (by have:=ha.z0;have:=hb.z1;omega) (by have:=ha.z1;have:=hb.z0;omega)
 have g1:=sq_nonneg (a.x - b.x)
 have g2:=sq_nonneg (a.y - b.y)
 have g3:=sq_nonneg (a.z - b.z)
 have HE:Hid (apartI a b=rt ((a.x - b.x) * (a.x - b.x)+(a.y - b.y) * (a.y - b.y)+(a.z - b.z) * (a.z - b.z))):=(show apartI a b=_ from rfl)
 obtain ⟨ax0,ax1,ay0,ay1,az0,az1,_,_,_,_⟩:=ha
 obtain ⟨bx0,bx1,by0,by1,bz0,bz1,_,_,_,_⟩:=hb
 generalize apartI a b=r at *
 obtain ⟨x1,y1,z1,p1,s1⟩:=a
 obtain ⟨x2,y2,z2,p2,s2⟩:=b
 simp only at *
 go_enter Tryz.func170,Tryz.ntmps170
 go_wp2_with fail
 go_quiet (fail)
 go_wp2_with (go_at_call 184;refine (root_any _ _ (by omega) (by omega)).mono ?_;rintro e w' ⟨rfl,rfl⟩)
 go_ret
 exact ⟨retn HE.out.symm,below_drewN (((Below.refl _ _).alloc (Nat.le_refl _) _).alloc (by simp) _) _⟩
set_option maxHeartbeats 1600000 in
theorem far_any (a b:Pl) (w:World) (ha:OkP a) (hb:OkP b) :
 Calls Tryz.prog 161 #[.agg #[.int .i64 a.x,.int .i64 a.y,.int .i64 a.z,.int .i64 a.h,.int .i64 a.s],.agg #[.int .i64 b.x,.int .i64 b.y,.int .i64 b.z,.int .i64 b.h,.int .i64 b.s]] w fun e w'=>e=.returned (.int .i64 (farI a b))∧Below w.heap.size w w':=by
 obtain ⟨r0,r1⟩:=apartI_bd ha hb
 have HE:Hid (farI a b=apartI a b+a.h+b.h):=(show farI a b=_ from rfl)
 have hap:=fun w=>apart_any a b w ha hb
 have h0:=ha.h0
 have h1:=ha.h1
 have g0:=hb.h0
 have g1:=hb.h1
 clear ha hb
 generalize apartI a b=r at *
 generalize farI a b=f at *
 obtain ⟨x1,y1,z1,p1,s1⟩:=a
 obtain ⟨x2,y2,z2,p2,s2⟩:=b
 simp only at *
 generalize hW:(w.alloc (.cells #[.int .i64 x1,.int .i64 y1,.int .i64 z1,.int .i64 p1,.int .i64 s1] 25)).alloc (.cells #[.int .i64 x2,.int .i64 y2,.int .i64 z2,.int .i64 p2,.int .i64 s2] 25)=W at *
 have HW:Hid (Below w.heap.size w W):=by rw [← hW];exact ((Below.refl _ _).alloc (Nat.le_refl _) _).alloc (by simp) _
 have E0:∀ d os,(Go.Sort.grow (redrawn W d) os).cell? ⟨w.heap.size,0,none⟩=some (.int .i64 x1):=cell_regrown (by rw [← hW];simp)
 have E1:∀ d os,(Go.Sort.grow (redrawn W d) os).cell? ⟨w.heap.size,1,none⟩=some (.int .i64 y1):=cell_regrown (by rw [← hW];simp)
 have E2:∀ d os,(Go.Sort.grow (redrawn W d) os).cell? ⟨w.heap.size,2,none⟩=some (.int .i64 z1):=cell_regrown (by rw [← hW];simp)
 have E3:∀ d os,(Go.Sort.grow (redrawn W d) os).cell? ⟨w.heap.size,3,none⟩=some (.int .i64 p1):=cell_regrown (by rw [← hW];simp)
 have E4:∀ d os,(Go.Sort.grow (redrawn W d) os).cell? ⟨w.heap.size,4,none⟩=some (.int .i64 s1):=cell_regrown (by rw [← hW];simp)
 have F0:∀ d os,(Go.Sort.grow (redrawn W d) os).cell? ⟨w.heap.size+1,0,none⟩=some (.int .i64 x2):=cell_regrown (by rw [← hW];simp)
 have F1:∀ d os,(Go.Sort.grow (redrawn W d) os).cell? ⟨w.heap.size+1,1,none⟩=some (.int .i64 y2):=cell_regrown (by rw [← hW];simp)
 have F2:∀ d os,(Go.Sort.grow (redrawn W d) os).cell? ⟨w.heap.size+1,2,none⟩=some (.int .i64 z2):=cell_regrown (by rw [← hW];simp)
 have F3:∀ d os,(Go.Sort.grow (redrawn W d) os).cell? ⟨w.heap.size+1,3,none⟩=some (.int .i64 p2):=cell_regrown (by rw [← hW];simp)
 have F4:∀ d os,(Go.Sort.grow (redrawn W d) os).cell? ⟨w.heap.size+1,4,none⟩=some (.int .i64 s2):=cell_regrown (by rw [← hW];simp)
 have cN:∀ d os,Calls Tryz.prog 170 #[.agg #[.int .i64 x1,.int .i64 y1,.int .i64 z1,.int .i64 p1,.int .i64 s1],.agg #[.int .i64 x2,.int .i64 y2,.int .i64 z2,.int .i64 p2,.int .i64 s2]] (Go.Sort.grow (redrawn W d) os) fun e w''=>e=.returned (.int .i64 r)∧∃ p:Regrown,w''=Go.Sort.grow (redrawn W p.d) p.os:=fun d os=>
  Calls.regrown_of ((hap _).mono (by rintro e w' ⟨rfl,hb⟩;exact ⟨rfl,hb⟩))
 clear hap
 go_enter Tryz.func161,Tryz.ntmps161
 go_wp2_with fail
 refine wp_region_quiet_below (by kernel_rfl) (by kernel_rfl) ?_
 repeat (quiet_step (exact cN _ _))
 refine wpQuiet_nil ?_
 intro _ hw'
 obtain ⟨⟨dq,osq⟩,hw''⟩:=hw'
 subst hw''
 have HBQ:Hid (Below W.heap.size W (Go.Sort.grow (redrawn W dq) osq)):=below_regrown W dq osq
 clear cN E0 E1 E2 E3 E4 F0 F1 F2 F3 F4
 go_wp2_with fail
 go_ret
 exact ⟨retn (by rw [wrapk_id (m:=r+p1) (by omega) (by omega),wrapk_id (by omega) (by omega)];exact HE.out.symm),HW.out.trans (HBQ.out.mono HW.out.size)⟩
end Go.Proofs.YtignmeaeibaejaaGreatDoor
