import Derived.WalkKit
import Derived.Lib.BitFns
import Derived.Lib.ItoaNum
import Derived.Shelf.Small.Bits
import Derived.Shelf.Strconv.Itoa0
import Derived.Test.YtikgjgmgbfjcgaaGreatProg
import Derived.WalkSpells
import Derived.WalkLawsBesides
import Derived.Below
import Derived.BigQuiet
import Derived.Lib.QuietBelow
import Derived.Deep.RegionHeld3
namespace Go.Proofs.YtikgjgmgbfjcgaaGreat
open Go.RowKit
def IsRoot (n r:Int):Prop:=0≤r∧r * r≤n∧n < (r+1) * (r+1)
theorem sq_le {a b:Int} (h0:0≤a) (h:a≤b):a * a≤b * b:=Int.mul_le_mul h h h0 (by omega)
def rtN (n:Nat):Nat→Nat
 | 0=>0
 | k+1=>if (k+1) * (k+1)≤n then k+1 else rtN n k
def rt (n:Int):Int:=(rtN n.toNat n.toNat:Nat)
theorem rtN_eq {n r:Nat} (h1:r * r≤n) (h2:n < (r+1) * (r+1)):∀ k,r≤k→rtN n k=r
 | 0,hk=>by
   have e:r=0:=by omega
   rw [e];rfl
 | k+1,hk=>by
   simp only [rtN]
   by_cases hc:(k+1) * (k+1)≤n
   ·rw [if_pos hc]
    rcases Nat.lt_or_ge r (k+1) with h | h
    ·have:=Nat.mul_le_mul (show r+1≤k+1 by omega) (show r+1≤k+1 by omega)
     omega
    ·omega
   ·rw [if_neg hc]
    have hne:r≠k+1:=fun e=>hc (e▸h1)
    exact rtN_eq h1 h2 k (by omega)
theorem rt_eq {n r:Int} (h:IsRoot n r):rt n=r:=by
 obtain ⟨h0,h1,h2⟩:=h
 obtain ⟨m,rfl⟩:=Int.eq_ofNat_of_zero_le h0
 have hn:0≤n:=Int.le_trans (Int.mul_nonneg h0 h0) h1
 obtain ⟨k,rfl⟩:=Int.eq_ofNat_of_zero_le hn
 have g1:m * m≤k:=by exact_mod_cast h1
 have g2:k < (m+1) * (m+1):=by exact_mod_cast h2
 have g3:m≤k:=Nat.le_trans (Nat.le_mul_self m) g1
 show ((rtN k k:Nat):Int)=(m:Int)
 rw [rtN_eq g1 g2 k g3]
def Srch (n r b:Int):Prop:=0≤r∧r * r≤n∧n < (r+b) * (r+b)
theorem srch_in {n r b:Int} (h:Srch n r (2 * b)) (hb:0≤b) (hx:(r+b) * (r+b)≤n):Srch n (r+b) b:=by
 obtain ⟨h0,h1,h2⟩:=h
 refine ⟨by omega,hx,?_⟩
 rw [show r+b+b=r+2 * b by omega];exact h2
theorem srch_out {n r b:Int} (h:Srch n r (2 * b)) (hx:¬ (r+b) * (r+b)≤n):Srch n r b:=
 ⟨h.1,h.2.1,by omega⟩
theorem srch_end {n r:Int} (h:Srch n r 1):IsRoot n r:=h
theorem srch_le {n r b:Int} (h:Srch n r b) (hn:n≤9223372036854775807):r≤3037000499:=by
 apply Classical.byContradiction;intro c
 have:=sq_le (a:=3037000500) (b:=r) (by omega) (by omega)
 have:=h.2.1
 omega
theorem quo_iff {n x:Int} (hx:0 < x):x≤n / x↔x * x≤n:=Int.le_ediv_iff_mul_le hx
theorem two_pow_pos (k:Nat):(0:Int) < 2 ^ k:=by
 have:(0:Nat) < 2 ^ k:=Nat.two_pow_pos k
 exact_mod_cast this
theorem two_pow_succ (k:Nat):(2:Int) ^ (k+1)=2 * 2 ^ k:=by rw [Int.pow_succ];omega
theorem two_pow_le {a b:Nat} (h:a≤b):(2:Int) ^ a≤2 ^ b:=by
 have:(2:Nat) ^ a≤2 ^ b:=Nat.pow_le_pow_right (by omega) h
 exact_mod_cast this
theorem wraps_i64 (n:Int) (h₀:0≤n) (h₁:n < 2 ^ 63):IntKind.i64.wrap n=n:=by rw [IntKind.wrap_i64];omega
theorem or_bit (k:Nat) (r:Int) (h0:0≤r) (hm:r%2 ^ (k+1)=0) (hr:r < 2 ^ 63) (hk:k≤62):bits BinOp.or IntKind.i64 r (2 ^ k)=r+2 ^ k:=
 bits_join .i64 63 (by decide) wraps_i64 (k+1) r (2 ^ k) h0 hm hr (Int.le_of_lt (two_pow_pos k)) (by rw [two_pow_succ];have:=two_pow_pos k;omega) (Int.lt_of_le_of_lt (two_pow_le hk) (by decide))
theorem mod_keep {r:Int} {k:Nat} (hm:r%2 ^ (k+1)=0):r%2 ^ k=0:=
 Int.emod_eq_zero_of_dvd (Int.dvd_trans ⟨2,by rw [Int.pow_succ]⟩ (Int.dvd_of_emod_eq_zero hm))
theorem mod_add {r:Int} {k:Nat} (hm:r%2 ^ (k+1)=0):(r+2 ^ k)%2 ^ k=0:=by
 rw [Int.add_emod_right];exact mod_keep hm
theorem len_lt (n:Nat) (h:n < 2 ^ 64):n < 2 ^ Lib.bitLen n:=by
 by_cases h0:n=0
 ·subst h0;decide
 ·exact (Lib.bitLenAux_bounds 64 n h h0).2.2
theorem srch_begin {n:Int} (h0:0≤n) (h1:n≤9223372036854775807) (j:Nat) (hj:Lib.bitLen n.toNat / 2=j):Srch n 0 (2 ^ (j+1)):=by
 refine ⟨by omega,by simpa using h0,?_⟩
 have h2:=len_lt n.toNat (by omega)
 have h3:(2:Nat) ^ Lib.bitLen n.toNat≤2 ^ (2 * (j+1)):=Nat.pow_le_pow_right (by omega) (by omega)
 have h4:(2:Nat) ^ (2 * (j+1))=2 ^ (j+1) * 2 ^ (j+1):=by rw [← Nat.pow_add];congr 1;omega
 have h5:n.toNat < 2 ^ (j+1) * 2 ^ (j+1):=by omega
 have h6:((n.toNat:Nat):Int) < ((2 ^ (j+1) * 2 ^ (j+1):Nat):Int):=by exact_mod_cast h5
 rw [Int.toNat_of_nonneg h0] at h6
 simpa using h6
end Go.Proofs.YtikgjgmgbfjcgaaGreat
namespace Go.Proofs
open Go.Shelf
def Tryz.lays125_ren:Go.Shelf.Ren:=⟨fun | 125=>158 | 128=>190 | 129=>191 | n=>n,fun | 46=>176 | 3=>3 | 51=>200 | 53=>202 | 4=>4 | 5=>5 | 9=>9 | n=>n,fun | n=>n⟩
theorem Tryz.lays125:Go.Proofs.Lays.n125 Tryz.prog Tryz.lays125_ren:={
 mixed:=by kernel_rfl
 f125:=Tryz.func158.trans (congrArg some (by kernel_rfl))
 f128:=Tryz.func190.trans (congrArg some (by kernel_rfl))
 f129:=Tryz.func191.trans (congrArg some (by kernel_rfl))
 t3:=Tryz.underlying3
 a3:=Tryz.isAgg3
 z3:=Tryz.sizeOf3
 v3:=Tryz.zeroValue3
 t4:=Tryz.underlying4
 a4:=Tryz.isAgg4
 z4:=Tryz.sizeOf4
 v4:=Tryz.zeroValue4
 t5:=Tryz.underlying5
 a5:=Tryz.isAgg5
 z5:=Tryz.sizeOf5
 v5:=Tryz.zeroValue5
 t9:=Tryz.underlying9
 a9:=Tryz.isAgg9
 z9:=Tryz.sizeOf9
 v9:=Tryz.zeroValue9
 t46:=Tryz.underlying176
 a46:=Tryz.isAgg176
 z46:=Tryz.sizeOf176
 v46:=Tryz.zeroValue176
 t51:=Tryz.underlying200
 a51:=Tryz.isAgg200
 z51:=Tryz.sizeOf200
 v51:=Tryz.zeroValue200
 t53:=Tryz.underlying202
 a53:=Tryz.isAgg202
 z53:=Tryz.sizeOf202
 v53:=Tryz.zeroValue202 }
theorem Tryz.bits_Len (x:Int) (w:World) (h0:0≤x) (h1:x≤18446744073709551615) :
 Calls Tryz.prog 158 #[.int .u64 x] w fun e w'=>e=.returned (.int .i64 (Lib.bitLen x.toNat))∧w'=w:=Any.bits_Len Tryz.lays125 x w h0 h1
end Go.Proofs
namespace Go.Proofs.YtikgjgmgbfjcgaaGreat
open Go.RowKit
theorem retn {k:IntKind} {a b:Int} (h:a=b):Ending.returned (.int k a)=.returned (.int k b):=by rw [h]
theorem wrap_id {m:Int} (h0 : -9223372036854775808≤m) (h1:m≤9223372036854775807):wrap64 m=m:=by
 rw [wrap64];omega
theorem quo_wrap {n x:Int} (h0:0≤n) (h1:n≤9223372036854775807) (hx:0 < x):wrap64 (n.tdiv x)=n / x:=by
 rw [Int.tdiv_eq_ediv_of_nonneg h0]
 have:=Int.ediv_nonneg h0 (Int.le_of_lt hx)
 have:=Int.ediv_le_self x h0
 exact wrap_id (by omega) (by omega)
theorem bit_next (j:Nat) (r:Int) (h0:0≤r) (hm:r%2 ^ (j+1)=0) (h1:r≤3037000499) (hj:j≤40):bits BinOp.or IntKind.i64 r (wrap64 (2 ^ j))=r+2 ^ j:=by
 have h2:=two_pow_le hj
 have h3:=two_pow_pos j
 have h4:(2:Int) ^ 40=1099511627776:=by decide
 rw [wrap_id (by omega) (by omega)]
 exact or_bit j r h0 hm (Int.lt_of_le_of_lt h1 (by decide)) (by omega)
set_option maxHeartbeats 1600000 in
theorem root_any (n:Int) (w:World) (h0:0≤n) (h1:n≤9223372036854775807) :
 Calls Tryz.prog 235 #[.int .i64 n] w fun e w'=>e=.returned (.int .i64 (rt n))∧w'=w:=by
 have hlen:(Lib.bitLen n.toNat:Int)≤64:=by have:=Lib.bitLen_le n.toNat 64 (by omega) (by omega);omega
 have hlen0:(0:Int)≤(Lib.bitLen n.toNat:Int):=by omega
 go_enter Tryz.func235,Tryz.ntmps235
 go_wp2_with (go_at_call 158;refine (Tryz.bits_Len _ _ (by omega) (by omega)).mono ?_;rintro e w' ⟨rfl,rfl⟩)
 go_loop [3,4] (fun x b=>∃ (i:Nat) (r:Int),i≤33∧x=.int .i64 r∧b=.int .i64 ((i:Int) - 1)∧Hid (Srch n r (2 ^ i))∧Hid (r%2 ^ i=0)) (fun _ b=>(intOf b+1).toNat)
 case atStart=>
  exact ⟨Lib.bitLen n.toNat / 2+1,0,by omega,rfl,congrArg (Value.int IntKind.i64) (by omega),srch_begin h0 h1 _ rfl,(show (0:Int)%_=0 by simp)⟩
 case round=>
  obtain ⟨i,r,hi,rfl,rfl,HS,HM⟩:=hrel
  have hr0:=HS.out.1
  have hr1:=srch_le HS.out h1
  cases i with
  | zero=>
    go_wp2
    go_ret
    exact ⟨retn (rt_eq (srch_end HS.out)).symm,rfl⟩
  | succ j=>
    have hj:((j+1:Nat):Int) - 1=j:=by omega
    rw [hj]
    have HO:Hid (bits BinOp.or IntKind.i64 r (wrap64 (2 ^ j))=r+2 ^ j):=bit_next j r hr0 HM.out hr1 (by omega)
    have hp:=two_pow_pos j
    go_wp2
    ·exfalso;have:=HO.out;omega
    ·rename_i h1' h2'
     rw [HO.out] at h2' ⊢
     rw [quo_wrap h0 h1 (by omega)] at h2'
     refine ⟨⟨j,r+2 ^ j,by omega,rfl,rfl,srch_in (by rw [← two_pow_succ];exact HS.out) (by omega) ((quo_iff (by omega)).1 h2'),mod_add HM.out⟩,by simp [intOf]⟩
    ·rename_i h1' h2'
     rw [HO.out] at h2'
     rw [quo_wrap h0 h1 (by omega)] at h2'
     refine ⟨⟨j,r,by omega,rfl,rfl,srch_out (by rw [← two_pow_succ];exact HS.out) (fun h=>by have:=(quo_iff (x:=r+2 ^ j) (n:=n) (by omega)).2 h;omega),mod_keep HM.out⟩,by simp [intOf]⟩
theorem half_pow (k:Nat):(2:Int) ^ (k+1) / 2=2 ^ k:=by rw [two_pow_succ];omega
theorem srch_first {n:Int} (h0:0≤n) (h1:n≤9223372036854775807):Srch n 0 (2 * 2147483648):=⟨by omega,by simpa using h0,by simp;omega⟩
theorem no_sq {n x:Int} (h:¬ x≤3037000499) (h1:n≤9223372036854775807):¬ x * x≤n:=fun h2=>by
 have:=sq_le (a:=3037000500) (b:=x) (by omega) (by omega)
 omega
def BitIs (n r b:Int):Prop:=(∃ k:Nat,k≤31∧b=2 ^ k∧Srch n r (2 * b))∨(b=0∧Srch n r 1)
theorem BitIs.next {n r b:Int} {k:Nat} (hb:b=2 ^ k) (hk:k≤31) (h:Srch n r b):BitIs n r (b / 2):=by
 cases k with
 | zero=>right;subst hb;exact ⟨by decide,h⟩
 | succ k=>
   left
   refine ⟨k,by omega,by rw [hb,half_pow],?_⟩
   have:2 * (b / 2)=b:=by rw [hb,half_pow,two_pow_succ]
   rw [this];exact h
set_option maxHeartbeats 1600000 in
theorem rootOf_any (n:Int) (w:World) (h0:0≤n) (h1:n≤9223372036854775807) :
 Calls Tryz.prog 178 #[.int .i64 n] w fun e w'=>e=.returned (.int .i64 (rt n))∧w'=w:=by
 go_enter Tryz.func178,Tryz.ntmps178
 go_wp2
 go_loop [3,4] (fun x y=>∃ (b r:Int),x=.int .i64 r∧y=.int .i64 b∧Hid (BitIs n r b)) (fun _ b=>(intOf b).toNat)
 case atStart=>exact ⟨2147483648,0,rfl,rfl,.inl ⟨31,by omega,by decide,srch_first h0 h1⟩⟩
 case round=>
  obtain ⟨b,r,rfl,rfl,HB⟩:=hrel
  rcases HB.out with ⟨k,hk,hb,hS⟩ | ⟨hb,hS⟩
  ·have HS:Hid (Srch n r (2 * b)):=hS
   have HK:Hid (b=2 ^ k):=hb
   have hb1:b≤2147483648:=by have:=two_pow_le hk;have e:(2:Int) ^ 31=2147483648:=by decide
                             omega
   have hb0:0 < b:=by rw [hb];exact two_pow_pos k
   have hr0:=hS.1
   have hr1:=srch_le hS h1
   clear hb hS HB
   by_cases hle:r+b≤3037000499
   ·have hq:=sq_le (a:=r+b) (b:=3037000499) (by omega) hle
    have hq0:0≤(r+b) * (r+b):=Int.mul_nonneg (by omega) (by omega)
    by_cases hx:(r+b) * (r+b)≤n
    ·have HN:Hid (BitIs n (r+b) (b / 2)):=BitIs.next HK.out hk (srch_in HS.out (by omega) hx)
     go_wp2
     exact ⟨⟨b / 2,r+b,rfl,rfl,HN⟩,by simp [intOf];omega⟩
    ·have HN:Hid (BitIs n r (b / 2)):=BitIs.next HK.out hk (srch_out HS.out hx)
     go_wp2
     exact ⟨⟨b / 2,r,rfl,rfl,HN⟩,by simp [intOf];omega⟩
   ·have HN:Hid (BitIs n r (b / 2)):=BitIs.next HK.out hk (srch_out HS.out (no_sq hle h1))
    go_wp2
    exact ⟨⟨b / 2,r,rfl,rfl,HN⟩,by simp [intOf];omega⟩
  ·have HS:Hid (Srch n r 1):=hS
   subst hb
   clear hS HB
   go_wp2
   go_ret
   exact ⟨retn (rt_eq (srch_end HS.out)).symm,rfl⟩
structure Pl where
 x:Int
 y:Int
 z:Int
 h:Int
 s:Int
def clampI (n lo hi:Int):Int:=min (max n lo) hi
def inP (p:Pl):Pl:=⟨clampI p.x (-10000000) 10000000,clampI p.y (-10000000) 10000000,clampI p.z (-10000000) 10000000,clampI p.h 0 1000000,clampI p.s 0 1000⟩
structure OkP (p:Pl):Prop where
 x0 : -10000000≤p.x
 x1:p.x≤10000000
 y0 : -10000000≤p.y
 y1:p.y≤10000000
 z0 : -10000000≤p.z
 z1:p.z≤10000000
 h0:0≤p.h
 h1:p.h≤1000000
 s0:0≤p.s
 s1:p.s≤1000
def sameP (a b:Pl):Bool:=a.x == b.x && (a.y == b.y && (a.z == b.z && (a.h == b.h && a.s == b.s)))
def chkP (p:Pl):Int:=if sameP p (inP p)=true then 0 else 3
theorem sameP_iff (a b:Pl):sameP a b=true↔a=b:=by
 obtain ⟨a1,a2,a3,a4,a5⟩:=a
 obtain ⟨b1,b2,b3,b4,b5⟩:=b
 simp [sameP]
theorem clampI_id {n lo hi:Int} (h:lo≤hi):n=clampI n lo hi↔lo≤n∧n≤hi:=by unfold clampI;omega
theorem okP_iff (p:Pl):chkP p=0↔OkP p:=by
 obtain ⟨x,y,z,h,s⟩:=p
 have e:chkP ⟨x,y,z,h,s⟩=0↔sameP ⟨x,y,z,h,s⟩ (inP ⟨x,y,z,h,s⟩)=true:=by unfold chkP;split<;>simp [*]
 rw [e,sameP_iff]
 simp only [inP,Pl.mk.injEq]
 rw [clampI_id (by omega),clampI_id (by omega),clampI_id (by omega),clampI_id (by omega),clampI_id (by omega)]
 exact ⟨fun ⟨⟨a,b⟩,⟨c,d⟩,⟨e,f⟩,⟨g,h⟩,⟨i,j⟩⟩=>⟨a,b,c,d,e,f,g,h,i,j⟩,fun ⟨a,b,c,d,e,f,g,h,i,j⟩=>⟨⟨a,b⟩,⟨c,d⟩,⟨e,f⟩,⟨g,h⟩,⟨i,j⟩⟩⟩
theorem chkP_or (p:Pl):chkP p=0∨chkP p=3:=by unfold chkP;split<;>simp
set_option maxHeartbeats 400000 in
theorem clamp_any (n lo hi:Int) (w:World) :
 Calls Tryz.prog 184 #[.int .i64 n,.int .i64 lo,.int .i64 hi] w fun e w'=>e=.returned (.int .i64 (clampI n lo hi))∧w'=w:=by
 go_enter Tryz.func184,Tryz.ntmps184
 go_wp2
 all_goals
  go_ret
  exact ⟨retn (by unfold clampI;omega),rfl⟩
set_option maxHeartbeats 1600000 in
theorem within_any' (x y z h s:Int) (w:World) :
 Calls Tryz.prog 151 #[.agg #[.int .i64 x,.int .i64 y,.int .i64 z,.int .i64 h,.int .i64 s]] w fun e w'=>e=.returned (.agg #[.int .i64 (clampI x (-10000000) 10000000),.int .i64 (clampI y (-10000000) 10000000),.int .i64 (clampI z (-10000000) 10000000),.int .i64 (clampI h 0 1000000),.int .i64 (clampI s 0 1000)])∧Below w.heap.size w w':=by
 go_enter Tryz.func151,Tryz.ntmps151
 go_wp2_with fail
 go_region_held3 (fun w'=>w'.cell? ⟨w.heap.size,0,none⟩=some (.int .i64 x)∧w'.cell? ⟨w.heap.size,1,none⟩=some (.int .i64 y)∧w'.cell? ⟨w.heap.size,2,none⟩=some (.int .i64 z)∧w'.cell? ⟨w.heap.size,3,none⟩=some (.int .i64 h)∧w'.cell? ⟨w.heap.size,4,none⟩=some (.int .i64 s)) (go_keep) (first | (go_at_call 184;refine (clamp_any _ _ _ _).mono ?_;rintro e w' ⟨rfl,rfl⟩))
 go_wp2_with fail
 exact bodyPost_ret (v:=.agg #[.int .i64 (clampI x (-10000000) 10000000),.int .i64 (clampI y (-10000000) 10000000),.int .i64 (clampI z (-10000000) 10000000),.int .i64 (clampI h 0 1000000),.int .i64 (clampI s 0 1000)]) (by simp [results,Tryz.results151,go_sem]) rfl ⟨rfl,(((Below.refl _ _).alloc (Nat.le_refl _) _).alloc (by simp) _).drew⟩
set_option maxHeartbeats 800000 in
theorem eqInPl (a b:Pl) (w:World):(Op.equalIn 10000 27 (.agg #[.int .i64 a.x,.int .i64 a.y,.int .i64 a.z,.int .i64 a.h,.int .i64 a.s]) (.agg #[.int .i64 b.x,.int .i64 b.y,.int .i64 b.z,.int .i64 b.h,.int .i64 b.s])).run Tryz.prog w=.ok (sameP a b) w:=by
 obtain ⟨a1,a2,a3,a4,a5⟩:=a
 obtain ⟨b1,b2,b3,b4,b5⟩:=b
 have u3:=run_underlying Tryz.underlying3
 have a3':=Tryz.isAgg3
 have z3:=Tryz.sizeOf3
 have hS:Tryz.prog.underlying 27=some (.struct (Tryz.prog.fieldsOf 27)):=by kernel_rfl
 have hp:Tryz.prog.stoodInHeld 27=false:=by kernel_rfl
 rw [show (10000:Nat)=9999+1 from rfl,run_equalIn_agg w 9999 27 _ _ hS hp]
 simp only [Program.fieldsOf,Tryz.underlying27]
 go_simp
 unfold sameP
 by_cases h1:a1=b1<;>by_cases h2:a2=b2<;>by_cases h3:a3=b3<;>by_cases h4:a4=b4<;>by_cases h5:a5=b5<;>simp [h1,h2,h3,h4,h5]
theorem neqPl (a b:Pl) (w:World):Sem.run Tryz.prog (binOp .neq 27 (.agg #[.int .i64 a.x,.int .i64 a.y,.int .i64 a.z,.int .i64 a.h,.int .i64 a.s]) (.agg #[.int .i64 b.x,.int .i64 b.y,.int .i64 b.z,.int .i64 b.h,.int .i64 b.s])) w=.ok (.bool (!sameP a b)) w:=by
 rw [run_neq_struct,eqInPl]
 rfl
set_option maxHeartbeats 1600000 in
theorem checkP_any (p:Pl) (w:World) :
 Calls Tryz.prog 102 #[.agg #[.int .i64 p.x,.int .i64 p.y,.int .i64 p.z,.int .i64 p.h,.int .i64 p.s]] w fun e w'=>e=.returned (.int .i64 (chkP p))∧Below w.heap.size w w':=by
 have hneq:=neqPl p (inP p)
 have HC:∀ q,sameP p (inP p)=q→Hid (chkP p=bif q then 0 else 3):=fun q hq=>(show chkP p=_ by unfold chkP;cases q<;>simp [hq])
 generalize hsm:sameP p (inP p)=q at hneq
 have HD:=HC q hsm
 clear hsm HC
 generalize chkP p=cp at *
 obtain ⟨x,y,z,h,s⟩:=p
 simp only [inP] at hneq
 have hgP:Tryz.prog.eqGuardType Tryz.prog.depth 27=false:=by kernel_rfl
 generalize hW:w.alloc (.cells #[.int .i64 x,.int .i64 y,.int .i64 z,.int .i64 h,.int .i64 s] 27)=W at *
 have HW:Hid (Below w.heap.size w W):=by rw [← hW];exact (Below.refl _ _).alloc (Nat.le_refl _) _
 have E0:∀ d os,(Go.Sort.grow (redrawn W d) os).cell? ⟨w.heap.size,0,none⟩=some (.int .i64 x):=cell_regrown (by rw [← hW];simp)
 have E1:∀ d os,(Go.Sort.grow (redrawn W d) os).cell? ⟨w.heap.size,1,none⟩=some (.int .i64 y):=cell_regrown (by rw [← hW];simp)
 have E2:∀ d os,(Go.Sort.grow (redrawn W d) os).cell? ⟨w.heap.size,2,none⟩=some (.int .i64 z):=cell_regrown (by rw [← hW];simp)
 have E3:∀ d os,(Go.Sort.grow (redrawn W d) os).cell? ⟨w.heap.size,3,none⟩=some (.int .i64 h):=cell_regrown (by rw [← hW];simp)
 have E4:∀ d os,(Go.Sort.grow (redrawn W d) os).cell? ⟨w.heap.size,4,none⟩=some (.int .i64 s):=cell_regrown (by rw [← hW];simp)
 have cN:∀ d os,Calls Tryz.prog 151 #[.agg #[.int .i64 x,.int .i64 y,.int .i64 z,.int .i64 h,.int .i64 s]] (Go.Sort.grow (redrawn W d) os) fun e w''=>e=.returned (.agg #[.int .i64 (clampI x (-10000000) 10000000),.int .i64 (clampI y (-10000000) 10000000),.int .i64 (clampI z (-10000000) 10000000),.int .i64 (clampI h 0 1000000),.int .i64 (clampI s 0 1000)])∧∃ p:Regrown,w''=Go.Sort.grow (redrawn W p.d) p.os:=fun d os=>
  Calls.regrown_of ((within_any' _ _ _ _ _ _).mono (by rintro e w' ⟨rfl,hb⟩;exact ⟨rfl,hb⟩))
 go_enter Tryz.func102,Tryz.ntmps102
 go_wp2_with fail
 cases q
 all_goals
  simp only [Bool.not_true,Bool.not_false] at hneq
  refine wp_region_quiet_below (by kernel_rfl) (by kernel_rfl) ?_
  repeat (quiet_step (exact cN _ _))
  refine wpQuiet_nil ?_
  intro _ hw'
  obtain ⟨⟨dq,osq⟩,hw''⟩:=hw'
  subst hw''
  have HBQ:Hid (Below W.heap.size W (Go.Sort.grow (redrawn W dq) osq)):=below_regrown W dq osq
  clear cN E0 E1 E2 E3 E4
  go_wp2_with fail
  go_ret
  exact ⟨retn (by rw [HD.out];simp),HW.out.trans (HBQ.out.mono HW.out.size)⟩
def dp:Pl:=⟨0,0,0,0,0⟩
def PRow (w:World) (b off:Nat) (ps:List Pl):Prop:=∀ k,k < ps.length →
 w.cell? ⟨b,off+k * 5,none⟩=some (.int .i64 (ps.getD k dp).x)∧w.cell? ⟨b,off+k * 5+1,none⟩=some (.int .i64 (ps.getD k dp).y)∧w.cell? ⟨b,off+k * 5+2,none⟩=some (.int .i64 (ps.getD k dp).z)∧w.cell? ⟨b,off+k * 5+3,none⟩=some (.int .i64 (ps.getD k dp).h)∧w.cell? ⟨b,off+k * 5+4,none⟩=some (.int .i64 (ps.getD k dp).s)
theorem PRow.below {w w':World} {b off:Nat} {ps:List Pl} (h:PRow w b off ps) (hb:Below w.heap.size w w'):PRow w' b off ps:=fun k hk=>by
 obtain ⟨h0,h1,h2,h3,h4⟩:=h k hk
 have hlt:b < w.heap.size:=World.block_lt_of_cell? w ⟨b,off+k * 5,none⟩ h0
 exact ⟨by rw [hb.cell hlt];exact h0,by rw [hb.cell hlt];exact h1,by rw [hb.cell hlt];exact h2,by rw [hb.cell hlt];exact h3,by rw [hb.cell hlt];exact h4⟩
def chkPs:List Pl→Int
 | []=>0
 | p :: r=>if chkP p=0 then chkPs r else 3
theorem chkPs_zero:∀ (ps:List Pl),chkPs ps=0↔∀ j,j < ps.length→chkP (ps.getD j dp)=0
 | []=>by simp [chkPs]
 | p :: r=>by
   unfold chkPs
   by_cases h:chkP p=0
   ·rw [if_pos h,chkPs_zero r]
    constructor
    ·intro g j hj
     cases j with
     | zero=>simpa using h
     | succ j=>simpa using g j (by simpa using hj)
    ·intro g j hj
     simpa using g (j+1) (by simpa using hj)
   ·rw [if_neg h]
    exact ⟨fun e=>by simp at e,fun g=>absurd (by simpa using g 0 (by simp)) h⟩
theorem chkPs_or:∀ (ps:List Pl),chkPs ps=0∨chkPs ps=3
 | []=>.inl rfl
 | p :: r=>by
   unfold chkPs
   split
   ·exact chkPs_or r
   ·exact .inr rfl
theorem chkPs_bad {ps:List Pl} {k:Nat} (hk:k < ps.length) (h:chkP (ps.getD k dp)≠0):chkPs ps=3:=by
 rcases chkPs_or ps with e | e
 ·exact absurd ((chkPs_zero ps).1 e k hk) h
 ·exact e
set_option maxHeartbeats 1600000 in
theorem checkAllP_any (ps:List Pl) (b off n cap:Nat) (w:World) (hn:ps.length=n) (hr:PRow w b off ps) (hsm:n≤1000) :
 Calls Tryz.prog 172 #[.slice (some ⟨b,off,none⟩) n cap] w fun e w'=>e=.returned (.int .i64 (chkPs ps))∧Below w.heap.size w w':=by
 have HR:Hid (PRow w b off ps):=hr
 have HN:Hid (ps.length=n):=hn
 clear hr hn
 go_enter Tryz.func172,Tryz.ntmps172
 go_wp2
 go_loopw [8] (fun i w'=>∃ k:Nat,k≤n∧i=.int .i64 k∧Hid (Below w.heap.size w w')∧Hid (∀ j,j < k→chkP (ps.getD j dp)=0)) (fun i _=>n - (intOf i).toNat)
 case atStart=>exact ⟨0,Nat.zero_le _,rfl,Below.refl _ _,fun j hj=>by omega⟩
 case round=>
  obtain ⟨k,hk,rfl,HB,HZ⟩:=hrel
  by_cases hlt:k < n
  ·obtain ⟨c0,c1,c2,c3,c4⟩:=HR.out.below HB.out k (by rw [HN.out];exact hlt)
   have HS:Hid (chkP (ps.getD k dp)=0→∀ j,j < k+1→chkP (ps.getD j dp)=0):=fun h j hj=>by
    by_cases e:j=k
    ·subst e;exact h
    ·exact HZ.out j (by omega)
   have HX:Hid (chkP (ps.getD k dp)≠0→chkPs ps=chkP (ps.getD k dp)):=fun h=>by
    rw [chkPs_bad (by rw [HN.out];exact hlt) h]
    exact ((chkP_or _).resolve_left h).symm
   generalize ps.getD k dp=pk at *
   obtain ⟨x,y,z,h,s⟩:=pk
   simp only at c0 c1 c2 c3 c4
   clear HZ
   go_wp2_with fail
   refine (checkP_any ⟨x,y,z,h,s⟩ _).mono ?_
   rintro e w1 ⟨rfl,hb1⟩
   have HB1:Hid (Below w.heap.size w w1):=(HB.out.alloc HB.out.size _).trans (hb1.mono (by have:=HB.out.size;simp;omega))
   clear hb1 c0 c1 c2 c3 c4
   by_cases hc:chkP ⟨x,y,z,h,s⟩=0
   ·have hc':(chkP ⟨x,y,z,h,s⟩ != 0)=false:=by simpa using hc
    have HS1:=HS.out hc
    have HS2:Hid (∀ j,j < k+1→chkP (ps.getD j dp)=0):=HS1
    clear HS1 HS HX hc
    go_wp2_with fail
    go_roundw
    case rel=>exact ⟨k+1,by omega,by go_num,HB1,HS2⟩
    case measure=>simp [intOf];omega
   ·have hc':(chkP ⟨x,y,z,h,s⟩ != 0)=true:=by simpa using hc
    have HE:Hid (chkPs ps=chkP ⟨x,y,z,h,s⟩):=HX.out hc
    clear HS HX hc
    go_wp2_with fail
    go_ret
    exact ⟨retn HE.out.symm,HB1.out⟩
  ·have HE:Hid (chkPs ps=0):=(chkPs_zero ps).2 (fun j hj=>HZ.out j (by have:=HN.out;omega))
   clear HZ
   go_wp2_with fail
   go_ret
   exact ⟨retn HE.out.symm,HB.out⟩
end Go.Proofs.YtikgjgmgbfjcgaaGreat
