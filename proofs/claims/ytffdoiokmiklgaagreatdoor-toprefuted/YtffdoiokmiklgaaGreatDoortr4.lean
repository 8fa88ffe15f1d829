import Derived.WalkKit
import Derived.Lib.BitFns
import Derived.Lib.ItoaNum
import Derived.Shelf.Strings.Builder1
import Derived.Shelf.Small.Bits
import Derived.Shelf.Small.Strs
import Derived.Shelf.Strconv.Atoi
import Derived.Shelf.Strconv.Itoa0
import Derived.Shelf.Strconv.Itoa1
import Derived.Shelf.LaysM
import Derived.Shelf.Strconv.Itoa2
import Derived.Shelf.Strconv.Itoa3
import Derived.Shelf.Strconv.AtoiErrFast
import Derived.Shelf.Strconv.ParseIntEmpty
import Derived.Shelf.Strconv.AtoiFail
import Derived.Shelf.Strconv.Clone
import Derived.Shelf.Strconv.SyntaxError
import Derived.Shelf.LaysC
import Derived.Shelf.Strconv.ToError
import Derived.Shelf.Strconv.Lower
import Derived.Shelf.Strconv.ParseUint10
import Derived.Shelf.Strconv.ParseUint10Empty
import Derived.Shelf.Strconv.ParseUint10Any
import Derived.Shelf.Strconv.ParseInt10
import Derived.Shelf.Strconv.AtoiLong
import Derived.Shelf.Strconv.AtoiInnerAll
import Derived.Shelf.Strconv.RangeError
import Derived.Shelf.Strconv.ToErrorRange
import Derived.Shelf.Strconv.AtoiAll
import Derived.Shelf.Strings.Search1
import Derived.Shelf.Strings.Search2
import Derived.Shelf.Strings.Cut
import Derived.Shelf.Strings.Shaped
import Derived.Ground.SlsfProg
import Derived.Shelf.SlSortCmp.Insertion
import Derived.Shelf.SlSortCmp.SiftDown1
import Derived.Shelf.SlSortCmp.HeapSort1
import Derived.Shelf.SlSortCmp.Insertion1
import Derived.Shelf.SlSortCmp.Median1
import Derived.Shelf.SlSortCmp.Pivot1
import Derived.Shelf.SlSortCmp.ReverseRange1
import Derived.Test.YtffdoiokmiklgaaGreatDoorProg
import Derived.WalkSpells
import Derived.WalkLawsBesides
import Derived.Below
import Derived.BigQuiet
import Derived.Lib.QuietBelow
import Derived.Deep.RegionHeld3
namespace Go.Proofs
open Go.Shelf
def Tryz.lays125_ren:Go.Shelf.Ren:=⟨fun | 125=>144 | 128=>206 | 129=>207 | n=>n,fun | 46=>176 | 3=>3 | 51=>224 | 53=>226 | 4=>4 | 5=>5 | 9=>9 | n=>n,fun | n=>n⟩
theorem Tryz.lays125:Go.Proofs.Lays.n125 Tryz.prog Tryz.lays125_ren:={
 mixed:=by kernel_rfl
 f125:=Tryz.func144.trans (congrArg some (by kernel_rfl))
 f128:=Tryz.func206.trans (congrArg some (by kernel_rfl))
 f129:=Tryz.func207.trans (congrArg some (by kernel_rfl))
 t3:=Tryz.underlying3
 a3:=Tryz.isAgg3
 z3:=Tryz.sizeOf3
 v3:=Tryz.zeroValue3
 t4:=Tryz.underlying4
 a4:=Tryz.isAgg4
 z4:=Tryz.sizeOf4
 v4:=Tryz.zeroValue4
 t5:=Tryz.underlying5
 a5:=Tryz.isAgg5
 z5:=Tryz.sizeOf5
 v5:=Tryz.zeroValue5
 t9:=Tryz.underlying9
 a9:=Tryz.isAgg9
 z9:=Tryz.sizeOf9
 v9:=Tryz.zeroValue9
 t46:=Tryz.underlying176
 a46:=Tryz.isAgg176
 z46:=Tryz.sizeOf176
 v46:=Tryz.zeroValue176
 t51:=Tryz.underlying224
 a51:=Tryz.isAgg224
 z51:=Tryz.sizeOf224
 v51:=Tryz.zeroValue224
 t53:=Tryz.underlying226
 a53:=Tryz.isAgg226
 z53:=Tryz.sizeOf226
 v53:=Tryz.zeroValue226 }
theorem Tryz.bits_Len (x:Int) (w:World) (h0:0≤x) (h1:x≤18446744073709551615) :
 Calls Tryz.prog 144 #[.int .u64 x] w fun e w'=>e=.returned (.int .i64 (Lib.bitLen x.toNat))∧w'=w:=Any.bits_Len Tryz.lays125 x w h0 h1
def Tryz.lays219_ren:Go.Shelf.Ren:=⟨fun | 219=>298 | 217=>315 | 225=>316 | 224=>317 | 267=>318 | 266=>330 | 314=>331 | n=>n,fun | 9=>9 | 3=>3 | 4=>4 | 5=>5 | 46=>176 | 146=>335 | 51=>224 | n=>n,fun | 1=>0 | n=>n⟩
theorem Tryz.lays219:Go.Proofs.Lays.n219 Tryz.prog Tryz.lays219_ren:={
 mixed:=by kernel_rfl
 f217:=Tryz.func315.trans (congrArg some (by kernel_rfl))
 f219:=Tryz.func298.trans (congrArg some (by kernel_rfl))
 f224:=Tryz.func317.trans (congrArg some (by kernel_rfl))
 f225:=Tryz.func316.trans (congrArg some (by kernel_rfl))
 f266:=Tryz.func330.trans (congrArg some (by kernel_rfl))
 f267:=Tryz.func318.trans (congrArg some (by kernel_rfl))
 f314:=Tryz.func331.trans (congrArg some (by kernel_rfl))
 t3:=Tryz.underlying3
 a3:=Tryz.isAgg3
 z3:=Tryz.sizeOf3
 v3:=Tryz.zeroValue3
 t4:=Tryz.underlying4
 a4:=Tryz.isAgg4
 z4:=Tryz.sizeOf4
 v4:=Tryz.zeroValue4
 t5:=Tryz.underlying5
 a5:=Tryz.isAgg5
 z5:=Tryz.sizeOf5
 v5:=Tryz.zeroValue5
 t9:=Tryz.underlying9
 a9:=Tryz.isAgg9
 z9:=Tryz.sizeOf9
 v9:=Tryz.zeroValue9
 t46:=Tryz.underlying176
 a46:=Tryz.isAgg176
 z46:=Tryz.sizeOf176
 v46:=Tryz.zeroValue176
 t51:=Tryz.underlying224
 a51:=Tryz.isAgg224
 z51:=Tryz.sizeOf224
 v51:=Tryz.zeroValue224
 t146:=Tryz.underlying335
 a146:=Tryz.isAgg335
 z146:=Tryz.sizeOf335
 v146:=Tryz.zeroValue335
 g1:=by kernel_rfl }
open Go.RowKit Go.Lib in
theorem Tryz.stringslite_Index_one (s:ByteArray) (c:UInt8) (w:World) :
 Calls Tryz.prog 298 #[.string s,.string ⟨#[c]⟩] w fun e w'=>e=.returned (.int .i64 (Lib.indexByte s.data.toList c))∧w'=w:=Any.stringslite_Index_one Tryz.lays219 s c w
end Go.Proofs
namespace Go.Proofs.YtffdoiokmiklgaaGreatDoor
open Go.RowKit
theorem retn {k:IntKind} {a b:Int} (h:a=b):Ending.returned (.int k a)=.returned (.int k b):=by rw [h]
structure Pl where
 x:Int
 y:Int
 z:Int
 h:Int
 s:Int
def clampI (n lo hi:Int):Int:=min (max n lo) hi
def inP (p:Pl):Pl:=⟨clampI p.x (-10000000) 10000000,clampI p.y (-10000000) 10000000,clampI p.z (-10000000) 10000000,clampI p.h 0 1000000,clampI p.s 0 1000⟩
structure OkP (p:Pl):Prop where
 x0 : -10000000≤p.x
 x1:p.x≤10000000
 y0 : -10000000≤p.y
 y1:p.y≤10000000
 z0 : -10000000≤p.z
 z1:p.z≤10000000
 h0:0≤p.h
 h1:p.h≤1000000
 s0:0≤p.s
 s1:p.s≤1000
def sameP (a b:Pl):Bool:=a.x == b.x && (a.y == b.y && (a.z == b.z && (a.h == b.h && a.s == b.s)))
def chkP (p:Pl):Int:=if sameP p (inP p)=true then 0 else 3
theorem sameP_iff (a b:Pl):sameP a b=true↔a=b:=by
 obtain ⟨a1,a2,a3,a4,a5⟩:=a
 obtain ⟨b1,b2,b3,b4,b5⟩:=b
 simp [sameP]
theorem clampI_id {n lo hi:Int} (h:lo≤hi):n=clampI n lo hi↔lo≤n∧n≤hi:=by unfold clampI;omega
theorem okP_iff (p:Pl):chkP p=0↔OkP p:=by
 obtain ⟨x,y,z,h,s⟩:=p
 have e:chkP ⟨x,y,z,h,s⟩=0↔sameP ⟨x,y,z,h,s⟩ (inP ⟨x,y,z,h,s⟩)=true:=by unfold chkP;split<;>simp [*]
 rw [e,sameP_iff]
 simp only [inP,Pl.mk.injEq]
 rw [clampI_id (by omega),clampI_id (by omega),clampI_id (by omega),clampI_id (by omega),clampI_id (by omega)]
 exact ⟨fun ⟨⟨a,b⟩,⟨c,d⟩,⟨e,f⟩,⟨g,h⟩,⟨i,j⟩⟩=>⟨a,b,c,d,e,f,g,h,i,j⟩,fun ⟨a,b,c,d,e,f,g,h,i,j⟩=>⟨⟨a,b⟩,⟨c,d⟩,⟨e,f⟩,⟨g,h⟩,⟨i,j⟩⟩⟩
set_option maxHeartbeats 400000 in
theorem clamp_any (n lo hi:Int) (w:World) :
 Calls Tryz.prog 232 #[.int .i64 n,.int .i64 lo,.int .i64 hi] w fun e w'=>e=.returned (.int .i64 (clampI n lo hi))∧w'=w:=by
 go_enter Tryz.func232,Tryz.ntmps232
 go_wp2
 all_goals
  go_ret
  exact ⟨retn (by unfold clampI;omega),rfl⟩
set_option maxHeartbeats 1600000 in
theorem within_any' (x y z h s:Int) (w:World) :
 Calls Tryz.prog 188 #[.agg #[.int .i64 x,.int .i64 y,.int .i64 z,.int .i64 h,.int .i64 s]] w fun e w'=>e=.returned (.agg #[.int .i64 (clampI x (-10000000) 10000000),.int .i64 (clampI y (-10000000) 10000000),.int .i64 (clampI z (-10000000) 10000000),.int .i64 (clampI h 0 1000000),.int .i64 (clampI s 0 1000)])∧Below w.heap.size w w':=by
 go_enter Tryz.func188,Tryz.ntmps188
 go_wp2_with fail
 go_region_held3 (fun w'=>w'.cell? ⟨w.heap.size,0,none⟩=some (.int .i64 x)∧w'.cell? ⟨w.heap.size,1,none⟩=some (.int .i64 y)∧w'.cell? ⟨w.heap.size,2,none⟩=some (.int .i64 z)∧w'.cell? ⟨w.heap.size,3,none⟩=some (.int .i64 h)∧w'.cell? ⟨w.heap.size,4,none⟩=some (.int .i64 s)) (go_keep) (first | (go_at_call 232;refine (clamp_any _ _ _ _).mono ?_;rintro e w' ⟨rfl,rfl⟩))
 go_wp2_with fail
 exact bodyPost_ret (v:=.agg #[.int .i64 (clampI x (-10000000) 10000000),.int .i64 (clampI y (-10000000) 10000000),.int .i64 (clampI z (-10000000) 10000000),.int .i64 (clampI h 0 1000000),.int .i64 (clampI s 0 1000)]) (by simp [results,Tryz.results188,go_sem]) rfl ⟨rfl,(((Below.refl _ _).alloc (Nat.le_refl _) _).alloc (by simp) _).drew⟩
set_option maxHeartbeats 800000 in
theorem eqInPl (a b:Pl) (w:World):(Op.equalIn 10000 40 (.agg #[.int .i64 a.x,.int .i64 a.y,.int .i64 a.z,.int .i64 a.h,.int .i64 a.s]) (.agg #[.int .i64 b.x,.int .i64 b.y,.int .i64 b.z,.int .i64 b.h,.int .i64 b.s])).run Tryz.prog w=.ok (sameP a b) w:=by
 obtain ⟨a1,a2,a3,a4,a5⟩:=a
 obtain ⟨b1,b2,b3,b4,b5⟩:=b
 have u3:=run_underlying Tryz.underlying3
 have a3':=Tryz.isAgg3
 have z3:=Tryz.sizeOf3
 have hS:Tryz.prog.underlying 40=some (.struct (Tryz.prog.fieldsOf 40)):=by kernel_rfl
 have hp:Tryz.prog.stoodInHeld 40=false:=by kernel_rfl
 rw [show (10000:Nat)=9999+1 from rfl,run_equalIn_agg w 9999 40 _ _ hS hp]
 simp only [Program.fieldsOf,Tryz.underlying40]
 go_simp
 unfold sameP
 by_cases h1:a1=b1<;>by_cases h2:a2=b2<;>by_cases h3:a3=b3<;>by_cases h4:a4=b4<;>by_cases h5:a5=b5<;>simp [h1,h2,h3,h4,h5]
theorem neqPl (a b:Pl) (w:World):Sem.run Tryz.prog (binOp .neq 40 (.agg #[.int .i64 a.x,.int .i64 a.y,.int .i64 a.z,.int .i64 a.h,.int .i64 a.s]) (.agg #[.int .i64 b.x,.int .i64 b.y,.int .i64 b.z,.int .i64 b.h,.int .i64 b.s])) w=.ok (.bool (!sameP a b)) w:=by
 rw [run_neq_struct,eqInPl]
 rfl
set_option maxHeartbeats 1600000 in
theorem checkP_any (p:Pl) (w:World) :
 Calls Tryz.prog 129 #[.agg #[.int .i64 p.x,.int .i64 p.y,.int .i64 p.z,.int .i64 p.h,.int .i64 p.s]] w fun e w'=>e=.returned (.int .i64 (chkP p))∧Below w.heap.size w w':=by
 have hneq:=neqPl p (inP p)
 have HC:∀ q,sameP p (inP p)=q→Hid (chkP p=bif q then 0 else 3):=fun q hq=>(show chkP p=_ by unfold chkP;cases q<;>simp [hq])
 generalize hsm:sameP p (inP p)=q at hneq
 have HD:=HC q hsm
 clear hsm HC
 generalize chkP p=cp at *
 obtain ⟨x,y,z,h,s⟩:=p
 simp only [inP] at hneq
 have hgP:Tryz.prog.eqGuardType Tryz.prog.depth 40=false:=by kernel_rfl
 generalize hW:w.alloc (.cells #[.int .i64 x,.int .i64 y,.int .i64 z,.int .i64 h,.int .i64 s] 40)=W at *
 have HW:Hid (Below w.heap.size w W):=by rw [← hW];exact (Below.refl _ _).alloc (Nat.le_refl _) _
 have E0:∀ d os,(Go.Sort.grow (redrawn W d) os).cell? ⟨w.heap.size,0,none⟩=some (.int .i64 x):=cell_regrown (by rw [← hW];simp)
 have E1:∀ d os,(Go.Sort.grow (redrawn W d) os).cell? ⟨w.heap.size,1,none⟩=some (.int .i64 y):=cell_regrown (by rw [← hW];simp)
 have E2:∀ d os,(Go.Sort.grow (redrawn W d) os).cell? ⟨w.heap.size,2,none⟩=some (.int .i64 z):=cell_regrown (by rw [← hW];simp)
 have E3:∀ d os,(Go.Sort.grow (redrawn W d) os).cell? ⟨w.heap.size,3,none⟩=some (.int .i64 h):=cell_regrown (by rw [← hW];simp)
 have E4:∀ d os,(Go.Sort.grow (redrawn W d) os).cell? ⟨w.heap.size,4,none⟩=some (.int .i64 s):=cell_regrown (by rw [← hW];simp)
 have cN:∀ d os,Calls Tryz.prog 188 #[.agg #[.int .i64 x,.int .i64 y,.int .i64 z,.int .i64 h,.int .i64 s]] (Go.Sort.grow (redrawn W d) os) fun e w''=>e=.returned (.agg #[.int .i64 (clampI x (-10000000) 10000000),.int .i64 (clampI y (-10000000) 10000000),.int .i64 (clampI z (-10000000) 10000000),.int .i64 (clampI h 0 1000000),.int .i64 (clampI s 0 1000)])∧∃ p:Regrown,w''=Go.Sort.grow (redrawn W p.d) p.os:=fun d os=>
  Calls.regrown_of ((within_any' _ _ _ _ _ _).mono (by rintro e w' ⟨rfl,hb⟩;exact ⟨rfl,hb⟩))
 go_enter Tryz.func129,Tryz.ntmps129
 go_wp2_with fail
 cases q
 all_goals
  simp only [Bool.not_true,Bool.not_false] at hneq
  refine wp_region_quiet_below (by kernel_rfl) (by kernel_rfl) ?_
  repeat (quiet_step (exact cN _ _))
  refine wpQuiet_nil ?_
  intro _ hw'
  obtain ⟨⟨dq,osq⟩,hw''⟩:=hw'
  subst hw''
  have HBQ:Hid (Below W.heap.size W (Go.Sort.grow (redrawn W dq) osq)):=below_regrown W dq osq
  clear cN E0 E1 E2 E3 E4
  go_wp2_with fail
  go_ret
  exact ⟨retn (by rw [HD.out];simp),HW.out.trans (HBQ.out.mono HW.out.size)⟩
end Go.Proofs.YtffdoiokmiklgaaGreatDoor
