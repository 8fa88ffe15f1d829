import Derived.WalkKit
import Derived.Lib.BitFns
import Derived.Lib.ItoaNum
import Derived.Shelf.Small.Bits
import Derived.Shelf.Strconv.Itoa0
import Derived.Test.YtikgjgmgbfjcgaaGreatProg
import Derived.WalkSpells
import Derived.WalkLawsBesides
namespace Go.Proofs.YtikgjgmgbfjcgaaGreat
open Go.RowKit
def Srch (n r b:Int):Prop:=0≤r∧r * r≤n∧n < (r+b) * (r+b)
theorem two_pow_succ (k:Nat):(2:Int) ^ (k+1)=2 * 2 ^ k:=by rw [Int.pow_succ];omega
end Go.Proofs.YtikgjgmgbfjcgaaGreat
namespace Go.Proofs
open Go.Shelf
def Tryz.lays125_ren:Go.Shelf.Ren:=⟨fun | 125=>158 | 128=>190 | 129=>191 | n=>n,fun | 46=>176 | 3=>3 | 51=>200 | 53=>202 | 4=>4 | 5=>5 | 9=>9 | n=>n,fun | n=>n⟩
theorem Tryz.lays125:Go.Proofs.Lays.n125 Tryz.prog Tryz.lays125_ren:={
 mixed:=by kernel_rfl
 f125:=Tryz.func158.trans (congrArg some (by kernel_rfl))
 f128:=Tryz.func190.trans (congrArg some (by kernel_rfl))
 f129:=Tryz.func191.trans (congrArg some (by kernel_rfl))
 t3:=Tryz.underlying3
 a3:=Tryz.isAgg3
 z3:=Tryz.sizeOf3
 v3:=Tryz.zeroValue3
 t4:=Tryz.underlying4
 a4:=Tryz.isAgg4
 z4:=Tryz.sizeOf4
 v4:=Tryz.zeroValue4
 t5:=Tryz.underlying5
 a5:=Tryz.isAgg5
 z5:=Tryz.sizeOf5
 v5:=Tryz.zeroValue5
 t9:=Tryz.underlying9
 a9:=Tryz.isAgg9
 z9:=Tryz.sizeOf9
 v9:=Tryz.zeroValue9
 t46:=Tryz.underlying176
 a46:=Tryz.isAgg176
 z46:=Tryz.sizeOf176
 v46:=Tryz.zeroValue176
 t51:=Tryz.underlying200
 a51:=Tryz.isAgg200
 z51:=Tryz.sizeOf200
 v51:=Tryz.zeroValue200
 t53:=Tryz.underlying202
 a53:=Tryz.isAgg202
 z53:=Tryz.sizeOf202
 v53:=Tryz.zeroValue202 }
theorem Tryz.bits_Len (x:Int) (w:World) (h0:0≤x) (h1:x≤18446744073709551615) :
 Calls Tryz.prog 158 #[.int .u64 x] w fun e w'=>e=.returned (.int .i64 (Lib.bitLen x.toNat))∧w'=w:=Any.bits_Len Tryz.lays125 x w h0 h1
end Go.Proofs
namespace Go.Proofs.YtikgjgmgbfjcgaaGreat
open Go.RowKit
theorem retn {k:IntKind} {a b:Int} (h:a=b):Ending.returned (.int k a)=.returned (.int k b):=by rw [h]
theorem half_pow (k:Nat):(2:Int) ^ (k+1) / 2=2 ^ k:=by rw [two_pow_succ];omega
def BitIs (n r b:Int):Prop:=(∃ k:Nat,k≤31∧b=2 ^ k∧Srch n r (2 * b))∨(b=0∧Srch n r 1)
theorem BitIs.next {n r b:Int} {k:Nat} (hb:b=2 ^ k) (hk:k≤31) (h:Srch n r b):BitIs n r (b / 2):=by
 cases k with
 | zero=>right;subst hb;exact ⟨by decide,h⟩
 | succ k=>
   left
   refine ⟨k,by omega,by rw [hb,half_pow],?_⟩
   have:2 * (b / 2)=b:=by rw [hb,half_pow,two_pow_succ]
   rw [this];exact h
end Go.Proofs.YtikgjgmgbfjcgaaGreat
