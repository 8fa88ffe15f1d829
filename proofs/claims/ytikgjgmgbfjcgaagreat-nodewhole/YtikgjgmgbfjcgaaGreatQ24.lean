import Derived.Test.YtikgjgmgbfjcgaaGreatQ18
import Derived.Test.YtikgjgmgbfjcgaaGreatQ16
import Derived.Lib.ItoaNum
namespace Go.Proofs.YtikgjgmgbfjcgaaGreat
open Go.RowKit
set_option maxHeartbeats 800000 in
theorem times_any (m:Int) (w:World) (h:within m 0 20=true) :
 Calls Tryz.prog 111 #[.int .i64 m] w fun e w'=>e=.returned (.tuple #[.int .i64 (3 * (Lib.bitLen m.toNat:Nat)),.int .i64 0])∧w'=w:=by
 have hm:0≤m∧m≤20:=by simp [within] at h;omega
 have hl:(Lib.bitLen m.toNat:Int)≤64:=by have:=Lib.bitLen_le m.toNat 64 (by omega) (by omega);omega
 go_enter Tryz.func111,Tryz.ntmps111
 go_wp2_with (first | (go_at_call 97;refine (within_any _ _ _ _).mono ?_;rintro e w' ⟨rfl,rfl⟩;rw [h]) | (go_at_call 158;refine (Tryz.bits_Len _ _ (by omega) (by omega)).mono ?_;rintro e w' ⟨rfl,rfl⟩))
 go_ret2
 exact ⟨rfl,rfl⟩
theorem ROwn.names {base:Nat} {w:World} {v:Value} {ms:List Rum} (h:ROwn base w v ms) (hs:∀ r∈ms,r.m.name.size≤maxLen):RSl w v ms:=h.sl (rns_get hs)
end Go.Proofs.YtikgjgmgbfjcgaaGreat
