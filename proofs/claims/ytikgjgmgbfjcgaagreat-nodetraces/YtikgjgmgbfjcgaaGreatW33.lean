import Derived.Test.YtikgjgmgbfjcgaaGreatW16
namespace Go.Proofs.YtikgjgmgbfjcgaaGreat
open Go.RowKit
theorem at_hi_ne {ms:List Mem} {t:ByteArray} {p:Nat} {f:Bool} (ha:At ms t p f) (hr:Rise ms) (k:Nat) (hk:p < k) (hl:k < ms.length):(ms.getD k dm).name≠t:=by
 intro e
 have hp:=List.pairwise_iff_getElem.1 hr p k (by omega) hl hk
 have e1:ms.getD p dm=ms[p]:=by simp [List.getD,List.getElem?_eq_getElem (show p < ms.length by omega)]
 have e2:ms.getD k dm=ms[k]:=by simp [List.getD,List.getElem?_eq_getElem hl]
 have h:=ha.hi p (Nat.le_refl _) (by omega)
 have:cmpI (ms.getD p dm).name t < 0:=by rw [cmpI_lt,e1,← e,e2];exact hp
 omega
end Go.Proofs.YtikgjgmgbfjcgaaGreat
