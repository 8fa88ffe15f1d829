import Derived.Test.YtikgjgmgbfjcgaaGreatX13
namespace Go.Proofs.YtikgjgmgbfjcgaaGreat
namespace Gw
open Go.RowKit
theorem sl_ok {w:World} {v:Value} {ms:List Gwy} (h:Sl w v ms):∀ m∈ms,(m).ok:=by obtain ⟨_,_,_,h,_⟩:=h;exact ns_mem h
end Gw
namespace Gw
open Go.RowKit
end Gw
end Go.Proofs.YtikgjgmgbfjcgaaGreat
