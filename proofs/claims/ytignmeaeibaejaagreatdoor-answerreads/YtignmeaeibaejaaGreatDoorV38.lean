import Derived.Test.YtignmeaeibaejaaGreatDoorV36
import Derived.Test.YtignmeaeibaejaaGreatDoorV37
import Derived.Test.YtignmeaeibaejaaGreatDoorV24
namespace Go.Proofs.YtignmeaeibaejaaGreatDoor
open Go.RowKit
theorem rcown_slice {B:Nat} {w:World} {v:Value} {ms:List Rc.Rec} (h:Rc.Own B w v ms):∃ p c,v=.slice p ms.length c:=by
 rcases h.2 with ⟨hv,h0⟩ | ⟨g,c,cur,hv,_⟩
 ·exact ⟨none,0,by rw [hv,h0]⟩
 ·exact ⟨_,c,hv⟩
end Go.Proofs.YtignmeaeibaejaaGreatDoor
