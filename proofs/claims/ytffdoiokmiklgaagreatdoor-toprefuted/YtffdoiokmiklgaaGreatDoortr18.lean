import Derived.Test.YtffdoiokmiklgaaGreatDoortr9
import Derived.Test.YtffdoiokmiklgaaGreatDoortr16
namespace Go.Proofs.YtffdoiokmiklgaaGreatDoor
namespace Wh
open Go.RowKit
end Wh
end Go.Proofs.YtffdoiokmiklgaaGreatDoor
namespace Go.Proofs.YtffdoiokmiklgaaGreatDoor
open Go.RowKit
def lrn1 (wh:List Wh.Whe) (x:Wh.Whe):List Wh.Whe:=if (wh.any fun y=>decide (y.node=x.node))=true∨20≤wh.length then wh else Wh.hearL wh x
def lrn (wh l:List Wh.Whe):List Wh.Whe:=l.foldl lrn1 wh
structure Wh.Fine (wh:List Wh.Whe):Prop where
 rise:Wh.Rise wh
 len:wh.length≤20
 ok:∀ m∈wh,m.ok
theorem own_block_ne {B k n b:Nat} {T T':TypeId} {w:World} {v:Value} {xs:List Value} {cs:Array Value} (h:w.ownsRow B T k v n xs) (hb:w.heap[b]?=some (.cells cs T' (0,0))) (hT:T≠T'):v.ownBlock≠some b:=by
 rcases h.2 with ⟨rfl,_⟩ | ⟨g,c,cur,rfl,_,hg,_⟩
 ·intro e;cases e
 ·intro e
  have:g=b:=by simpa [Value.ownBlock] using e
  subst this
  rw [hg] at hb
  injection hb with e1
  injection e1 with _ e2
  exact hT e2
end Go.Proofs.YtffdoiokmiklgaaGreatDoor
