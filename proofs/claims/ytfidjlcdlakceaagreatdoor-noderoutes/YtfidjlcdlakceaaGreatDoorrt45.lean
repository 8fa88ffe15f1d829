import Derived.Test.YtfidjlcdlakceaaGreatDoorrt32
namespace Go.Proofs.YtfidjlcdlakceaaGreatDoor
namespace Wh
open Go.RowKit
end Wh
end Go.Proofs.YtfidjlcdlakceaaGreatDoor
namespace Go.Proofs.YtfidjlcdlakceaaGreatDoor
open Go.RowKit
def ag0(wh:List Wh.cd)(x:Wh.cd):List Wh.cd:=if(wh.any λy=>decide (y.node=x.node))=true\/20<=wh.length then wh else Wh.bB wh x
def lrn(wh l:List Wh.cd):List Wh.cd:=l.foldl ag0 wh
structure Wh.Wz(wh:List Wh.cd):Prop where
 amY:Wh.dt wh
 len:wh.length<=20
 ok:∀m∈wh,m.ok
theorem eV{B k n b:Nat}{T T':TypeId}{w:World}{v:Value}{xs:List Value}{cs:Array Value}(h:w.ownsRow B T k v n xs)(hb:w.heap[b]?=some (.cells cs T' (0,0)))(hT:T≠T'):v.ownBlock≠some b:=by
 rcases h.2 with⟨rfl,_⟩|⟨g,c,cur,rfl,_,hg,_⟩
 .intro e;cases e
 .intro e
  have:g=b:=by simpa[Value.ownBlock] using e
  subst this;rw[hg] at hb;injection hb with e1;injection e1 with _ e2;exact hT e2
end Go.Proofs.YtfidjlcdlakceaaGreatDoor
