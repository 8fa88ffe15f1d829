import Derived.Test.YtffdoiokmiklgaaGreatDoortr21
namespace Go.Proofs.YtffdoiokmiklgaaGreatDoor
open Go.RowKit
theorem Wk.cellsN {L b:Nat} {W:World} {n:Nd} (h:Wk L W b n):∃ a k c a2 k2 c2 vm vr vw,W.heap[b]?=some (.cells (ndA n vm vr (.slice a k c) (.slice a2 k2 c2) vw) 133 (0,0))∧Sv.Sl W (.slice a k c) n.sv∧Gw.Sl W (.slice a2 k2 c2) n.gw:=by
 obtain ⟨vm,vr,vs,vg,vw,h1,h2,h3,h4⟩:=h
 obtain ⟨a,c,hv,_⟩:=own_slice h2.sv
 obtain ⟨a2,c2,hv2,_⟩:=own_slice h2.gw
 subst hv hv2
 exact ⟨a,_,c,a2,_,c2,vm,vr,vw,h1,(h2.is h4).sv,(h2.is h4).gw⟩
end Go.Proofs.YtffdoiokmiklgaaGreatDoor
