import Derived.Test.YtfidhgjmifendaaGreatDoorns39
namespace Go.Proofs.YtfidhgjmifendaaGreatDoor
namespace Sv
open Go.RowKit
theorem Tf(m:aY):m.e=if bc m.node=true then(if bc m.bP=true then(if bc m.name=true then(if lU m.tag=true then(if within m.addr 0 4294967295=true then(if within m.port 0 65535=true then(if within m.version 1 1000000=true then 0 else 3) else 3) else 3) else 1) else 1) else 1) else 1:=by
 unfold aY.e;cases bc m.node<;>cases bc m.bP<;>cases bc m.name<;>cases lU m.tag<;>cases within m.addr 0 4294967295<;>cases within m.port 0 65535<;>cases within m.version 1 1000000<;>rfl
end Sv
namespace Sv
open Go.RowKit
end Sv
namespace Sv
open Go.RowKit
end Sv
namespace Sv
open Go.RowKit
theorem K8{a b:aY}:ord a b=0↔a.node=b.node/\a.bP=b.bP:=by
 constructor
 .intro h
  obtain⟨h1,h2⟩:=RL.fy h;exact⟨(bQ _ _).1 h1,(bQ _ _).1 h2⟩
 .rintro⟨h1,h2⟩
  show(if bR a.node b.node=0 then bR a.bP b.bP else bR a.node b.node)=0;rw[if_pos ((bQ _ _).2 h1)];exact(bQ _ _).2 h2
theorem K9{ms:List aY}{m:aY}{p:Nat}{f:Bool}(h:At ms m p f)(hn:f=true->bT m (ms.getD p dm)=true):RL.put ms m p f=aO ms m:=(RL.Ha ord bT dm h hn).symm
end Sv
end Go.Proofs.YtfidhgjmifendaaGreatDoor
