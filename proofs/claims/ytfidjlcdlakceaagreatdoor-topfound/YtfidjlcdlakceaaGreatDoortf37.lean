import Derived.Test.YtfidjlcdlakceaaGreatDoortf36
import Derived.Test.YtfidjlcdlakceaaGreatDoortf30
set_option maxRecDepth 100000
open Go.Value renaming string→I,int→O,bool→AI
open Go.Proofs.Tryz renaming prog→be,underlying9→IE,underlying3→IG,underlying4→Jq
namespace Go.Proofs.YtfidjlcdlakceaaGreatDoor
namespace Gw
open Go.RowKit
end Gw
namespace Gw
open Go.RowKit
end Gw
namespace Gw
open Go.RowKit
def AtI(ms:List cD)(t:ByteArray)(r:Int):Prop:=
 (∃k:Nat,k<ms.length/\r=k/\(ms.getD k dm).ai=t)\/(r = -1/\∀j,j<ms.length->(ms.getD j dm).ai≠t)
theorem abl{ms:List cD}{t:cD}{r:Int}{p:Nat}{f:Bool}(hi:AtI ms t.ai r)(ha:At ms t p f)(hr:bO ms):(f=true->r=p)/\(f=false->r = -1):=by
 rcases hi with⟨k,hk,rfl,hn⟩|⟨rfl,hn⟩
 .obtain⟨rfl,rfl⟩:=eV ha (RL.ade ord dm keyed hr hk ((cU _ _).2 hn))
  exact⟨λ_=>rfl,λh=>by cases h⟩
 .refine⟨λh=>?_,λ_=>rfl⟩
  have:=ha.is.1 h;exact absurd ((cU _ _).1 this.2) (hn p this.1)
end Gw
namespace Sv
open Go.RowKit
end Sv
namespace Sv
open Go.RowKit
end Sv
namespace Sv
open Go.RowKit
end Sv
namespace Sv
open Go.RowKit
end Sv
namespace Gw
open Go.RowKit
end Gw
namespace Gw
open Go.RowKit
end Gw
namespace Gw
open Go.RowKit
end Gw
end Go.Proofs.YtfidjlcdlakceaaGreatDoor
namespace Go.Proofs.YtfidjlcdlakceaaGreatDoor
open Go.RowKit
namespace Sv
end Sv
namespace Gw
end Gw
abbrev svA(s:Sv.aI):Value:=.agg #[I s.node,I s.bF,I s.name,I s.tag,O .i64 s.addr,O .i64 s.port,AI s.au,O .i64 s.version,AI s.gone]
end Go.Proofs.YtfidjlcdlakceaaGreatDoor
namespace Go.Proofs.YtfidjlcdlakceaaGreatDoor
namespace Sv
open Go.ChangeShapes Go.WideShapes Go.ChangeAt Go.RowKit
section
variable {H:Type} {enc:TypeId × Value→H} {w:World} {base:Nat} {spare:Nat→Bool} {held:Bool}
theorem Tryz.kcT:Tryz.prog.cellsOf 52=9:=by kernel_rfl
theorem Tryz.kc9:Tryz.prog.cellsOf 9=1:=by kernel_rfl
theorem Tryz.kc3:Tryz.prog.cellsOf 3=1:=by kernel_rfl
theorem Tryz.kc4:Tryz.prog.cellsOf 4=1:=by kernel_rfl
theorem BD{fuel:Nat}{cs:List Value}{x:DataW H×List MemPlace}(h:DataW.trod enc be w base spare held fuel 52 cs=some x) :
 ∃m:aI,cs=[I m.node,I m.bF,I m.name,I m.tag,O .i64 m.addr,O .i64 m.port,AI m.au,O .i64 m.version,AI m.gone]/\(m).ok:=by
 obtain⟨xs,n,_,_,hl,hlen,hf⟩:=DataW.trod_struct Tryz.underlying52 h;rw[Tryz.kcT] at hl
 match cs,hl with
 |[c0,c1,c2,c3,c4,c5,c6,c7,c8],_=>
  match xs,hlen with
  |[y0,y1,y2,y3,y4,y5,y6,y7,y8],_=>
   have h0:=hf 0 _ rfl;have h1:=hf 1 _ rfl;have h2:=hf 2 _ rfl;have h3:=hf 3 _ rfl;have h4:=hf 4 _ rfl;have h5:=hf 5 _ rfl;have h6:=hf 6 _ rfl;have h7:=hf 7 _ rfl;have h8:=hf 8 _ rfl;simp[Tryz.kc9] at h0;simp[Tryz.kc9] at h1;simp[Tryz.kc9] at h2;simp[Tryz.kc9] at h3;simp[Tryz.kc3] at h4;simp[Tryz.kc3] at h5;simp[Tryz.kc4] at h6;simp[Tryz.kc3] at h7;simp[Tryz.kc4] at h8;obtain⟨z0,e0,_,g0⟩:=DataW.trod_string IE h0;obtain⟨z1,e1,_,g1⟩:=DataW.trod_string IE h1;obtain⟨z2,e2,_,g2⟩:=DataW.trod_string IE h2;obtain⟨z3,e3,_,g3⟩:=DataW.trod_string IE h3;obtain⟨z4,e4,_⟩:=DataW.trod_int IG h4;obtain⟨z5,e5,_⟩:=DataW.trod_int IG h5;obtain⟨z6,e6,_⟩:=DataW.trod_bool Jq h6;obtain⟨z7,e7,_⟩:=DataW.trod_int IG h7;obtain⟨z8,e8,_⟩:=DataW.trod_bool Jq h8;simp only[List.cons.injEq,and_true] at e0 e1 e2 e3 e4 e5 e6 e7 e8;subst e0 e1 e2 e3 e4 e5 e6 e7 e8;exact⟨⟨z0,z1,z2,z3,z4,z5,z6,z7,z8⟩,rfl,⟨g0,g1,g2,g3⟩⟩
end
end Sv
end Go.Proofs.YtfidjlcdlakceaaGreatDoor
namespace Go.Proofs.YtfidjlcdlakceaaGreatDoor
open Go.ChangeShapes Go.WideShapes Go.ChangeAt Go.RowKit
section
variable {H:Type} {enc:TypeId × Value→H} {w:World} {base:Nat} {spare:Nat→Bool} {held:Bool}
theorem Mn{r:Reach}{b0:Nat}{v:Value}{d:DataW H}{p:List MemPlace}(hv:Value.okWide be w r b0 52 v)(h:DataW.Trod enc be w base spare held 52 v d p) :
 ∃s:Sv.aI,v=svA s/\s.ok:=by
 obtain⟨cs,rfl,bA⟩:=okWide_struct Tryz.underlying52 hv;obtain⟨fuel,hf⟩:=h;obtain⟨s,hm,hs⟩:=Sv.BD hf;refine⟨s,?_,hs⟩;simp only[Value.cells] at hm;simp only[svA];congr 1;apply Array.ext';exact hm
end
end Go.Proofs.YtfidjlcdlakceaaGreatDoor
