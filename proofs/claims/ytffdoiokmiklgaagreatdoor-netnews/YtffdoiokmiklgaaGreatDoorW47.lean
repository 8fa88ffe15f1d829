import Derived.Test.YtffdoiokmiklgaaGreatDoorW1
import Derived.Deep.Slices
import Derived.Lib.SmallJoins
import Derived.ProofKit
import Derived.OpenShut
import Derived.Handed
import Derived.Test.YtffdoiokmiklgaaGreatDoorW5
import Derived.Test.YtffdoiokmiklgaaGreatDoorW15
import Derived.Test.YtffdoiokmiklgaaGreatDoorW30
import Derived.Test.YtffdoiokmiklgaaGreatDoorW36
namespace Go.Proofs.YtffdoiokmiklgaaGreatDoor
namespace Sv
open Go.ChangeShapes Go.WideShapes Go.ChangeAt Go.RowKit
section
variable {H:Type} {enc:TypeId × Value→H} {w:World} {base:Nat} {spare:Nat→Bool} {held:Bool}
theorem Tryz.kcT:Tryz.prog.cellsOf 42=9:=by kernel_rfl
theorem Tryz.kc9:Tryz.prog.cellsOf 9=1:=by kernel_rfl
theorem Tryz.kc3:Tryz.prog.cellsOf 3=1:=by kernel_rfl
theorem Tryz.kc4:Tryz.prog.cellsOf 4=1:=by kernel_rfl
set_option maxRecDepth 100000 in
theorem elT_of_trod {fuel:Nat} {cs:List Value} {x:DataW H × List MemPlace} (h:DataW.trod enc Tryz.prog w base spare held fuel 42 cs=some x) :
 ∃ m:Svc,cs=[.string m.node,.string m.idn,.string m.name,.string m.tag,.int .i64 m.addr,.int .i64 m.port,.bool m.passing,.int .i64 m.version,.bool m.gone]∧(m).ok:=by
 obtain ⟨xs,n,_,_,hl,hlen,hf⟩:=DataW.trod_struct Tryz.underlying42 h
 rw [Tryz.kcT] at hl
 match cs,hl with
 | [c0,c1,c2,c3,c4,c5,c6,c7,c8],_=>
   match xs,hlen with
   | [y0,y1,y2,y3,y4,y5,y6,y7,y8],_=>
     have h0:=hf 0 _ rfl
     have h1:=hf 1 _ rfl
     have h2:=hf 2 _ rfl
     have h3:=hf 3 _ rfl
     have h4:=hf 4 _ rfl
     have h5:=hf 5 _ rfl
     have h6:=hf 6 _ rfl
     have h7:=hf 7 _ rfl
     have h8:=hf 8 _ rfl
     simp [Tryz.kc9] at h0
     simp [Tryz.kc9] at h1
     simp [Tryz.kc9] at h2
     simp [Tryz.kc9] at h3
     simp [Tryz.kc3] at h4
     simp [Tryz.kc3] at h5
     simp [Tryz.kc4] at h6
     simp [Tryz.kc3] at h7
     simp [Tryz.kc4] at h8
     obtain ⟨z0,e0,_,g0⟩:=DataW.trod_string Tryz.underlying9 h0
     obtain ⟨z1,e1,_,g1⟩:=DataW.trod_string Tryz.underlying9 h1
     obtain ⟨z2,e2,_,g2⟩:=DataW.trod_string Tryz.underlying9 h2
     obtain ⟨z3,e3,_,g3⟩:=DataW.trod_string Tryz.underlying9 h3
     obtain ⟨z4,e4,_⟩:=DataW.trod_int Tryz.underlying3 h4
     obtain ⟨z5,e5,_⟩:=DataW.trod_int Tryz.underlying3 h5
     obtain ⟨z6,e6,_⟩:=DataW.trod_bool Tryz.underlying4 h6
     obtain ⟨z7,e7,_⟩:=DataW.trod_int Tryz.underlying3 h7
     obtain ⟨z8,e8,_⟩:=DataW.trod_bool Tryz.underlying4 h8
     simp only [List.cons.injEq,and_true] at e0 e1 e2 e3 e4 e5 e6 e7 e8
     subst e0 e1 e2 e3 e4 e5 e6 e7 e8
     exact ⟨⟨z0,z1,z2,z3,z4,z5,z6,z7,z8⟩,rfl,⟨g0,g1,g2,g3⟩⟩
set_option maxRecDepth 100000 in
theorem elsT_of_trod {fuel:Nat} {cs:List Value} {x:DataW H × List MemPlace} (h:DataW.trod enc Tryz.prog w base spare held fuel 47 cs=some x) :
 ∃ (p:Option Addr) (n c:Nat) (ms:List Svc),cs=[.slice p n c]∧Sl w (.slice p n c) ms∧ms.length≤maxLen:=by
 rcases Go.Deep.open_slice Tryz.underlying47 h with ⟨hcs,_⟩ | ⟨x,len,cap,m,n,D,Pl,hcs,hb,hl,hm,hmm,_,hx⟩
 ·exact ⟨none,0,0,[],hcs,⟨none,0,rfl,ns_get (by simp),.inl rfl⟩,by simp⟩
 ·have hlm:len≤m:=by rw [hmm];split<;>omega
  have hall:∀ i,i < len→∃ q:Svc,(∀ t,t < 9→w.cell? (x.add (i * 9+t))=q.cs[t]?)∧(q).ok:=fun i hi=>by
   obtain ⟨cs',h1,h2⟩:=hx i (by omega)
   obtain ⟨q,hq,hs⟩:=elT_of_trod h2
   rw [Tryz.kcT] at h1
   obtain ⟨_,_,h3⟩:=World.cells?_some h1
   refine ⟨q,fun t ht=>?_,hs⟩
   rw [← Go.Deep.add_add,h3 t ht,hq]
   rfl
  have hinh:Inhabited Svc:=⟨dm⟩
  obtain ⟨F,hF⟩:=Go.Deep.choose_lt (α:=Svc) (p:=fun i q=>(∀ t,t < 9→w.cell? (x.add (i * 9+t))=q.cs[t]?)∧(q).ok) hall
  have hget:∀ j,j < len→((List.range len).map F).getD j dm=F j:=fun j hj=>by simp [List.getD,hj]
  refine ⟨some x,len,cap,(List.range len).map F,hcs,⟨some x,cap,by simp,ns_get (fun q hq=>?_),?_⟩,by simp;omega⟩
  ·obtain ⟨j,hj,rfl⟩:=List.mem_map.1 hq
   exact (hF j (List.mem_range.1 hj)).2
  ·by_cases h0:len=0
   ·left;simp [h0]
   ·right
    obtain ⟨b,off,spot⟩:=x
    have hc0:=(hF 0 (by omega)).1 0 (by omega)
    have hspot:spot=none:=by simpa [Addr.add] using World.cell?_spot hc0
    subst hspot
    have hcell:∀ j,j < len→∀ t,t < 9→w.cell? ⟨b,off+j * 9+t,none⟩=(F j).cs[t]?:=fun j hj t ht=>by
     have:=(hF j hj).1 t ht
     rwa [Go.WideShapes.add_plain,← Nat.add_assoc] at this
    refine ⟨b,off,rfl,World.block_lt_of_cell? w ⟨b,off+0 * 9+0,none⟩ (hcell 0 (by omega) 0 (by omega)),fun j hj=>?_⟩
    have hj':j < len:=by simpa using hj
    rw [hget j hj']
    exact ⟨hcell j hj' 0 (by omega),hcell j hj' 1 (by omega),hcell j hj' 2 (by omega),hcell j hj' 3 (by omega),hcell j hj' 4 (by omega),hcell j hj' 5 (by omega),hcell j hj' 6 (by omega),hcell j hj' 7 (by omega),hcell j hj' 8 (by omega)⟩
end
end Sv
end Go.Proofs.YtffdoiokmiklgaaGreatDoor
namespace Go.Proofs.YtffdoiokmiklgaaGreatDoor
open Go.ChangeShapes Go.WideShapes Go.ChangeAt Go.RowKit
section
variable {H:Type} {enc:TypeId × Value→H} {w:World} {base:Nat} {spare:Nat→Bool} {held:Bool}
theorem Tryz.kcT:Tryz.prog.cellsOf 56=5:=by kernel_rfl
theorem Tryz.kc9:Tryz.prog.cellsOf 9=1:=by kernel_rfl
theorem Tryz.kc3:Tryz.prog.cellsOf 3=1:=by kernel_rfl
theorem Tryz.kc4:Tryz.prog.cellsOf 4=1:=by kernel_rfl
set_option maxRecDepth 100000 in
theorem elT_of_trod {fuel:Nat} {cs:List Value} {x:DataW H × List MemPlace} (h:DataW.trod enc Tryz.prog w base spare held fuel 56 cs=some x) :
 ∃ m:Mem,cs=[.string m.name,.int .i64 m.state,.int .i64 m.life,.int .i64 m.addr,.bool m.server]∧(m).name.size≤maxLen:=by
 obtain ⟨xs,n,_,_,hl,hlen,hf⟩:=DataW.trod_struct Tryz.underlying56 h
 rw [Tryz.kcT] at hl
 match cs,hl with
 | [c0,c1,c2,c3,c4],_=>
   match xs,hlen with
   | [y0,y1,y2,y3,y4],_=>
     have h0:=hf 0 _ rfl
     have h1:=hf 1 _ rfl
     have h2:=hf 2 _ rfl
     have h3:=hf 3 _ rfl
     have h4:=hf 4 _ rfl
     simp [Tryz.kc9] at h0
     simp [Tryz.kc3] at h1
     simp [Tryz.kc3] at h2
     simp [Tryz.kc3] at h3
     simp [Tryz.kc4] at h4
     obtain ⟨z0,e0,_,g0⟩:=DataW.trod_string Tryz.underlying9 h0
     obtain ⟨z1,e1,_⟩:=DataW.trod_int Tryz.underlying3 h1
     obtain ⟨z2,e2,_⟩:=DataW.trod_int Tryz.underlying3 h2
     obtain ⟨z3,e3,_⟩:=DataW.trod_int Tryz.underlying3 h3
     obtain ⟨z4,e4,_⟩:=DataW.trod_bool Tryz.underlying4 h4
     simp only [List.cons.injEq,and_true] at e0 e1 e2 e3 e4
     subst e0 e1 e2 e3 e4
     exact ⟨⟨z0,z1,z2,z3,z4⟩,rfl,g0⟩
set_option maxRecDepth 100000 in
theorem elsT_of_trod {fuel:Nat} {cs:List Value} {x:DataW H × List MemPlace} (h:DataW.trod enc Tryz.prog w base spare held fuel 45 cs=some x) :
 ∃ (p:Option Addr) (n c:Nat) (ms:List Mem),cs=[.slice p n c]∧Sl w (.slice p n c) ms∧ms.length≤maxLen:=by
 rcases Go.Deep.open_slice Tryz.underlying45 h with ⟨hcs,_⟩ | ⟨x,len,cap,m,n,D,Pl,hcs,hb,hl,hm,hmm,_,hx⟩
 ·exact ⟨none,0,0,[],hcs,⟨none,0,rfl,ns_get (by simp),.inl rfl⟩,by simp⟩
 ·have hlm:len≤m:=by rw [hmm];split<;>omega
  have hall:∀ i,i < len→∃ q:Mem,(∀ t,t < 5→w.cell? (x.add (i * 5+t))=q.cs[t]?)∧(q).name.size≤maxLen:=fun i hi=>by
   obtain ⟨cs',h1,h2⟩:=hx i (by omega)
   obtain ⟨q,hq,hs⟩:=elT_of_trod h2
   rw [Tryz.kcT] at h1
   obtain ⟨_,_,h3⟩:=World.cells?_some h1
   refine ⟨q,fun t ht=>?_,hs⟩
   rw [← Go.Deep.add_add,h3 t ht,hq]
   rfl
  have hinh:Inhabited Mem:=⟨dm⟩
  obtain ⟨F,hF⟩:=Go.Deep.choose_lt (α:=Mem) (p:=fun i q=>(∀ t,t < 5→w.cell? (x.add (i * 5+t))=q.cs[t]?)∧(q).name.size≤maxLen) hall
  have hget:∀ j,j < len→((List.range len).map F).getD j dm=F j:=fun j hj=>by simp [List.getD,hj]
  refine ⟨some x,len,cap,(List.range len).map F,hcs,⟨some x,cap,by simp,ns_get (fun q hq=>?_),?_⟩,by simp;omega⟩
  ·obtain ⟨j,hj,rfl⟩:=List.mem_map.1 hq
   exact (hF j (List.mem_range.1 hj)).2
  ·by_cases h0:len=0
   ·left;simp [h0]
   ·right
    obtain ⟨b,off,spot⟩:=x
    have hc0:=(hF 0 (by omega)).1 0 (by omega)
    have hspot:spot=none:=by simpa [Addr.add] using World.cell?_spot hc0
    subst hspot
    have hcell:∀ j,j < len→∀ t,t < 5→w.cell? ⟨b,off+j * 5+t,none⟩=(F j).cs[t]?:=fun j hj t ht=>by
     have:=(hF j hj).1 t ht
     rwa [Go.WideShapes.add_plain,← Nat.add_assoc] at this
    refine ⟨b,off,rfl,World.block_lt_of_cell? w ⟨b,off+0 * 5+0,none⟩ (hcell 0 (by omega) 0 (by omega)),fun j hj=>?_⟩
    have hj':j < len:=by simpa using hj
    rw [hget j hj']
    exact ⟨hcell j hj' 0 (by omega),hcell j hj' 1 (by omega),hcell j hj' 2 (by omega),hcell j hj' 3 (by omega),hcell j hj' 4 (by omega)⟩
end
end Go.Proofs.YtffdoiokmiklgaaGreatDoor
namespace Go.Proofs.YtffdoiokmiklgaaGreatDoor
namespace Gw
open Go.ChangeShapes Go.WideShapes Go.ChangeAt Go.RowKit
section
variable {H:Type} {enc:TypeId × Value→H} {w:World} {base:Nat} {spare:Nat→Bool} {held:Bool}
theorem Tryz.kcT:Tryz.prog.cellsOf 107=3:=by kernel_rfl
theorem Tryz.kc9:Tryz.prog.cellsOf 9=1:=by kernel_rfl
theorem Tryz.kc3:Tryz.prog.cellsOf 3=1:=by kernel_rfl
theorem Tryz.kc4:Tryz.prog.cellsOf 4=1:=by kernel_rfl
set_option maxRecDepth 100000 in
theorem elT_of_trod {fuel:Nat} {cs:List Value} {x:DataW H × List MemPlace} (h:DataW.trod enc Tryz.prog w base spare held fuel 107 cs=some x) :
 ∃ m:Gwy,cs=[.string m.centre,.int .i64 m.addr,.int .i64 m.version]∧(m).ok:=by
 obtain ⟨xs,n,_,_,hl,hlen,hf⟩:=DataW.trod_struct Tryz.underlying107 h
 rw [Tryz.kcT] at hl
 match cs,hl with
 | [c0,c1,c2],_=>
   match xs,hlen with
   | [y0,y1,y2],_=>
     have h0:=hf 0 _ rfl
     have h1:=hf 1 _ rfl
     have h2:=hf 2 _ rfl
     simp [Tryz.kc9] at h0
     simp [Tryz.kc3] at h1
     simp [Tryz.kc3] at h2
     obtain ⟨z0,e0,_,g0⟩:=DataW.trod_string Tryz.underlying9 h0
     obtain ⟨z1,e1,_⟩:=DataW.trod_int Tryz.underlying3 h1
     obtain ⟨z2,e2,_⟩:=DataW.trod_int Tryz.underlying3 h2
     simp only [List.cons.injEq,and_true] at e0 e1 e2
     subst e0 e1 e2
     exact ⟨⟨z0,z1,z2⟩,rfl,g0⟩
set_option maxRecDepth 100000 in
theorem elsT_of_trod {fuel:Nat} {cs:List Value} {x:DataW H × List MemPlace} (h:DataW.trod enc Tryz.prog w base spare held fuel 48 cs=some x) :
 ∃ (p:Option Addr) (n c:Nat) (ms:List Gwy),cs=[.slice p n c]∧Sl w (.slice p n c) ms∧ms.length≤maxLen:=by
 rcases Go.Deep.open_slice Tryz.underlying48 h with ⟨hcs,_⟩ | ⟨x,len,cap,m,n,D,Pl,hcs,hb,hl,hm,hmm,_,hx⟩
 ·exact ⟨none,0,0,[],hcs,⟨none,0,rfl,ns_get (by simp),.inl rfl⟩,by simp⟩
 ·have hlm:len≤m:=by rw [hmm];split<;>omega
  have hall:∀ i,i < len→∃ q:Gwy,(∀ t,t < 3→w.cell? (x.add (i * 3+t))=q.cs[t]?)∧(q).ok:=fun i hi=>by
   obtain ⟨cs',h1,h2⟩:=hx i (by omega)
   obtain ⟨q,hq,hs⟩:=elT_of_trod h2
   rw [Tryz.kcT] at h1
   obtain ⟨_,_,h3⟩:=World.cells?_some h1
   refine ⟨q,fun t ht=>?_,hs⟩
   rw [← Go.Deep.add_add,h3 t ht,hq]
   rfl
  have hinh:Inhabited Gwy:=⟨dm⟩
  obtain ⟨F,hF⟩:=Go.Deep.choose_lt (α:=Gwy) (p:=fun i q=>(∀ t,t < 3→w.cell? (x.add (i * 3+t))=q.cs[t]?)∧(q).ok) hall
  have hget:∀ j,j < len→((List.range len).map F).getD j dm=F j:=fun j hj=>by simp [List.getD,hj]
  refine ⟨some x,len,cap,(List.range len).map F,hcs,⟨some x,cap,by simp,ns_get (fun q hq=>?_),?_⟩,by simp;omega⟩
  ·obtain ⟨j,hj,rfl⟩:=List.mem_map.1 hq
   exact (hF j (List.mem_range.1 hj)).2
  ·by_cases h0:len=0
   ·left;simp [h0]
   ·right
    obtain ⟨b,off,spot⟩:=x
    have hc0:=(hF 0 (by omega)).1 0 (by omega)
    have hspot:spot=none:=by simpa [Addr.add] using World.cell?_spot hc0
    subst hspot
    have hcell:∀ j,j < len→∀ t,t < 3→w.cell? ⟨b,off+j * 3+t,none⟩=(F j).cs[t]?:=fun j hj t ht=>by
     have:=(hF j hj).1 t ht
     rwa [Go.WideShapes.add_plain,← Nat.add_assoc] at this
    refine ⟨b,off,rfl,World.block_lt_of_cell? w ⟨b,off+0 * 3+0,none⟩ (hcell 0 (by omega) 0 (by omega)),fun j hj=>?_⟩
    have hj':j < len:=by simpa using hj
    rw [hget j hj']
    exact ⟨hcell j hj' 0 (by omega),hcell j hj' 1 (by omega),hcell j hj' 2 (by omega)⟩
end
end Gw
namespace Wh
open Go.ChangeShapes Go.WideShapes Go.ChangeAt Go.RowKit
section
variable {H:Type} {enc:TypeId × Value→H} {w:World} {base:Nat} {spare:Nat→Bool} {held:Bool}
theorem Tryz.kcT:Tryz.prog.cellsOf 109=6:=by kernel_rfl
theorem Tryz.kc9:Tryz.prog.cellsOf 9=1:=by kernel_rfl
theorem Tryz.kc3:Tryz.prog.cellsOf 3=1:=by kernel_rfl
theorem Tryz.kc4:Tryz.prog.cellsOf 4=1:=by kernel_rfl
theorem kcP:Tryz.prog.cellsOf 40=5:=by kernel_rfl
set_option maxRecDepth 100000 in
theorem plT_of_trod {fuel:Nat} {cs:List Value} {x:DataW H × List MemPlace} (h:DataW.trod enc Tryz.prog w base spare held fuel 40 cs=some x) :
 ∃ a b c d e:Int,cs=[.int .i64 a,.int .i64 b,.int .i64 c,.int .i64 d,.int .i64 e]:=by
 obtain ⟨xs,n,_,_,hl,hlen,hf⟩:=DataW.trod_struct Tryz.underlying40 h
 rw [kcP] at hl
 match cs,hl with
 | [c0,c1,c2,c3,c4],_=>
   match xs,hlen with
   | [y0,y1,y2,y3,y4],_=>
     have h0:=hf 0 _ rfl
     have h1:=hf 1 _ rfl
     have h2:=hf 2 _ rfl
     have h3:=hf 3 _ rfl
     have h4:=hf 4 _ rfl
     simp [Tryz.kc3] at h0
     simp [Tryz.kc3] at h1
     simp [Tryz.kc3] at h2
     simp [Tryz.kc3] at h3
     simp [Tryz.kc3] at h4
     obtain ⟨a,e0,_,_⟩:=DataW.trod_int Tryz.underlying3 h0
     obtain ⟨b,e1,_,_⟩:=DataW.trod_int Tryz.underlying3 h1
     obtain ⟨c,e2,_,_⟩:=DataW.trod_int Tryz.underlying3 h2
     obtain ⟨d,e3,_,_⟩:=DataW.trod_int Tryz.underlying3 h3
     obtain ⟨e,e4,_,_⟩:=DataW.trod_int Tryz.underlying3 h4
     simp only [List.cons.injEq,and_true] at e0 e1 e2 e3 e4
     subst e0 e1 e2 e3 e4
     exact ⟨a,b,c,d,e,rfl⟩
set_option maxRecDepth 100000 in
theorem elT_of_trod {fuel:Nat} {cs:List Value} {x:DataW H × List MemPlace} (h:DataW.trod enc Tryz.prog w base spare held fuel 109 cs=some x) :
 ∃ m:Whe,cs=m.cs∧m.ok:=by
 obtain ⟨xs,n,_,_,hl,hlen,hf⟩:=DataW.trod_struct Tryz.underlying109 h
 rw [Tryz.kcT] at hl
 match cs,hl with
 | [c0,c1,c2,c3,c4,c5],_=>
   match xs,hlen with
   | [y0,y1],_=>
     have h0:=hf 0 _ rfl
     have h1:=hf 1 _ rfl
     simp [Tryz.kc9] at h0
     simp [kcP] at h1
     obtain ⟨s,e0,_,w0⟩:=DataW.trod_string Tryz.underlying9 h0
     obtain ⟨a,b,c,d,e,e1⟩:=plT_of_trod h1
     simp only [List.cons.injEq,and_true] at e0 e1
     obtain ⟨r1,r2,r3,r4,r5⟩:=e1
     subst e0 r1 r2 r3 r4 r5
     exact ⟨⟨s,a,b,c,d,e⟩,rfl,w0⟩
set_option maxRecDepth 100000 in
theorem elsT_of_trod {fuel:Nat} {cs:List Value} {x:DataW H × List MemPlace} (h:DataW.trod enc Tryz.prog w base spare held fuel 49 cs=some x) :
 ∃ (p:Option Addr) (n c:Nat) (ms:List Whe),cs=[.slice p n c]∧Sl w (.slice p n c) ms∧ms.length≤maxLen:=by
 rcases Go.Deep.open_slice Tryz.underlying49 h with ⟨hcs,_⟩ | ⟨x,len,cap,m,n,D,Pl,hcs,hb,hl,hm,hmm,_,hx⟩
 ·exact ⟨none,0,0,[],hcs,⟨none,0,rfl,ns_get (by simp),.inl rfl⟩,by simp⟩
 ·have hlm:len≤m:=by rw [hmm];split<;>omega
  have hall:∀ i,i < len→∃ q:Whe,(∀ t,t < 6→w.cell? (x.add (i * 6+t))=q.cs[t]?)∧(q).ok:=fun i hi=>by
   obtain ⟨cs',h1,h2⟩:=hx i (by omega)
   obtain ⟨q,hq,hs⟩:=elT_of_trod h2
   rw [Tryz.kcT] at h1
   obtain ⟨_,_,h3⟩:=World.cells?_some h1
   refine ⟨q,fun t ht=>?_,hs⟩
   rw [← Go.Deep.add_add,h3 t ht,hq]
  have hinh:Inhabited Whe:=⟨dm⟩
  obtain ⟨F,hF⟩:=Go.Deep.choose_lt (α:=Whe) (p:=fun i q=>(∀ t,t < 6→w.cell? (x.add (i * 6+t))=q.cs[t]?)∧(q).ok) hall
  have hget:∀ j,j < len→((List.range len).map F).getD j dm=F j:=fun j hj=>by simp [List.getD,hj]
  refine ⟨some x,len,cap,(List.range len).map F,hcs,⟨some x,cap,by simp,ns_get (fun q hq=>?_),?_⟩,by simp;omega⟩
  ·obtain ⟨j,hj,rfl⟩:=List.mem_map.1 hq
   exact (hF j (List.mem_range.1 hj)).2
  ·by_cases h0:len=0
   ·left;simp [h0]
   ·right
    obtain ⟨b,off,spot⟩:=x
    have hc0:=(hF 0 (by omega)).1 0 (by omega)
    have hspot:spot=none:=by simpa [Addr.add] using World.cell?_spot hc0
    subst hspot
    have hcell:∀ j,j < len→∀ t,t < 6→w.cell? ⟨b,off+j * 6+t,none⟩=(F j).cs[t]?:=fun j hj t ht=>by
     have:=(hF j hj).1 t ht
     rwa [Go.WideShapes.add_plain,← Nat.add_assoc] at this
    refine ⟨b,off,rfl,World.block_lt_of_cell? w ⟨b,off+0 * 6+0,none⟩ (hcell 0 (by omega) 0 (by omega)),fun j hj=>?_⟩
    have hj':j < len:=by simpa using hj
    rw [hget j hj']
    exact ⟨hcell j hj' 0 (by omega),hcell j hj' 1 (by omega),hcell j hj' 2 (by omega),hcell j hj' 3 (by omega),hcell j hj' 4 (by omega),hcell j hj' 5 (by omega)⟩
end
end Wh
theorem Tryz.kcS:Tryz.prog.cellsOf 47=1:=by kernel_rfl
theorem Tryz.kcM:Tryz.prog.cellsOf 45=1:=by kernel_rfl
theorem Tryz.kcW:Tryz.prog.cellsOf 49=1:=by kernel_rfl
theorem Tryz.kcG:Tryz.prog.cellsOf 48=1:=by kernel_rfl
end Go.Proofs.YtffdoiokmiklgaaGreatDoor
namespace Go.Proofs.YtffdoiokmiklgaaGreatDoor
open Go.ChangeShapes Go.WideShapes Go.ChangeAt Go.RowKit
section
variable {H:Type} {enc:TypeId × Value→H} {w:World} {base:Nat} {spare:Nat→Bool} {held:Bool}
theorem Tryz.kcR:Tryz.prog.cellsOf 98=6:=by kernel_rfl
theorem Tryz.kcRs:Tryz.prog.cellsOf 46=1:=by kernel_rfl
theorem Tryz.kcN:Tryz.prog.cellsOf 51=12:=by kernel_rfl
theorem Tryz.kcMm:Tryz.prog.cellsOf 56=5:=by kernel_rfl
set_option maxRecDepth 100000 in
theorem relT_of_trod {fuel:Nat} {cs:List Value} {x:DataW H × List MemPlace} (h:DataW.trod enc Tryz.prog w base spare held fuel 98 cs=some x) :
 ∃ m:Rum,cs=m.cs∧m.m.name.size≤maxLen:=by
 obtain ⟨xs,n,_,_,hl,hlen,hf⟩:=DataW.trod_struct Tryz.underlying98 h
 rw [Tryz.kcR] at hl
 match cs,hl with
 | [c0,c1,c2,c3,c4,c5],_=>
   match xs,hlen with
   | [y0,y1],_=>
     have h0:=hf 0 _ rfl
     have h1:=hf 1 _ rfl
     simp [Tryz.kcMm] at h0
     simp [Tryz.kc3] at h1
     obtain ⟨m,e0,w0⟩:=elT_of_trod h0
     obtain ⟨t,e1,_,_⟩:=DataW.trod_int Tryz.underlying3 h1
     simp only [List.cons.injEq,and_true] at e0 e1
     obtain ⟨r1,r2,r3,r4,r5⟩:=e0
     subst r1 r2 r3 r4 r5 e1
     exact ⟨⟨m,t⟩,rfl,w0⟩
set_option maxRecDepth 100000 in
theorem relsT_of_trod {fuel:Nat} {cs:List Value} {x:DataW H × List MemPlace} (h:DataW.trod enc Tryz.prog w base spare held fuel 46 cs=some x) :
 ∃ (p:Option Addr) (n c:Nat) (ms:List Rum),cs=[.slice p n c]∧RSl w (.slice p n c) ms∧ms.length≤maxLen:=by
 rcases Go.Deep.open_slice Tryz.underlying46 h with ⟨hcs,_⟩ | ⟨x,len,cap,m,n,D,Pl,hcs,hb,hl,hm,hmm,_,hx⟩
 ·exact ⟨none,0,0,[],hcs,⟨none,0,rfl,rns_get (by simp),.inl rfl⟩,by simp⟩
 ·have hlm:len≤m:=by rw [hmm];split<;>omega
  have hall:∀ i,i < len→∃ q:Rum,(∀ t,t < 6→w.cell? (x.add (i * 6+t))=q.cs[t]?)∧(q).m.name.size≤maxLen:=fun i hi=>by
   obtain ⟨cs',h1,h2⟩:=hx i (by omega)
   obtain ⟨q,hq,hs⟩:=relT_of_trod h2
   rw [Tryz.kcR] at h1
   obtain ⟨_,_,h3⟩:=World.cells?_some h1
   refine ⟨q,fun t ht=>?_,hs⟩
   rw [← Go.Deep.add_add,h3 t ht,hq]
  have hinh:Inhabited Rum:=⟨dr⟩
  obtain ⟨F,hF⟩:=Go.Deep.choose_lt (α:=Rum) (p:=fun i q=>(∀ t,t < 6→w.cell? (x.add (i * 6+t))=q.cs[t]?)∧(q).m.name.size≤maxLen) hall
  have hget:∀ j,j < len→((List.range len).map F).getD j dr=F j:=fun j hj=>by simp [List.getD,hj]
  refine ⟨some x,len,cap,(List.range len).map F,hcs,⟨some x,cap,by simp,rns_get (fun q hq=>?_),?_⟩,by simp;omega⟩
  ·obtain ⟨j,hj,rfl⟩:=List.mem_map.1 hq
   exact (hF j (List.mem_range.1 hj)).2
  ·by_cases h0:len=0
   ·left;simp [h0]
   ·right
    obtain ⟨b,off,spot⟩:=x
    have hc0:=(hF 0 (by omega)).1 0 (by omega)
    have hspot:spot=none:=by simpa [Addr.add] using World.cell?_spot hc0
    subst hspot
    have hcell:∀ j,j < len→∀ t,t < 6→w.cell? ⟨b,off+j * 6+t,none⟩=(F j).cs[t]?:=fun j hj t ht=>by
     have:=(hF j hj).1 t ht
     rwa [Go.WideShapes.add_plain,← Nat.add_assoc] at this
    refine ⟨b,off,rfl,World.block_lt_of_cell? w ⟨b,off+0 * 6+0,none⟩ (hcell 0 (by omega) 0 (by omega)),fun j hj=>?_⟩
    have hj':j < len:=by simpa using hj
    rw [hget j hj']
    exact ⟨hcell j hj' 0 (by omega),hcell j hj' 1 (by omega),hcell j hj' 2 (by omega),hcell j hj' 3 (by omega),hcell j hj' 4 (by omega),hcell j hj' 5 (by omega)⟩
set_option maxRecDepth 100000 in
theorem nd_of_trod {fuel:Nat} {cs:List Value} {x:DataW H × List MemPlace} (h:DataW.trod enc Tryz.prog w base spare held fuel 51 cs=some x) :
 ∃ (n:Nd) (vm vr vs vg vw:Value),cs=(ndA n vm vr vs vg vw).toList∧NdIs w n vm vr vs vg vw:=by
 obtain ⟨xs,n,_,_,hl,hlen,hf⟩:=DataW.trod_struct Tryz.underlying51 h
 rw [Tryz.kcN] at hl
 match cs,hl with
 | [c0,c1,c2,c3,c4,c5,c6,c7,c8,c9,c10,c11],_=>
   match xs,hlen with
   | [y0,y1,y2,y3,y4,y5,y6,y7],_=>
     have h0:=hf 0 _ rfl
     have h1:=hf 1 _ rfl
     have h2:=hf 2 _ rfl
     have h3:=hf 3 _ rfl
     have h4:=hf 4 _ rfl
     have h5:=hf 5 _ rfl
     have h6:=hf 6 _ rfl
     have h7:=hf 7 _ rfl
     simp [Tryz.kc9] at h0
     simp [Tryz.kc9] at h1
     simp [Tryz.kcM] at h2
     simp [Tryz.kcRs] at h3
     simp [Tryz.kcS] at h4
     simp [Tryz.kcG] at h5
     simp [Wh.kcP] at h6
     simp [Tryz.kcW] at h7
     obtain ⟨s,e0,_,w0⟩:=DataW.trod_string Tryz.underlying9 h0
     obtain ⟨t,e1,_,w1⟩:=DataW.trod_string Tryz.underlying9 h1
     obtain ⟨pm,nm,cm,ms,e2,k2,_⟩:=elsT_of_trod h2
     obtain ⟨pr,nr,cr,rs,e3,k3,_⟩:=relsT_of_trod h3
     obtain ⟨ps,ns,cn,sv,e4,k4,_⟩:=Sv.elsT_of_trod h4
     obtain ⟨pg,ng,cg,gw,e5,k5,_⟩:=Gw.elsT_of_trod h5
     obtain ⟨a,b,c,d,e,e6⟩:=Wh.plT_of_trod h6
     obtain ⟨pw,nw,cw,wh,e7,k7,_⟩:=Wh.elsT_of_trod h7
     simp only [List.cons.injEq,and_true] at e0 e1 e2 e3 e4 e5 e6 e7
     obtain ⟨r1,r2,r3,r4,r5⟩:=e6
     subst e0 e1 e2 e3 e4 e5 r1 r2 r3 r4 r5 e7
     exact ⟨⟨s,t,ms,rs,sv,gw,⟨a,b,c,d,e⟩,wh⟩,_,_,_,_,_,rfl,k2,k3,k4,k5,k7,w0,w1⟩
end
section
variable {H:Type} {enc:TypeId × Value→H} {w:World} {base:Nat} {spare:Nat→Bool} {held:Bool}
set_option maxRecDepth 100000 in
theorem nds_of_trod {fuel:Nat} {cs:List Value} {x:DataW H × List MemPlace} (h:DataW.trod enc Tryz.prog w base spare held fuel 22 cs=some x) :
 ∃ (p:Option Addr) (n c:Nat) (ns:List Nd),cs=[.slice p n c]∧NSl w (.slice p n c) ns:=by
 rcases Go.Deep.open_slice Tryz.underlying22 h with ⟨hcs,_⟩ | ⟨x,len,cap,m,n,D,Pl,hcs,hb,hl,hm,hmm,_,hx⟩
 ·exact ⟨none,0,0,[],hcs,⟨none,0,rfl,.inl rfl⟩⟩
 ·have hlm:len≤m:=by rw [hmm];split<;>omega
  have hall:∀ i,i < len→∃ q:Nd,∃ vm vr vs vg vw,NdIs w q vm vr vs vg vw∧∀ t,t < 12→w.cell? (x.add (i * 12+t))=(ndA q vm vr vs vg vw)[t]?:=fun i hi=>by
   obtain ⟨cs',h1,h2⟩:=hx i (by omega)
   obtain ⟨q,vm,vr,vs,vg,vw,hq,hs⟩:=nd_of_trod h2
   rw [Tryz.kcN] at h1
   obtain ⟨_,_,h3⟩:=World.cells?_some h1
   refine ⟨q,vm,vr,vs,vg,vw,hs,fun t ht=>?_⟩
   rw [← Go.Deep.add_add,h3 t ht,hq,Array.getElem?_toList]
  have hinh:Inhabited Nd:=⟨ndZ⟩
  obtain ⟨F,hF⟩:=Go.Deep.choose_lt (α:=Nd) (p:=fun i q=>∃ vm vr vs vg vw,NdIs w q vm vr vs vg vw∧∀ t,t < 12→w.cell? (x.add (i * 12+t))=(ndA q vm vr vs vg vw)[t]?) hall
  have hget:∀ j,j < len→((List.range len).map F).getD j ndZ=F j:=fun j hj=>by simp [List.getD,hj]
  refine ⟨some x,len,cap,(List.range len).map F,hcs,⟨some x,cap,by simp,?_⟩⟩
  by_cases h0:len=0
  ·left;simp [h0]
  ·right
   obtain ⟨b,off,spot⟩:=x
   obtain ⟨vm,vr,vs,vg,vw,_,hc⟩:=hF 0 (by omega)
   have hc0:w.cell? (Addr.add ⟨b,off,spot⟩ (0 * 12+0))=some (.string (F 0).name):=hc 0 (by omega)
   have hspot:spot=none:=by simpa [Addr.add] using World.cell?_spot hc0
   subst hspot
   have hc1:w.cell? ⟨b,off+(0 * 12+0),none⟩=some (.string (F 0).name):=by rw [← Go.WideShapes.add_plain];exact hc0
   refine ⟨b,off,rfl,World.block_lt_of_cell? w ⟨b,off+(0 * 12+0),none⟩ hc1,fun j hj=>?_⟩
   have hj':j < len:=by simpa using hj
   rw [hget j hj']
   obtain ⟨vm,vr,vs,vg,vw,h1,h2⟩:=hF j hj'
   refine ⟨vm,vr,vs,vg,vw,h1,fun i hi=>?_⟩
   have:=h2 i hi
   rwa [Go.WideShapes.add_plain,← Nat.add_assoc] at this
set_option maxRecDepth 100000 in
theorem open_nodes {r:Reach} {b0:Nat} {v:Value} {d:DataW H} {p:List MemPlace} (hv:Value.okWide Tryz.prog w r b0 22 v) (h:DataW.Trod enc Tryz.prog w base spare held 22 v d p) :
 ∃ ns,NSl w v ns:=by
 obtain ⟨a,len,cap,rfl⟩:=okWide_slice Tryz.underlying22 hv
 obtain ⟨fuel,hf⟩:=h
 obtain ⟨q,n,c,ns,hcs,hs⟩:=nds_of_trod hf
 refine ⟨ns,?_⟩
 simp only [Value.cells,List.cons.injEq,and_true] at hcs
 rw [hcs];exact hs
end
end Go.Proofs.YtffdoiokmiklgaaGreatDoor
