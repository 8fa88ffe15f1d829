import Derived.Test.YtikgjgmgbfjcgaaGreatQ6
import Derived.Deep.Slices
import Derived.Lib.SmallJoins
import Derived.ProofKit
import Derived.OpenShut
import Derived.Handed
import Derived.Test.YtikgjgmgbfjcgaaGreatQ1
import Derived.Test.YtikgjgmgbfjcgaaGreatQ8
import Derived.Test.YtikgjgmgbfjcgaaGreatQ2
import Derived.Test.YtikgjgmgbfjcgaaGreatQ16
import Derived.Test.YtikgjgmgbfjcgaaGreatQ20
namespace Go.Proofs.YtikgjgmgbfjcgaaGreat
namespace Sv
open Go.ChangeShapes Go.WideShapes Go.ChangeAt Go.RowKit
section
variable {H:Type} {enc:TypeId × Value→H} {w:World} {base:Nat} {spare:Nat→Bool} {held:Bool}
theorem Tryz.kcT:Tryz.prog.cellsOf 62=9:=by kernel_rfl
theorem Tryz.kc9:Tryz.prog.cellsOf 9=1:=by kernel_rfl
theorem Tryz.kc3:Tryz.prog.cellsOf 3=1:=by kernel_rfl
theorem Tryz.kc4:Tryz.prog.cellsOf 4=1:=by kernel_rfl
set_option maxRecDepth 100000 in
theorem elT_of_trod {fuel:Nat} {cs:List Value} {x:DataW H × List MemPlace} (h:DataW.trod enc Tryz.prog w base spare held fuel 62 cs=some x) :
 ∃ m:Svc,cs=[.string m.node,.string m.idn,.string m.name,.string m.tag,.int .i64 m.addr,.int .i64 m.port,.bool m.passing,.int .i64 m.version,.bool m.gone]∧(m).ok:=by
 obtain ⟨xs,n,_,_,hl,hlen,hf⟩:=DataW.trod_struct Tryz.underlying62 h
 rw [Tryz.kcT] at hl
 match cs,hl with
 | [c0,c1,c2,c3,c4,c5,c6,c7,c8],_=>
   match xs,hlen with
   | [y0,y1,y2,y3,y4,y5,y6,y7,y8],_=>
     have h0:=hf 0 _ rfl
     have h1:=hf 1 _ rfl
     have h2:=hf 2 _ rfl
     have h3:=hf 3 _ rfl
     have h4:=hf 4 _ rfl
     have h5:=hf 5 _ rfl
     have h6:=hf 6 _ rfl
     have h7:=hf 7 _ rfl
     have h8:=hf 8 _ rfl
     simp [Tryz.kc9] at h0
     simp [Tryz.kc9] at h1
     simp [Tryz.kc9] at h2
     simp [Tryz.kc9] at h3
     simp [Tryz.kc3] at h4
     simp [Tryz.kc3] at h5
     simp [Tryz.kc4] at h6
     simp [Tryz.kc3] at h7
     simp [Tryz.kc4] at h8
     obtain ⟨z0,e0,_,g0⟩:=DataW.trod_string Tryz.underlying9 h0
     obtain ⟨z1,e1,_,g1⟩:=DataW.trod_string Tryz.underlying9 h1
     obtain ⟨z2,e2,_,g2⟩:=DataW.trod_string Tryz.underlying9 h2
     obtain ⟨z3,e3,_,g3⟩:=DataW.trod_string Tryz.underlying9 h3
     obtain ⟨z4,e4,_⟩:=DataW.trod_int Tryz.underlying3 h4
     obtain ⟨z5,e5,_⟩:=DataW.trod_int Tryz.underlying3 h5
     obtain ⟨z6,e6,_⟩:=DataW.trod_bool Tryz.underlying4 h6
     obtain ⟨z7,e7,_⟩:=DataW.trod_int Tryz.underlying3 h7
     obtain ⟨z8,e8,_⟩:=DataW.trod_bool Tryz.underlying4 h8
     simp only [List.cons.injEq,and_true] at e0 e1 e2 e3 e4 e5 e6 e7 e8
     subst e0 e1 e2 e3 e4 e5 e6 e7 e8
     exact ⟨⟨z0,z1,z2,z3,z4,z5,z6,z7,z8⟩,rfl,⟨g0,g1,g2,g3⟩⟩
set_option maxRecDepth 100000 in
theorem elsT_of_trod {fuel:Nat} {cs:List Value} {x:DataW H × List MemPlace} (h:DataW.trod enc Tryz.prog w base spare held fuel 24 cs=some x) :
 ∃ (p:Option Addr) (n c:Nat) (ms:List Svc),cs=[.slice p n c]∧Sl w (.slice p n c) ms∧ms.length≤maxLen:=by
 rcases Go.Deep.open_slice Tryz.underlying24 h with ⟨hcs,_⟩ | ⟨x,len,cap,m,n,D,Pl,hcs,hb,hl,hm,hmm,_,hx⟩
 ·exact ⟨none,0,0,[],hcs,⟨none,0,rfl,ns_get (by simp),.inl rfl⟩,by simp⟩
 ·have hlm:len≤m:=by rw [hmm];split<;>omega
  have hall:∀ i,i < len→∃ q:Svc,(∀ t,t < 9→w.cell? (x.add (i * 9+t))=q.cs[t]?)∧(q).ok:=fun i hi=>by
   obtain ⟨cs',h1,h2⟩:=hx i (by omega)
   obtain ⟨q,hq,hs⟩:=elT_of_trod h2
   rw [Tryz.kcT] at h1
   obtain ⟨_,_,h3⟩:=World.cells?_some h1
   refine ⟨q,fun t ht=>?_,hs⟩
   rw [← Go.Deep.add_add,h3 t ht,hq]
   rfl
  have hinh:Inhabited Svc:=⟨dm⟩
  obtain ⟨F,hF⟩:=Go.Deep.choose_lt (α:=Svc) (p:=fun i q=>(∀ t,t < 9→w.cell? (x.add (i * 9+t))=q.cs[t]?)∧(q).ok) hall
  have hget:∀ j,j < len→((List.range len).map F).getD j dm=F j:=fun j hj=>by simp [List.getD,hj]
  refine ⟨some x,len,cap,(List.range len).map F,hcs,⟨some x,cap,by simp,ns_get (fun q hq=>?_),?_⟩,by simp;omega⟩
  ·obtain ⟨j,hj,rfl⟩:=List.mem_map.1 hq
   exact (hF j (List.mem_range.1 hj)).2
  ·by_cases h0:len=0
   ·left;simp [h0]
   ·right
    obtain ⟨b,off,spot⟩:=x
    have hc0:=(hF 0 (by omega)).1 0 (by omega)
    have hspot:spot=none:=by simpa [Addr.add] using World.cell?_spot hc0
    subst hspot
    have hcell:∀ j,j < len→∀ t,t < 9→w.cell? ⟨b,off+j * 9+t,none⟩=(F j).cs[t]?:=fun j hj t ht=>by
     have:=(hF j hj).1 t ht
     rwa [Go.WideShapes.add_plain,← Nat.add_assoc] at this
    refine ⟨b,off,rfl,World.block_lt_of_cell? w ⟨b,off+0 * 9+0,none⟩ (hcell 0 (by omega) 0 (by omega)),fun j hj=>?_⟩
    have hj':j < len:=by simpa using hj
    rw [hget j hj']
    exact ⟨hcell j hj' 0 (by omega),hcell j hj' 1 (by omega),hcell j hj' 2 (by omega),hcell j hj' 3 (by omega),hcell j hj' 4 (by omega),hcell j hj' 5 (by omega),hcell j hj' 6 (by omega),hcell j hj' 7 (by omega),hcell j hj' 8 (by omega)⟩
end
end Sv
end Go.Proofs.YtikgjgmgbfjcgaaGreat
namespace Go.Proofs.YtikgjgmgbfjcgaaGreat
open Go.ChangeShapes Go.WideShapes Go.ChangeAt Go.RowKit
section
variable {H:Type} {enc:TypeId × Value→H} {w:World} {base:Nat} {spare:Nat→Bool} {held:Bool}
theorem Tryz.kcT:Tryz.prog.cellsOf 37=5:=by kernel_rfl
theorem Tryz.kc9:Tryz.prog.cellsOf 9=1:=by kernel_rfl
theorem Tryz.kc3:Tryz.prog.cellsOf 3=1:=by kernel_rfl
theorem Tryz.kc4:Tryz.prog.cellsOf 4=1:=by kernel_rfl
set_option maxRecDepth 100000 in
theorem elT_of_trod {fuel:Nat} {cs:List Value} {x:DataW H × List MemPlace} (h:DataW.trod enc Tryz.prog w base spare held fuel 37 cs=some x) :
 ∃ m:Mem,cs=[.string m.name,.int .i64 m.state,.int .i64 m.life,.int .i64 m.addr,.bool m.server]∧(m).name.size≤maxLen:=by
 obtain ⟨xs,n,_,_,hl,hlen,hf⟩:=DataW.trod_struct Tryz.underlying37 h
 rw [Tryz.kcT] at hl
 match cs,hl with
 | [c0,c1,c2,c3,c4],_=>
   match xs,hlen with
   | [y0,y1,y2,y3,y4],_=>
     have h0:=hf 0 _ rfl
     have h1:=hf 1 _ rfl
     have h2:=hf 2 _ rfl
     have h3:=hf 3 _ rfl
     have h4:=hf 4 _ rfl
     simp [Tryz.kc9] at h0
     simp [Tryz.kc3] at h1
     simp [Tryz.kc3] at h2
     simp [Tryz.kc3] at h3
     simp [Tryz.kc4] at h4
     obtain ⟨z0,e0,_,g0⟩:=DataW.trod_string Tryz.underlying9 h0
     obtain ⟨z1,e1,_⟩:=DataW.trod_int Tryz.underlying3 h1
     obtain ⟨z2,e2,_⟩:=DataW.trod_int Tryz.underlying3 h2
     obtain ⟨z3,e3,_⟩:=DataW.trod_int Tryz.underlying3 h3
     obtain ⟨z4,e4,_⟩:=DataW.trod_bool Tryz.underlying4 h4
     simp only [List.cons.injEq,and_true] at e0 e1 e2 e3 e4
     subst e0 e1 e2 e3 e4
     exact ⟨⟨z0,z1,z2,z3,z4⟩,rfl,g0⟩
set_option maxRecDepth 100000 in
theorem elsT_of_trod {fuel:Nat} {cs:List Value} {x:DataW H × List MemPlace} (h:DataW.trod enc Tryz.prog w base spare held fuel 22 cs=some x) :
 ∃ (p:Option Addr) (n c:Nat) (ms:List Mem),cs=[.slice p n c]∧Sl w (.slice p n c) ms∧ms.length≤maxLen:=by
 rcases Go.Deep.open_slice Tryz.underlying22 h with ⟨hcs,_⟩ | ⟨x,len,cap,m,n,D,Pl,hcs,hb,hl,hm,hmm,_,hx⟩
 ·exact ⟨none,0,0,[],hcs,⟨none,0,rfl,ns_get (by simp),.inl rfl⟩,by simp⟩
 ·have hlm:len≤m:=by rw [hmm];split<;>omega
  have hall:∀ i,i < len→∃ q:Mem,(∀ t,t < 5→w.cell? (x.add (i * 5+t))=q.cs[t]?)∧(q).name.size≤maxLen:=fun i hi=>by
   obtain ⟨cs',h1,h2⟩:=hx i (by omega)
   obtain ⟨q,hq,hs⟩:=elT_of_trod h2
   rw [Tryz.kcT] at h1
   obtain ⟨_,_,h3⟩:=World.cells?_some h1
   refine ⟨q,fun t ht=>?_,hs⟩
   rw [← Go.Deep.add_add,h3 t ht,hq]
   rfl
  have hinh:Inhabited Mem:=⟨dm⟩
  obtain ⟨F,hF⟩:=Go.Deep.choose_lt (α:=Mem) (p:=fun i q=>(∀ t,t < 5→w.cell? (x.add (i * 5+t))=q.cs[t]?)∧(q).name.size≤maxLen) hall
  have hget:∀ j,j < len→((List.range len).map F).getD j dm=F j:=fun j hj=>by simp [List.getD,hj]
  refine ⟨some x,len,cap,(List.range len).map F,hcs,⟨some x,cap,by simp,ns_get (fun q hq=>?_),?_⟩,by simp;omega⟩
  ·obtain ⟨j,hj,rfl⟩:=List.mem_map.1 hq
   exact (hF j (List.mem_range.1 hj)).2
  ·by_cases h0:len=0
   ·left;simp [h0]
   ·right
    obtain ⟨b,off,spot⟩:=x
    have hc0:=(hF 0 (by omega)).1 0 (by omega)
    have hspot:spot=none:=by simpa [Addr.add] using World.cell?_spot hc0
    subst hspot
    have hcell:∀ j,j < len→∀ t,t < 5→w.cell? ⟨b,off+j * 5+t,none⟩=(F j).cs[t]?:=fun j hj t ht=>by
     have:=(hF j hj).1 t ht
     rwa [Go.WideShapes.add_plain,← Nat.add_assoc] at this
    refine ⟨b,off,rfl,World.block_lt_of_cell? w ⟨b,off+0 * 5+0,none⟩ (hcell 0 (by omega) 0 (by omega)),fun j hj=>?_⟩
    have hj':j < len:=by simpa using hj
    rw [hget j hj']
    exact ⟨hcell j hj' 0 (by omega),hcell j hj' 1 (by omega),hcell j hj' 2 (by omega),hcell j hj' 3 (by omega),hcell j hj' 4 (by omega)⟩
end
section
variable {H:Type} {enc:TypeId × Value→H} {w:World} {base:Nat} {spare:Nat→Bool} {held:Bool}
theorem Tryz.kcR:Tryz.prog.cellsOf 82=6:=by kernel_rfl
theorem Tryz.kcS:Tryz.prog.cellsOf 24=1:=by kernel_rfl
theorem Tryz.kcM:Tryz.prog.cellsOf 22=1:=by kernel_rfl
theorem Tryz.kcW:Tryz.prog.cellsOf 28=1:=by kernel_rfl
theorem Tryz.kcG:Tryz.prog.cellsOf 25=1:=by kernel_rfl
theorem Tryz.kcRs:Tryz.prog.cellsOf 23=1:=by kernel_rfl
theorem Tryz.kcN:Tryz.prog.cellsOf 30=12:=by kernel_rfl
theorem Tryz.kcMm:Tryz.prog.cellsOf 37=5:=by kernel_rfl
set_option maxRecDepth 100000 in
theorem relT_of_trod {fuel:Nat} {cs:List Value} {x:DataW H × List MemPlace} (h:DataW.trod enc Tryz.prog w base spare held fuel 82 cs=some x) :
 ∃ m:Rum,cs=m.cs∧m.m.name.size≤maxLen:=by
 obtain ⟨xs,n,_,_,hl,hlen,hf⟩:=DataW.trod_struct Tryz.underlying82 h
 rw [Tryz.kcR] at hl
 match cs,hl with
 | [c0,c1,c2,c3,c4,c5],_=>
   match xs,hlen with
   | [y0,y1],_=>
     have h0:=hf 0 _ rfl
     have h1:=hf 1 _ rfl
     simp [Tryz.kcMm] at h0
     simp [Tryz.kc3] at h1
     obtain ⟨m,e0,w0⟩:=elT_of_trod h0
     obtain ⟨t,e1,_,_⟩:=DataW.trod_int Tryz.underlying3 h1
     simp only [List.cons.injEq,and_true] at e0 e1
     obtain ⟨r1,r2,r3,r4,r5⟩:=e0
     subst r1 r2 r3 r4 r5 e1
     exact ⟨⟨m,t⟩,rfl,w0⟩
set_option maxRecDepth 100000 in
theorem relsT_of_trod {fuel:Nat} {cs:List Value} {x:DataW H × List MemPlace} (h:DataW.trod enc Tryz.prog w base spare held fuel 23 cs=some x) :
 ∃ (p:Option Addr) (n c:Nat) (ms:List Rum),cs=[.slice p n c]∧RSl w (.slice p n c) ms∧ms.length≤maxLen:=by
 rcases Go.Deep.open_slice Tryz.underlying23 h with ⟨hcs,_⟩ | ⟨x,len,cap,m,n,D,Pl,hcs,hb,hl,hm,hmm,_,hx⟩
 ·exact ⟨none,0,0,[],hcs,⟨none,0,rfl,rns_get (by simp),.inl rfl⟩,by simp⟩
 ·have hlm:len≤m:=by rw [hmm];split<;>omega
  have hall:∀ i,i < len→∃ q:Rum,(∀ t,t < 6→w.cell? (x.add (i * 6+t))=q.cs[t]?)∧(q).m.name.size≤maxLen:=fun i hi=>by
   obtain ⟨cs',h1,h2⟩:=hx i (by omega)
   obtain ⟨q,hq,hs⟩:=relT_of_trod h2
   rw [Tryz.kcR] at h1
   obtain ⟨_,_,h3⟩:=World.cells?_some h1
   refine ⟨q,fun t ht=>?_,hs⟩
   rw [← Go.Deep.add_add,h3 t ht,hq]
  have hinh:Inhabited Rum:=⟨dr⟩
  obtain ⟨F,hF⟩:=Go.Deep.choose_lt (α:=Rum) (p:=fun i q=>(∀ t,t < 6→w.cell? (x.add (i * 6+t))=q.cs[t]?)∧(q).m.name.size≤maxLen) hall
  have hget:∀ j,j < len→((List.range len).map F).getD j dr=F j:=fun j hj=>by simp [List.getD,hj]
  refine ⟨some x,len,cap,(List.range len).map F,hcs,⟨some x,cap,by simp,rns_get (fun q hq=>?_),?_⟩,by simp;omega⟩
  ·obtain ⟨j,hj,rfl⟩:=List.mem_map.1 hq
   exact (hF j (List.mem_range.1 hj)).2
  ·by_cases h0:len=0
   ·left;simp [h0]
   ·right
    obtain ⟨b,off,spot⟩:=x
    have hc0:=(hF 0 (by omega)).1 0 (by omega)
    have hspot:spot=none:=by simpa [Addr.add] using World.cell?_spot hc0
    subst hspot
    have hcell:∀ j,j < len→∀ t,t < 6→w.cell? ⟨b,off+j * 6+t,none⟩=(F j).cs[t]?:=fun j hj t ht=>by
     have:=(hF j hj).1 t ht
     rwa [Go.WideShapes.add_plain,← Nat.add_assoc] at this
    refine ⟨b,off,rfl,World.block_lt_of_cell? w ⟨b,off+0 * 6+0,none⟩ (hcell 0 (by omega) 0 (by omega)),fun j hj=>?_⟩
    have hj':j < len:=by simpa using hj
    rw [hget j hj']
    exact ⟨hcell j hj' 0 (by omega),hcell j hj' 1 (by omega),hcell j hj' 2 (by omega),hcell j hj' 3 (by omega),hcell j hj' 4 (by omega),hcell j hj' 5 (by omega)⟩
set_option maxRecDepth 100000 in
theorem nd_of_trod {fuel:Nat} {cs:List Value} {x:DataW H × List MemPlace} (h:DataW.trod enc Tryz.prog w base spare held fuel 30 cs=some x) :
 ∃ (n:Nd) (vm vr vs vg vw:Value),cs=(ndA n vm vr vs vg vw).toList∧NdIs w n vm vr vs vg vw:=by
 obtain ⟨xs,n,_,_,hl,hlen,hf⟩:=DataW.trod_struct Tryz.underlying30 h
 rw [Tryz.kcN] at hl
 match cs,hl with
 | [c0,c1,c2,c3,c4,c5,c6,c7,c8,c9,c10,c11],_=>
   match xs,hlen with
   | [y0,y1,y2,y3,y4,y5,y6,y7],_=>
     have h0:=hf 0 _ rfl
     have h1:=hf 1 _ rfl
     have h2:=hf 2 _ rfl
     have h3:=hf 3 _ rfl
     have h4:=hf 4 _ rfl
     have h5:=hf 5 _ rfl
     have h6:=hf 6 _ rfl
     have h7:=hf 7 _ rfl
     simp [Tryz.kc9] at h0
     simp [Tryz.kc9] at h1
     simp [Tryz.kcM] at h2
     simp [Tryz.kcRs] at h3
     simp [Tryz.kcS] at h4
     simp [Tryz.kcG] at h5
     simp [Wh.kcP] at h6
     simp [Tryz.kcW] at h7
     obtain ⟨s,e0,_,w0⟩:=DataW.trod_string Tryz.underlying9 h0
     obtain ⟨t,e1,_,w1⟩:=DataW.trod_string Tryz.underlying9 h1
     obtain ⟨pm,nm,cm,ms,e2,k2,_⟩:=elsT_of_trod h2
     obtain ⟨pr,nr,cr,rs,e3,k3,_⟩:=relsT_of_trod h3
     obtain ⟨ps,ns,cn,sv,e4,k4,_⟩:=Sv.elsT_of_trod h4
     obtain ⟨pg,ng,cg,gw,e5,k5,_⟩:=Gw.elsT_of_trod h5
     obtain ⟨a,b,c,d,e,e6⟩:=Wh.plT_of_trod h6
     obtain ⟨pw,nw,cw,wh,e7,k7,_⟩:=Wh.elsT_of_trod h7
     simp only [List.cons.injEq,and_true] at e0 e1 e2 e3 e4 e5 e6 e7
     obtain ⟨r1,r2,r3,r4,r5⟩:=e6
     subst e0 e1 e2 e3 e4 e5 r1 r2 r3 r4 r5 e7
     exact ⟨⟨s,t,ms,rs,sv,gw,⟨a,b,c,d,e⟩,wh⟩,_,_,_,_,_,rfl,k2,k3,k4,k5,k7,w0,w1⟩
set_option maxRecDepth 100000 in
theorem open_node {r:Reach} {b0:Nat} {v:Value} {d:DataW H} {p:List MemPlace} (hv:Value.okWide Tryz.prog w r b0 30 v) (h:DataW.Trod enc Tryz.prog w base spare held 30 v d p) :
 ∃ (n:Nd) (vm vr vs vg vw:Value),v=.agg (ndA n vm vr vs vg vw)∧NdIs w n vm vr vs vg vw:=by
 obtain ⟨cs,rfl,hsz⟩:=okWide_struct Tryz.underlying30 hv
 obtain ⟨fuel,hf⟩:=h
 obtain ⟨n,vm,vr,vs,vg,vw,hm,hs⟩:=nd_of_trod hf
 refine ⟨n,vm,vr,vs,vg,vw,?_,hs⟩
 simp only [Value.cells] at hm
 congr 1
 apply Array.ext'
 exact hm
end
end Go.Proofs.YtikgjgmgbfjcgaaGreat
