import Derived.Test.YtikgjgmgbfjcgaaGreatY2
import Derived.Test.YtikgjgmgbfjcgaaGreatY5
import Derived.Test.YtikgjgmgbfjcgaaGreatY18
import Derived.Laws.StructEq
import Derived.Test.YtikgjgmgbfjcgaaGreatY20
import Derived.Test.YtikgjgmgbfjcgaaGreatY28
import Derived.Test.YtikgjgmgbfjcgaaGreatY10
import Derived.Test.YtikgjgmgbfjcgaaGreatY13
import Derived.Test.YtikgjgmgbfjcgaaGreatY14
namespace Go.Proofs.YtikgjgmgbfjcgaaGreat
namespace Wh
open Go.RowKit
end Wh
end Go.Proofs.YtikgjgmgbfjcgaaGreat
namespace Go.Proofs.YtikgjgmgbfjcgaaGreat
open Go.RowKit
def ndV (t0 t1:ByteArray) (p2:Option Addr) (k2 c2:Nat) (p3:Option Addr) (k3 c3:Nat) (p4:Option Addr) (k4 c4:Nat) (p5:Option Addr) (k5 c5:Nat) (i6 i7 i8 i9 i10:Int) (p11:Option Addr) (k11 c11:Nat):Array Value:=
 #[.string t0,.string t1,.slice p2 k2 c2,.slice p3 k3 c3,.slice p4 k4 c4,.slice p5 k5 c5,.int .i64 i6,.int .i64 i7,.int .i64 i8,.int .i64 i9,.int .i64 i10,.slice p11 k11 c11]
def IsNd (w:World) (n:Nd) (A:Array Value):Prop:=∃ vm vr vs vg vw,A=ndA n vm vr vs vg vw∧NdIs w n vm vr vs vg vw
def nz:Nd:=⟨⟨#[]⟩,⟨#[]⟩,[],[],[],[],⟨0,0,0,0,0⟩,[]⟩
def azN:Array Value:=#[.string ⟨#[]⟩,.string ⟨#[]⟩,.slice none 0 0,.slice none 0 0,.slice none 0 0,.slice none 0 0,.int .i64 0,.int .i64 0,.int .i64 0,.int .i64 0,.int .i64 0,.slice none 0 0]
theorem IsNd.below {w w':World} {n:Nd} {A:Array Value} (h:IsNd w n A) (hb:Below w.heap.size w w'):IsNd w' n A:=by
 obtain ⟨a,b,c,d,e,h1,h2⟩:=h
 exact ⟨a,b,c,d,e,h1,h2.below hb⟩
theorem isNd {w:World} {n:Nd} {a b c d e:Value} (h:NdIs w n a b c d e):IsNd w n (ndA n a b c d e):=⟨a,b,c,d,e,rfl,h⟩
theorem isNz (w:World):IsNd w nz azN:=by
 refine ⟨.slice none 0 0,.slice none 0 0,.slice none 0 0,.slice none 0 0,.slice none 0 0,rfl,?_,?_,?_,?_,?_,(Nat.zero_le maxLen:(0:Nat)≤maxLen),(Nat.zero_le maxLen:(0:Nat)≤maxLen)⟩
 ·exact ⟨none,0,rfl,ns_get (by simp [nz]),.inl rfl⟩
 ·exact ⟨none,0,rfl,rns_get (by simp [nz]),.inl rfl⟩
 ·exact ⟨none,0,rfl,Sv.ns_get (by simp [nz]),.inl rfl⟩
 ·exact ⟨none,0,rfl,Gw.ns_get (by simp [nz]),.inl rfl⟩
 ·exact ⟨none,0,rfl,Wh.ns_get (by simp [nz]),.inl rfl⟩
theorem IsNd.letters {w:World} {n:Nd} {A:Array Value} (h:IsNd w n A):∃ t0 t1 p2 k2 c2 p3 k3 c3 p4 k4 c4 p5 k5 c5 i6 i7 i8 i9 i10 p11 k11 c11,A=ndV t0 t1 p2 k2 c2 p3 k3 c3 p4 k4 c4 p5 k5 c5 i6 i7 i8 i9 i10 p11 k11 c11:=by
 obtain ⟨vm,vr,vs,vg,vw,rfl,⟨pm,cm,rfl,_⟩,⟨pr,cr,rfl,_⟩,⟨ps,cs,rfl,_⟩,⟨pg,cg,rfl,_⟩,⟨pw,cw,rfl,_⟩,_,_⟩:=h
 exact ⟨_,_,_,_,_,_,_,_,_,_,_,_,_,_,_,_,_,_,_,_,_,_,rfl⟩
def Res (w:World) (er:Int) (n:Nd) (A:Array Value):Prop:=(er≠0∧A=azN)∨(er=0∧IsNd w n A)
theorem Res.below {w w':World} {er:Int} {n:Nd} {A:Array Value} (h:Res w er n A) (hb:Below w.heap.size w w'):Res w' er n A:=by
 rcases h with h | ⟨h1,h2⟩
 ·exact .inl h
 ·exact .inr ⟨h1,h2.below hb⟩
theorem Res.is {w:World} {er:Int} {n:Nd} {A:Array Value} (h:Res w er n A):IsNd w (if er=0 then n else nz) A:=by
 rcases h with ⟨h1,rfl⟩ | ⟨h1,h2⟩
 ·rw [if_neg h1];exact isNz w
 ·rw [if_pos h1];exact h2
theorem OpSays.res {ne er:Int} {n':Nd} {w w':World} {e:Ending} (h:OpSays ne er n' w e w'):∃ A,e=.returned (.tuple #[.agg A,.int .i64 (if ne=0 then er else ne)])∧Res w' (if ne=0 then er else ne) n' A∧Below w.heap.size w w':=by
 obtain ⟨hb,⟨h1,rfl⟩ | ⟨h1,h2,rfl⟩ | ⟨h1,h2,um,ur,us,ug,uw,rfl,ho,hk⟩⟩:=h
 ·exact ⟨azN,by rw [if_neg h1];rfl,.inl ⟨by rw [if_neg h1];exact h1,rfl⟩,hb⟩
 ·exact ⟨azN,by rw [if_pos h1];rfl,.inl ⟨by rw [if_pos h1];exact h2,rfl⟩,hb⟩
 ·exact ⟨_,by rw [if_pos h1,h2],.inr ⟨by rw [if_pos h1,h2],_,_,_,_,_,rfl,ho.is hk⟩,hb⟩
structure Nd.Small (n:Nd):Prop where
 ms:n.ms.length≤1000
 rs:n.rs.length≤1000
 sv:n.sv.length≤1000
 gw:n.gw.length≤1000
 wh:n.wh.length≤1000
def IsPk (w:World) (p:Pk) (A:Array Value):Prop:=∃ vm vs vg vw,A=#[.string p.frm,.bool p.whole,vm,vs,vg,vw]∧Sl w vm p.ms∧Sv.Sl w vs p.sv∧Gw.Sl w vg p.gw∧Wh.Sl w vw p.wh
theorem IsPk.below {w w':World} {p:Pk} {A:Array Value} (h:IsPk w p A) (hb:Below w.heap.size w w'):IsPk w' p A:=by
 obtain ⟨a,b,c,d,h1,h2,h3,h4,h5⟩:=h
 exact ⟨a,b,c,d,h1,h2.below hb,h3.below hb,h4.below hb,h5.below hb⟩
structure Pk.Small (p:Pk):Prop where
 ms:p.ms.length≤1000
 sv:p.sv.length≤1000
 gw:p.gw.length≤1000
 wh:p.wh.length≤1000
end Go.Proofs.YtikgjgmgbfjcgaaGreat
