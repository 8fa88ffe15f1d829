import Derived.Test.YtffdoiokmiklgaaGreatDoorW1
import Derived.Test.YtffdoiokmiklgaaGreatDoorW7
import Derived.Test.YtffdoiokmiklgaaGreatDoorW29
import Derived.Laws.StructEq
import Derived.Test.YtffdoiokmiklgaaGreatDoorW19
import Derived.Test.YtffdoiokmiklgaaGreatDoorW15
import Derived.Test.YtffdoiokmiklgaaGreatDoorW32
import Derived.Test.YtffdoiokmiklgaaGreatDoorW17
import Derived.Test.YtffdoiokmiklgaaGreatDoorW30
import Derived.Test.YtffdoiokmiklgaaGreatDoorW34
namespace Go.Proofs.YtffdoiokmiklgaaGreatDoor
namespace Wh
open Go.RowKit
set_option maxHeartbeats 800000 in
theorem eqInP (d:Nat) (r:Whe) (w:World):(Op.equalIn (d+1+1) 40 (.agg #[.int .i64 r.x,.int .i64 r.y,.int .i64 r.z,.int .i64 r.h,.int .i64 r.s]) (.agg #[.int .i64 r.x,.int .i64 r.y,.int .i64 r.z,.int .i64 r.h,.int .i64 r.s])).run Tryz.prog w=.ok true w:=by
 obtain ⟨n1,x1,y1,z1,h1,s1⟩:=r
 have u3:=run_underlying Tryz.underlying3
 have a3:=Tryz.isAgg3
 have z3:=Tryz.sizeOf3
 have hS:Tryz.prog.underlying 40=some (.struct (Tryz.prog.fieldsOf 40)):=by kernel_rfl
 have hp:Tryz.prog.stoodInHeld 40=false:=by kernel_rfl
 rw [run_equalIn_agg w (d+1) 40 _ _ hS hp]
 simp only [Program.fieldsOf,Tryz.underlying40]
 go_simp
set_option maxHeartbeats 800000 in
theorem eqInW (r:Whe) (w:World):(Op.equalIn 10000 109 (.agg #[.string r.node,.int .i64 r.x,.int .i64 r.y,.int .i64 r.z,.int .i64 r.h,.int .i64 r.s]) (.agg #[.string r.node,.int .i64 r.x,.int .i64 r.y,.int .i64 r.z,.int .i64 r.h,.int .i64 r.s])).run Tryz.prog w=.ok true w:=by
 have hM:=fun w=>eqInP 9997 r w
 obtain ⟨n1,x1,y1,z1,h1,s1⟩:=r
 have u9:=run_underlying Tryz.underlying9
 have a9:=Tryz.isAgg9
 have z9:=Tryz.sizeOf9
 have a24:=Tryz.isAgg40
 have z24:=Tryz.sizeOf40
 have hS:Tryz.prog.underlying 109=some (.struct (Tryz.prog.fieldsOf 109)):=by kernel_rfl
 have hp:Tryz.prog.stoodInHeld 109=false:=by kernel_rfl
 simp only at hM
 rw [show (10000:Nat)=9999+1 from rfl,run_equalIn_agg w 9999 109 _ _ hS hp]
 simp only [Program.fieldsOf,Tryz.underlying109]
 go_simp
theorem neqW (r:Whe) (w:World):Sem.run Tryz.prog (binOp .neq 109 (.agg #[.string r.node,.int .i64 r.x,.int .i64 r.y,.int .i64 r.z,.int .i64 r.h,.int .i64 r.s]) (.agg #[.string r.node,.int .i64 r.x,.int .i64 r.y,.int .i64 r.z,.int .i64 r.h,.int .i64 r.s])) w=.ok (.bool false) w:=by
 rw [run_neq_struct,eqInW]
 rfl
set_option maxHeartbeats 1600000 in
theorem same_self (rs:List Whe) (va vb:Value) (w:World) (ha:Sl w va rs) (hb:Sl w vb rs) (hsm:rs.length≤1000) :
 Calls Tryz.prog 78 #[va,vb] w fun e w'=>e=.returned (.bool true)∧Below w.heap.size w w':=by
 obtain ⟨pa,ca,rfl,_,ha⟩:=ha
 obtain ⟨pv,cb,rfl,_,hb⟩:=hb
 have HA:Hid (rs=[]∨∃ b off,pa=some ⟨b,off,none⟩∧b < w.heap.size∧Row w b off rs):=ha
 have HB:Hid (rs=[]∨∃ b off,pv=some ⟨b,off,none⟩∧b < w.heap.size∧Row w b off rs):=hb
 clear ha hb
 generalize hna:rs.length=n at *
 have HN:Hid (rs.length=n):=hna
 clear hna
 have hgR:Tryz.prog.eqGuardType Tryz.prog.depth 109=false:=by kernel_rfl
 go_enter Tryz.func78,Tryz.ntmps78
 go_wp2_with fail
 go_loopw [5] (fun i w'=>∃ k:Nat,k≤n∧i=.int .i64 k∧Hid (Below w.heap.size w w')) (fun i _=>n - (intOf i).toNat)
 case atStart=>exact ⟨0,Nat.zero_le _,rfl,Below.refl _ _⟩
 case round=>
  obtain ⟨k,hk,rfl,HBL⟩:=hrel
  by_cases hlt:k < n
  ·obtain ⟨b1,o1,hp1,hl1,hr1⟩:∃ b off,pa=some ⟨b,off,none⟩∧b < w.heap.size∧Row w b off rs:=by
    rcases HA.out with h | h
    ·have:=HN.out;rw [h] at this;simp at this;omega
    ·exact h
   obtain ⟨b2,o2,hp2,hl2,hr2⟩:∃ b off,pv=some ⟨b,off,none⟩∧b < w.heap.size∧Row w b off rs:=by
    rcases HB.out with h | h
    ·have:=HN.out;rw [h] at this;simp at this;omega
    ·exact h
   subst hp1
   subst hp2
   obtain ⟨c0,c1,c2,c3,c4,c5⟩:=Row.later hr1 HBL.out hl1 k (by rw [HN.out];exact hlt)
   obtain ⟨d0,d1,d2,d3,d4,d5⟩:=Row.later hr2 HBL.out hl2 k (by rw [HN.out];exact hlt)
   clear hr1 hr2
   have hneq:=neqW (rs.getD k dm)
   generalize rs.getD k dm=rk at *
   obtain ⟨n1,x1,y1,z1,h1,s1⟩:=rk
   simp only at c0 c1 c2 c3 c4 c5 d0 d1 d2 d3 d4 d5 hneq
   go_wp2_with fail
   go_quiet (fail)
   go_wp2_with fail
   go_roundw
   case rel=>exact ⟨k+1,by omega,by go_num,below_drewN HBL.out _⟩
   case measure=>simp [intOf];omega
  ·go_wp2_with fail
   go_ret
   exact ⟨rfl,HBL.out⟩
end Wh
end Go.Proofs.YtffdoiokmiklgaaGreatDoor
namespace Go.Proofs.YtffdoiokmiklgaaGreatDoor
open Go.RowKit
theorem SameM (L:List Mem) (v1 v2:Value) (w:World) (h1:Sl w v1 L) (h2:Sl w v2 L) (hn:L.length≤1000) :
 Calls Tryz.prog 28 #[v1,v2] w fun e w'=>e=.returned (.bool true)∧Below w.heap.size w w':=
 (same_any L L v1 v2 w h1 h2 hn).mono (by rintro e w' ⟨r,rfl,hr,hb⟩;rw [hr.2 rfl];exact ⟨rfl,hb⟩)
theorem SameS (L:List Sv.Svc) (v1 v2:Value) (w:World) (h1:Sv.Sl w v1 L) (h2:Sv.Sl w v2 L) (hn:L.length≤1000) :
 Calls Tryz.prog 29 #[v1,v2] w fun e w'=>e=.returned (.bool true)∧Below w.heap.size w w':=
 (Sv.same_any L L v1 v2 w h1 h2 hn).mono (by rintro e w' ⟨r,rfl,hr,hb⟩;rw [hr.2 rfl];exact ⟨rfl,hb⟩)
theorem SameG (L:List Gw.Gwy) (v1 v2:Value) (w:World) (h1:Gw.Sl w v1 L) (h2:Gw.Sl w v2 L) (hn:L.length≤1000) :
 Calls Tryz.prog 30 #[v1,v2] w fun e w'=>e=.returned (.bool true)∧Below w.heap.size w w':=
 (Gw.same_any L L v1 v2 w h1 h2 hn).mono (by rintro e w' ⟨r,rfl,hr,hb⟩;rw [hr.2 rfl];exact ⟨rfl,hb⟩)
def IsPk (w:World) (p:Pk) (A:Array Value):Prop:=∃ vm vs vg vw,A=#[.string p.frm,.bool p.whole,vm,vs,vg,vw]∧Sl w vm p.ms∧Sv.Sl w vs p.sv∧Gw.Sl w vg p.gw∧Wh.Sl w vw p.wh
theorem IsPk.below {w w':World} {p:Pk} {A:Array Value} (h:IsPk w p A) (hb:Below w.heap.size w w'):IsPk w' p A:=by
 obtain ⟨a,b,c,d,h1,h2,h3,h4,h5⟩:=h
 exact ⟨a,b,c,d,h1,h2.below hb,h3.below hb,h4.below hb,h5.below hb⟩
structure Pk.Small (p:Pk):Prop where
 ms:p.ms.length≤1000
 sv:p.sv.length≤1000
 gw:p.gw.length≤1000
 wh:p.wh.length≤1000
def ndV (t0 t1:ByteArray) (p2:Option Addr) (k2 c2:Nat) (p3:Option Addr) (k3 c3:Nat) (p4:Option Addr) (k4 c4:Nat) (p5:Option Addr) (k5 c5:Nat) (i6 i7 i8 i9 i10:Int) (p11:Option Addr) (k11 c11:Nat):Array Value:=
 #[.string t0,.string t1,.slice p2 k2 c2,.slice p3 k3 c3,.slice p4 k4 c4,.slice p5 k5 c5,.int .i64 i6,.int .i64 i7,.int .i64 i8,.int .i64 i9,.int .i64 i10,.slice p11 k11 c11]
def IsNd (w:World) (n:Nd) (A:Array Value):Prop:=∃ vm vr vs vg vw,A=ndA n vm vr vs vg vw∧NdIs w n vm vr vs vg vw
def nz:Nd:=⟨⟨#[]⟩,⟨#[]⟩,[],[],[],[],⟨0,0,0,0,0⟩,[]⟩
def azN:Array Value:=#[.string ⟨#[]⟩,.string ⟨#[]⟩,.slice none 0 0,.slice none 0 0,.slice none 0 0,.slice none 0 0,.int .i64 0,.int .i64 0,.int .i64 0,.int .i64 0,.int .i64 0,.slice none 0 0]
theorem IsNd.below {w w':World} {n:Nd} {A:Array Value} (h:IsNd w n A) (hb:Below w.heap.size w w'):IsNd w' n A:=by
 obtain ⟨a,b,c,d,e,h1,h2⟩:=h
 exact ⟨a,b,c,d,e,h1,h2.below hb⟩
theorem isNd {w:World} {n:Nd} {a b c d e:Value} (h:NdIs w n a b c d e):IsNd w n (ndA n a b c d e):=⟨a,b,c,d,e,rfl,h⟩
theorem isNz (w:World):IsNd w nz azN:=by
 refine ⟨.slice none 0 0,.slice none 0 0,.slice none 0 0,.slice none 0 0,.slice none 0 0,rfl,?_,?_,?_,?_,?_,(Nat.zero_le maxLen:(0:Nat)≤maxLen),(Nat.zero_le maxLen:(0:Nat)≤maxLen)⟩
 ·exact ⟨none,0,rfl,ns_get (by simp [nz]),.inl rfl⟩
 ·exact ⟨none,0,rfl,rns_get (by simp [nz]),.inl rfl⟩
 ·exact ⟨none,0,rfl,Sv.ns_get (by simp [nz]),.inl rfl⟩
 ·exact ⟨none,0,rfl,Gw.ns_get (by simp [nz]),.inl rfl⟩
 ·exact ⟨none,0,rfl,Wh.ns_get (by simp [nz]),.inl rfl⟩
theorem IsNd.letters {w:World} {n:Nd} {A:Array Value} (h:IsNd w n A):∃ t0 t1 p2 k2 c2 p3 k3 c3 p4 k4 c4 p5 k5 c5 i6 i7 i8 i9 i10 p11 k11 c11,A=ndV t0 t1 p2 k2 c2 p3 k3 c3 p4 k4 c4 p5 k5 c5 i6 i7 i8 i9 i10 p11 k11 c11:=by
 obtain ⟨vm,vr,vs,vg,vw,rfl,⟨pm,cm,rfl,_⟩,⟨pr,cr,rfl,_⟩,⟨ps,cs,rfl,_⟩,⟨pg,cg,rfl,_⟩,⟨pw,cw,rfl,_⟩,_,_⟩:=h
 exact ⟨_,_,_,_,_,_,_,_,_,_,_,_,_,_,_,_,_,_,_,_,_,_,rfl⟩
def Res (w:World) (er:Int) (n:Nd) (A:Array Value):Prop:=(er≠0∧A=azN)∨(er=0∧IsNd w n A)
theorem Res.below {w w':World} {er:Int} {n:Nd} {A:Array Value} (h:Res w er n A) (hb:Below w.heap.size w w'):Res w' er n A:=by
 rcases h with h | ⟨h1,h2⟩
 ·exact .inl h
 ·exact .inr ⟨h1,h2.below hb⟩
theorem Res.is {w:World} {er:Int} {n:Nd} {A:Array Value} (h:Res w er n A):IsNd w (if er=0 then n else nz) A:=by
 rcases h with ⟨h1,rfl⟩ | ⟨h1,h2⟩
 ·rw [if_neg h1];exact isNz w
 ·rw [if_pos h1];exact h2
theorem OpSays.res {ne er:Int} {n':Nd} {w w':World} {e:Ending} (h:OpSays ne er n' w e w'):∃ A,e=.returned (.tuple #[.agg A,.int .i64 (if ne=0 then er else ne)])∧Res w' (if ne=0 then er else ne) n' A∧Below w.heap.size w w':=by
 obtain ⟨hb,⟨h1,rfl⟩ | ⟨h1,h2,rfl⟩ | ⟨h1,h2,um,ur,us,ug,uw,rfl,ho,hk⟩⟩:=h
 ·exact ⟨azN,by rw [if_neg h1];rfl,.inl ⟨by rw [if_neg h1];exact h1,rfl⟩,hb⟩
 ·exact ⟨azN,by rw [if_pos h1];rfl,.inl ⟨by rw [if_pos h1];exact h2,rfl⟩,hb⟩
 ·exact ⟨_,by rw [if_pos h1,h2],.inr ⟨by rw [if_pos h1,h2],_,_,_,_,_,rfl,ho.is hk⟩,hb⟩
structure Nd.Small (n:Nd):Prop where
 ms:n.ms.length≤1000
 rs:n.rs.length≤1000
 sv:n.sv.length≤1000
 gw:n.gw.length≤1000
 wh:n.wh.length≤1000
set_option maxHeartbeats 12800000 in
set_option maxRecDepth 100000 in
theorem sameNode_any (n:Nd) (C D:Array Value) (w:World) (h1:IsNd w n C) (h2:IsNd w n D) (hs:n.Small) :
 Calls Tryz.prog 40 #[.agg C,.agg D] w fun e w'=>e=.returned (.bool true)∧Below w.heap.size w w':=by
 obtain ⟨vm,vr,vs,vg,vw,rfl,g1⟩:=h1
 obtain ⟨um,ur,us,ug,uw,rfl,g2⟩:=h2
 obtain ⟨nm,ct,ms,rs,sv,gw,⟨px,py,pz,ph,pq⟩,wh⟩:=n
 obtain ⟨s1,s2,s3,s4,s5⟩:=hs
 have g1m:=g1.ms
 have g1r:=g1.rs
 have g1s:=g1.sv
 have g1g:=g1.gw
 have g1w:=g1.wh
 have g2m:=g2.ms
 have g2r:=g2.rs
 have g2s:=g2.sv
 have g2g:=g2.gw
 have g2w:=g2.wh
 clear g1 g2
 simp only at s1 s2 s3 s4 s5 g1m g1r g1s g1g g1w g2m g2r g2s g2g g2w
 have HM:Hid (∀ W,Below w.heap.size w W→Calls Tryz.prog 28 #[vm,um] W fun e w'=>e=.returned (.bool true)∧Below W.heap.size W w'):=fun W hW=>SameM ms _ _ W (g1m.below hW) (g2m.below hW) s1
 have HR:Hid (∀ W,Below w.heap.size w W→Calls Tryz.prog 77 #[vr,ur] W fun e w'=>e=.returned (.bool true)∧Below W.heap.size W w'):=fun W hW=>sameR_self rs _ _ W (g1r.below hW) (g2r.below hW) s2
 have HS:Hid (∀ W,Below w.heap.size w W→Calls Tryz.prog 29 #[vs,us] W fun e w'=>e=.returned (.bool true)∧Below W.heap.size W w'):=fun W hW=>SameS sv _ _ W (g1s.below hW) (g2s.below hW) s3
 have HG:Hid (∀ W,Below w.heap.size w W→Calls Tryz.prog 30 #[vg,ug] W fun e w'=>e=.returned (.bool true)∧Below W.heap.size W w'):=fun W hW=>SameG gw _ _ W (g1g.below hW) (g2g.below hW) s4
 have HW:Hid (∀ W,Below w.heap.size w W→Calls Tryz.prog 78 #[vw,uw] W fun e w'=>e=.returned (.bool true)∧Below W.heap.size W w'):=fun W hW=>Wh.same_self wh _ _ W (g1w.below hW) (g2w.below hW) s5
 obtain ⟨em,cm,rfl,_,_⟩:=g1m
 obtain ⟨er_,cr,rfl,_,_⟩:=g1r
 obtain ⟨es,cs_,rfl,_,_⟩:=g1s
 obtain ⟨eg_,cg,rfl,_,_⟩:=g1g
 obtain ⟨eh,ch,rfl,_,_⟩:=g1w
 obtain ⟨fm,dm_,rfl,_,_⟩:=g2m
 obtain ⟨fr,dr_,rfl,_,_⟩:=g2r
 obtain ⟨fs,ds_,rfl,_,_⟩:=g2s
 obtain ⟨fg,dg,rfl,_,_⟩:=g2g
 obtain ⟨fh,dh,rfl,_,_⟩:=g2w
 simp only [ndA]
 clear s1 s2 s3 s4 s5
 have heq:∀ w,Sem.run Tryz.prog (binOp .eql 40 (.agg #[.int .i64 px,.int .i64 py,.int .i64 pz,.int .i64 ph,.int .i64 pq]) (.agg #[.int .i64 px,.int .i64 py,.int .i64 pz,.int .i64 ph,.int .i64 pq])) w=.ok (.bool true) w:=fun w=>by
  rw [run_eql_struct,Wh.eqInP 9998 ⟨nm,px,py,pz,ph,pq⟩ w];rfl
 have hgP:Tryz.prog.eqGuardType Tryz.prog.depth 40=false:=by kernel_rfl
 obtain ⟨W0,hW0⟩:∃ W0,W0=(w.alloc (.cells #[.string nm,.string ct,.slice em ms.length cm,.slice er_ rs.length cr,.slice es sv.length cs_,.slice eg_ gw.length cg,.int .i64 px,.int .i64 py,.int .i64 pz,.int .i64 ph,.int .i64 pq,.slice eh wh.length ch] 51)).alloc (.cells #[.string nm,.string ct,.slice fm ms.length dm_,.slice fr rs.length dr_,.slice fs sv.length ds_,.slice fg gw.length dg,.int .i64 px,.int .i64 py,.int .i64 pz,.int .i64 ph,.int .i64 pq,.slice fh wh.length dh] 51):=⟨_,rfl⟩
 have hb0:Below w.heap.size w W0:=by rw [hW0];exact ((Below.refl _ _).alloc (Nat.le_refl _) _).alloc (by simp) _
 have hg0:W0.heap[w.heap.size]?=some (.cells #[.string nm,.string ct,.slice em ms.length cm,.slice er_ rs.length cr,.slice es sv.length cs_,.slice eg_ gw.length cg,.int .i64 px,.int .i64 py,.int .i64 pz,.int .i64 ph,.int .i64 pq,.slice eh wh.length ch] 51 (0,0)):=by
  rw [hW0,Below.heap_alloc _ _ _ (by simp)];exact heap_alloc_new w _
 have hz0:W0.heap[w.heap.size+1]?=some (.cells #[.string nm,.string ct,.slice fm ms.length dm_,.slice fr rs.length dr_,.slice fs sv.length ds_,.slice fg gw.length dg,.int .i64 px,.int .i64 py,.int .i64 pz,.int .i64 ph,.int .i64 pq,.slice fh wh.length dh] 51 (0,0)):=by
  have h:=heap_alloc_new (w.alloc (.cells #[.string nm,.string ct,.slice em ms.length cm,.slice er_ rs.length cr,.slice es sv.length cs_,.slice eg_ gw.length cg,.int .i64 px,.int .i64 py,.int .i64 pz,.int .i64 ph,.int .i64 pq,.slice eh wh.length ch] 51)) (.cells #[.string nm,.string ct,.slice fm ms.length dm_,.slice fr rs.length dr_,.slice fs sv.length ds_,.slice fg gw.length dg,.int .i64 px,.int .i64 py,.int .i64 pz,.int .i64 ph,.int .i64 pq,.slice fh wh.length dh] 51)
  rw [hW0];simpa using h
 have hs0:w.heap.size+1 < W0.heap.size:=by rw [hW0];simp
 have HB0:Hid (Below w.heap.size w W0):=hb0
 have HG0:Hid (W0.heap[w.heap.size]?=some (.cells #[.string nm,.string ct,.slice em ms.length cm,.slice er_ rs.length cr,.slice es sv.length cs_,.slice eg_ gw.length cg,.int .i64 px,.int .i64 py,.int .i64 pz,.int .i64 ph,.int .i64 pq,.slice eh wh.length ch] 51 (0,0))):=hg0
 have HZ0:Hid (W0.heap[w.heap.size+1]?=some (.cells #[.string nm,.string ct,.slice fm ms.length dm_,.slice fr rs.length dr_,.slice fs sv.length ds_,.slice fg gw.length dg,.int .i64 px,.int .i64 py,.int .i64 pz,.int .i64 ph,.int .i64 pq,.slice fh wh.length dh] 51 (0,0))):=hz0
 clear hb0 hg0 hz0
 go_enter Tryz.func40,Tryz.ntmps40
 go_wp2_with fail
 rw [← hW0]
 clear hW0
 refine (HM.out W0 HB0.out).mono ?_
 rintro e w1 ⟨rfl,hb1⟩
 have hg1:w1.heap[w.heap.size]?=some (.cells #[.string nm,.string ct,.slice em ms.length cm,.slice er_ rs.length cr,.slice es sv.length cs_,.slice eg_ gw.length cg,.int .i64 px,.int .i64 py,.int .i64 pz,.int .i64 ph,.int .i64 pq,.slice eh wh.length ch] 51 (0,0)):=(hb1.block _ (by omega)).trans HG0.out
 have hz1:w1.heap[w.heap.size+1]?=some (.cells #[.string nm,.string ct,.slice fm ms.length dm_,.slice fr rs.length dr_,.slice fs sv.length ds_,.slice fg gw.length dg,.int .i64 px,.int .i64 py,.int .i64 pz,.int .i64 ph,.int .i64 pq,.slice fh wh.length dh] 51 (0,0)):=(hb1.block _ (by omega)).trans HZ0.out
 have hs1:w.heap.size+1 < w1.heap.size:=by have:=hb1.size;omega
 have HB1:Hid (Below w.heap.size w w1):=HB0.out.trans (hb1.mono HB0.out.size)
 have HG1:Hid (w1.heap[w.heap.size]?=some (.cells #[.string nm,.string ct,.slice em ms.length cm,.slice er_ rs.length cr,.slice es sv.length cs_,.slice eg_ gw.length cg,.int .i64 px,.int .i64 py,.int .i64 pz,.int .i64 ph,.int .i64 pq,.slice eh wh.length ch] 51 (0,0))):=hg1
 have HZ1:Hid (w1.heap[w.heap.size+1]?=some (.cells #[.string nm,.string ct,.slice fm ms.length dm_,.slice fr rs.length dr_,.slice fs sv.length ds_,.slice fg gw.length dg,.int .i64 px,.int .i64 py,.int .i64 pz,.int .i64 ph,.int .i64 pq,.slice fh wh.length dh] 51 (0,0))):=hz1
 have a1_3:w1.cell? ⟨w.heap.size,3,none⟩=_:=cellsAt hg1 3
 have b1_3:w1.cell? ⟨w.heap.size+1,3,none⟩=_:=cellsAt hz1 3
 clear hb1 hg1 hz1 hs0
 go_wp2_with fail
 refine (HR.out w1 HB1.out).mono ?_
 rintro e w2 ⟨rfl,hb2⟩
 have hg2:w2.heap[w.heap.size]?=some (.cells #[.string nm,.string ct,.slice em ms.length cm,.slice er_ rs.length cr,.slice es sv.length cs_,.slice eg_ gw.length cg,.int .i64 px,.int .i64 py,.int .i64 pz,.int .i64 ph,.int .i64 pq,.slice eh wh.length ch] 51 (0,0)):=(hb2.block _ (by omega)).trans HG1.out
 have hz2:w2.heap[w.heap.size+1]?=some (.cells #[.string nm,.string ct,.slice fm ms.length dm_,.slice fr rs.length dr_,.slice fs sv.length ds_,.slice fg gw.length dg,.int .i64 px,.int .i64 py,.int .i64 pz,.int .i64 ph,.int .i64 pq,.slice fh wh.length dh] 51 (0,0)):=(hb2.block _ (by omega)).trans HZ1.out
 have hs2:w.heap.size+1 < w2.heap.size:=by have:=hb2.size;omega
 have HB2:Hid (Below w.heap.size w w2):=HB1.out.trans (hb2.mono HB1.out.size)
 have HG2:Hid (w2.heap[w.heap.size]?=some (.cells #[.string nm,.string ct,.slice em ms.length cm,.slice er_ rs.length cr,.slice es sv.length cs_,.slice eg_ gw.length cg,.int .i64 px,.int .i64 py,.int .i64 pz,.int .i64 ph,.int .i64 pq,.slice eh wh.length ch] 51 (0,0))):=hg2
 have HZ2:Hid (w2.heap[w.heap.size+1]?=some (.cells #[.string nm,.string ct,.slice fm ms.length dm_,.slice fr rs.length dr_,.slice fs sv.length ds_,.slice fg gw.length dg,.int .i64 px,.int .i64 py,.int .i64 pz,.int .i64 ph,.int .i64 pq,.slice fh wh.length dh] 51 (0,0))):=hz2
 have a2_4:w2.cell? ⟨w.heap.size,4,none⟩=_:=cellsAt hg2 4
 have b2_4:w2.cell? ⟨w.heap.size+1,4,none⟩=_:=cellsAt hz2 4
 clear hb2 hg2 hz2 hs1
 go_wp2_with fail
 refine (HS.out w2 HB2.out).mono ?_
 rintro e w3 ⟨rfl,hb3⟩
 have hg3:w3.heap[w.heap.size]?=some (.cells #[.string nm,.string ct,.slice em ms.length cm,.slice er_ rs.length cr,.slice es sv.length cs_,.slice eg_ gw.length cg,.int .i64 px,.int .i64 py,.int .i64 pz,.int .i64 ph,.int .i64 pq,.slice eh wh.length ch] 51 (0,0)):=(hb3.block _ (by omega)).trans HG2.out
 have hz3:w3.heap[w.heap.size+1]?=some (.cells #[.string nm,.string ct,.slice fm ms.length dm_,.slice fr rs.length dr_,.slice fs sv.length ds_,.slice fg gw.length dg,.int .i64 px,.int .i64 py,.int .i64 pz,.int .i64 ph,.int .i64 pq,.slice fh wh.length dh] 51 (0,0)):=(hb3.block _ (by omega)).trans HZ2.out
 have hs3:w.heap.size+1 < w3.heap.size:=by have:=hb3.size;omega
 have HB3:Hid (Below w.heap.size w w3):=HB2.out.trans (hb3.mono HB2.out.size)
 have HG3:Hid (w3.heap[w.heap.size]?=some (.cells #[.string nm,.string ct,.slice em ms.length cm,.slice er_ rs.length cr,.slice es sv.length cs_,.slice eg_ gw.length cg,.int .i64 px,.int .i64 py,.int .i64 pz,.int .i64 ph,.int .i64 pq,.slice eh wh.length ch] 51 (0,0))):=hg3
 have HZ3:Hid (w3.heap[w.heap.size+1]?=some (.cells #[.string nm,.string ct,.slice fm ms.length dm_,.slice fr rs.length dr_,.slice fs sv.length ds_,.slice fg gw.length dg,.int .i64 px,.int .i64 py,.int .i64 pz,.int .i64 ph,.int .i64 pq,.slice fh wh.length dh] 51 (0,0))):=hz3
 have a3_5:w3.cell? ⟨w.heap.size,5,none⟩=_:=cellsAt hg3 5
 have b3_5:w3.cell? ⟨w.heap.size+1,5,none⟩=_:=cellsAt hz3 5
 clear hb3 hg3 hz3 hs2
 go_wp2_with fail
 refine (HG.out w3 HB3.out).mono ?_
 rintro e w4 ⟨rfl,hb4⟩
 have hg4:w4.heap[w.heap.size]?=some (.cells #[.string nm,.string ct,.slice em ms.length cm,.slice er_ rs.length cr,.slice es sv.length cs_,.slice eg_ gw.length cg,.int .i64 px,.int .i64 py,.int .i64 pz,.int .i64 ph,.int .i64 pq,.slice eh wh.length ch] 51 (0,0)):=(hb4.block _ (by omega)).trans HG3.out
 have hz4:w4.heap[w.heap.size+1]?=some (.cells #[.string nm,.string ct,.slice fm ms.length dm_,.slice fr rs.length dr_,.slice fs sv.length ds_,.slice fg gw.length dg,.int .i64 px,.int .i64 py,.int .i64 pz,.int .i64 ph,.int .i64 pq,.slice fh wh.length dh] 51 (0,0)):=(hb4.block _ (by omega)).trans HZ3.out
 have hs4:w.heap.size+1 < w4.heap.size:=by have:=hb4.size;omega
 have HB4:Hid (Below w.heap.size w w4):=HB3.out.trans (hb4.mono HB3.out.size)
 have HG4:Hid (w4.heap[w.heap.size]?=some (.cells #[.string nm,.string ct,.slice em ms.length cm,.slice er_ rs.length cr,.slice es sv.length cs_,.slice eg_ gw.length cg,.int .i64 px,.int .i64 py,.int .i64 pz,.int .i64 ph,.int .i64 pq,.slice eh wh.length ch] 51 (0,0))):=hg4
 have HZ4:Hid (w4.heap[w.heap.size+1]?=some (.cells #[.string nm,.string ct,.slice fm ms.length dm_,.slice fr rs.length dr_,.slice fs sv.length ds_,.slice fg gw.length dg,.int .i64 px,.int .i64 py,.int .i64 pz,.int .i64 ph,.int .i64 pq,.slice fh wh.length dh] 51 (0,0))):=hz4
 have a4_6:w4.cell? ⟨w.heap.size,6,none⟩=_:=cellsAt hg4 6
 have b4_6:w4.cell? ⟨w.heap.size+1,6,none⟩=_:=cellsAt hz4 6
 have a4_7:w4.cell? ⟨w.heap.size,7,none⟩=_:=cellsAt hg4 7
 have b4_7:w4.cell? ⟨w.heap.size+1,7,none⟩=_:=cellsAt hz4 7
 have a4_8:w4.cell? ⟨w.heap.size,8,none⟩=_:=cellsAt hg4 8
 have b4_8:w4.cell? ⟨w.heap.size+1,8,none⟩=_:=cellsAt hz4 8
 have a4_9:w4.cell? ⟨w.heap.size,9,none⟩=_:=cellsAt hg4 9
 have b4_9:w4.cell? ⟨w.heap.size+1,9,none⟩=_:=cellsAt hz4 9
 have a4_10:w4.cell? ⟨w.heap.size,10,none⟩=_:=cellsAt hg4 10
 have b4_10:w4.cell? ⟨w.heap.size+1,10,none⟩=_:=cellsAt hz4 10
 have a4_11:w4.cell? ⟨w.heap.size,11,none⟩=_:=cellsAt hg4 11
 have b4_11:w4.cell? ⟨w.heap.size+1,11,none⟩=_:=cellsAt hz4 11
 clear hb4 hg4 hz4 hs3
 go_wp2_with fail
 refine (HW.out w4 HB4.out).mono ?_
 rintro e w5 ⟨rfl,hb5⟩
 have hg5:w5.heap[w.heap.size]?=some (.cells #[.string nm,.string ct,.slice em ms.length cm,.slice er_ rs.length cr,.slice es sv.length cs_,.slice eg_ gw.length cg,.int .i64 px,.int .i64 py,.int .i64 pz,.int .i64 ph,.int .i64 pq,.slice eh wh.length ch] 51 (0,0)):=(hb5.block _ (by omega)).trans HG4.out
 have hz5:w5.heap[w.heap.size+1]?=some (.cells #[.string nm,.string ct,.slice fm ms.length dm_,.slice fr rs.length dr_,.slice fs sv.length ds_,.slice fg gw.length dg,.int .i64 px,.int .i64 py,.int .i64 pz,.int .i64 ph,.int .i64 pq,.slice fh wh.length dh] 51 (0,0)):=(hb5.block _ (by omega)).trans HZ4.out
 have hs5:w.heap.size+1 < w5.heap.size:=by have:=hb5.size;omega
 have HB5:Hid (Below w.heap.size w w5):=HB4.out.trans (hb5.mono HB4.out.size)
 have HG5:Hid (w5.heap[w.heap.size]?=some (.cells #[.string nm,.string ct,.slice em ms.length cm,.slice er_ rs.length cr,.slice es sv.length cs_,.slice eg_ gw.length cg,.int .i64 px,.int .i64 py,.int .i64 pz,.int .i64 ph,.int .i64 pq,.slice eh wh.length ch] 51 (0,0))):=hg5
 have HZ5:Hid (w5.heap[w.heap.size+1]?=some (.cells #[.string nm,.string ct,.slice fm ms.length dm_,.slice fr rs.length dr_,.slice fs sv.length ds_,.slice fg gw.length dg,.int .i64 px,.int .i64 py,.int .i64 pz,.int .i64 ph,.int .i64 pq,.slice fh wh.length dh] 51 (0,0))):=hz5
 clear hb5 hg5 hz5 hs4
 go_wp2_with fail
 go_ret
 exact ⟨rfl,HB5.out⟩
end Go.Proofs.YtffdoiokmiklgaaGreatDoor
