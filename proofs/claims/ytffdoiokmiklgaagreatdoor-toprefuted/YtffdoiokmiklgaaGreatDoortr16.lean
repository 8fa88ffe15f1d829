import Derived.Test.YtffdoiokmiklgaaGreatDoortr2
import Derived.Laws.StructEq
import Derived.Test.YtffdoiokmiklgaaGreatDoortr1
import Derived.Test.YtffdoiokmiklgaaGreatDoortr7
import Derived.Test.YtffdoiokmiklgaaGreatDoortr15
import Derived.Lib.SmallJoins
import Derived.Deep.Cut
import Derived.Below
import Derived.OneCell
import Derived.Maps.OwnSet
import Derived.Deep.RegionHeld3
namespace Go.Proofs.YtffdoiokmiklgaaGreatDoor
namespace Sv
open Go.RowKit
set_option maxHeartbeats 800000 in
theorem clone_any (ms:List Svc) (v:Value) (w:World) (h:Sl w v ms) (hn:ms.length≤1000) :
 Calls Tryz.prog 72 #[v] w fun e w'=>∃ v',e=.returned v'∧Own w.heap.size w' v' ms∧Below w.heap.size w w':=by
 obtain ⟨a,cap,rfl,hs,h⟩:=h
 obtain ⟨i0,hi0,hz0,hzs,hzb⟩:=info_parts Tryz.info42
 cases a with
 | none=>
   have he:ms=[]:=by
    rcases h with h | ⟨b,off,h,_⟩
    ·exact h
    ·cases h
   subst he
   clear h hs
   have hnil:=fun (w:World)=>Lib.run_eql_slice_nil (P:=Tryz.prog) w 47 42 none 0 cap 0 0 Tryz.underlying47
   simp only [List.length_nil,Option.isNone_none] at hnil ⊢
   go_enter Tryz.func72,Tryz.ntmps72
   go_wp2_with fail
   go_ret
   exact ⟨_,rfl,own_nil _ _,Below.refl _ _⟩
 | some a=>
   have hnil:=fun (w:World)=>Lib.run_eql_slice_nil (P:=Tryz.prog) w 47 42 (some a) ms.length cap 0 0 Tryz.underlying47
   simp only [Option.isNone_some] at hnil
   have hnews:Hid (∀ j u,(fl ms)[j]?=some u→(w.alloc (.cells #[] 42)).cell? (a.add j)=some u):=by
    intro j u hj
    rcases h with h | ⟨b,off,h,hb,hr⟩
    ·subst h;simp [fl] at hj
    ·cases h
     have hjl:j < ms.length * 9:=by rw [← fl_len];exact (List.getElem?_eq_some_iff.1 hj).1
     have h1:=fl_get ms (j / 9) (by omega) (j%9) (by omega)
     rw [show j / 9 * 9+j%9=j by omega,hj] at h1
     rw [Addr.add_lit,World.cell?_alloc_past (w:=w) _ b _ hb]
     obtain ⟨c0,c1,c2,c3,c4,c5,c6,c7,c8⟩:=hr (j / 9) (by omega)
     have hcs:j%9=0∨j%9=1∨j%9=2∨j%9=3∨j%9=4∨j%9=5∨j%9=6∨j%9=7∨j%9=8:=by omega
     rcases hcs with e | e | e | e | e | e | e | e | e
     ·rw [show off+j=off+j / 9 * 9 by omega,c0];rw [e] at h1;simpa [Svc.cs] using h1.symm
     ·rw [show off+j=off+j / 9 * 9+1 by omega,c1];rw [e] at h1;simpa [Svc.cs] using h1.symm
     ·rw [show off+j=off+j / 9 * 9+2 by omega,c2];rw [e] at h1;simpa [Svc.cs] using h1.symm
     ·rw [show off+j=off+j / 9 * 9+3 by omega,c3];rw [e] at h1;simpa [Svc.cs] using h1.symm
     ·rw [show off+j=off+j / 9 * 9+4 by omega,c4];rw [e] at h1;simpa [Svc.cs] using h1.symm
     ·rw [show off+j=off+j / 9 * 9+5 by omega,c5];rw [e] at h1;simpa [Svc.cs] using h1.symm
     ·rw [show off+j=off+j / 9 * 9+6 by omega,c6];rw [e] at h1;simpa [Svc.cs] using h1.symm
     ·rw [show off+j=off+j / 9 * 9+7 by omega,c7];rw [e] at h1;simpa [Svc.cs] using h1.symm
     ·rw [show off+j=off+j / 9 * 9+8 by omega,c8];rw [e] at h1;simpa [Svc.cs] using h1.symm
   have HO:Hid ((w.alloc (.cells #[] 42)).ownsRow w.heap.size 42 9 (.slice (some ⟨w.heap.size,0,none⟩) 0 0) 0 []):=World.ownsRow_made w #[] 0 (Nat.le_refl _) (by unfold maxLen;omega) rfl
   clear h hs
   go_enter Tryz.func72,Tryz.ntmps72
   go_wp2_with (at_builtin;refine wpList_append_own _ rfl _ _ 47 rfl w.heap.size 42 i0 _ 9 104 Tryz.underlying47 hi0 hz0 hzs hzb rfl (by omega) _ 0 [] rfl HO.out a ms.length cap (fl ms) rfl (fl_len ms) hnews.out (fl_one ms) (by unfold maxLen;omega) (by omega) (by simp) ?_)
   intro v' w' r1 r2 r3
   go_wp2_with fail
   go_ret
   refine ⟨v',rfl,?_,?_⟩
   ·simpa using r1
   ·exact ((Below.refl _ _).alloc (Nat.le_refl _) _).grown r2 (by simp) (fun k hk=>by simp [Value.ownBlock] at hk;omega)
end Sv
namespace Gw
open Go.RowKit
set_option maxHeartbeats 800000 in
theorem clone_any (ms:List Gwy) (v:Value) (w:World) (h:Sl w v ms) (hn:ms.length≤1000) :
 Calls Tryz.prog 73 #[v] w fun e w'=>∃ v',e=.returned v'∧Own w.heap.size w' v' ms∧Below w.heap.size w w':=by
 obtain ⟨a,cap,rfl,hs,h⟩:=h
 obtain ⟨i0,hi0,hz0,hzs,hzb⟩:=info_parts Tryz.info107
 cases a with
 | none=>
   have he:ms=[]:=by
    rcases h with h | ⟨b,off,h,_⟩
    ·exact h
    ·cases h
   subst he
   clear h hs
   have hnil:=fun (w:World)=>Lib.run_eql_slice_nil (P:=Tryz.prog) w 48 107 none 0 cap 0 0 Tryz.underlying48
   simp only [List.length_nil,Option.isNone_none] at hnil ⊢
   go_enter Tryz.func73,Tryz.ntmps73
   go_wp2_with fail
   go_ret
   exact ⟨_,rfl,own_nil _ _,Below.refl _ _⟩
 | some a=>
   have hnil:=fun (w:World)=>Lib.run_eql_slice_nil (P:=Tryz.prog) w 48 107 (some a) ms.length cap 0 0 Tryz.underlying48
   simp only [Option.isNone_some] at hnil
   have hnews:Hid (∀ j u,(fl ms)[j]?=some u→(w.alloc (.cells #[] 107)).cell? (a.add j)=some u):=by
    intro j u hj
    rcases h with h | ⟨b,off,h,hb,hr⟩
    ·subst h;simp [fl] at hj
    ·cases h
     have hjl:j < ms.length * 3:=by rw [← fl_len];exact (List.getElem?_eq_some_iff.1 hj).1
     have h1:=fl_get ms (j / 3) (by omega) (j%3) (by omega)
     rw [show j / 3 * 3+j%3=j by omega,hj] at h1
     rw [Addr.add_lit,World.cell?_alloc_past (w:=w) _ b _ hb]
     obtain ⟨c0,c1,c2⟩:=hr (j / 3) (by omega)
     have hcs:j%3=0∨j%3=1∨j%3=2:=by omega
     rcases hcs with e | e | e
     ·rw [show off+j=off+j / 3 * 3 by omega,c0];rw [e] at h1;simpa [Gwy.cs] using h1.symm
     ·rw [show off+j=off+j / 3 * 3+1 by omega,c1];rw [e] at h1;simpa [Gwy.cs] using h1.symm
     ·rw [show off+j=off+j / 3 * 3+2 by omega,c2];rw [e] at h1;simpa [Gwy.cs] using h1.symm
   have HO:Hid ((w.alloc (.cells #[] 107)).ownsRow w.heap.size 107 3 (.slice (some ⟨w.heap.size,0,none⟩) 0 0) 0 []):=World.ownsRow_made w #[] 0 (Nat.le_refl _) (by unfold maxLen;omega) rfl
   clear h hs
   go_enter Tryz.func73,Tryz.ntmps73
   go_wp2_with (at_builtin;refine wpList_append_own _ rfl _ _ 48 rfl w.heap.size 107 i0 _ 3 32 Tryz.underlying48 hi0 hz0 hzs hzb rfl (by omega) _ 0 [] rfl HO.out a ms.length cap (fl ms) rfl (fl_len ms) hnews.out (fl_one ms) (by unfold maxLen;omega) (by omega) (by simp) ?_)
   intro v' w' r1 r2 r3
   go_wp2_with fail
   go_ret
   refine ⟨v',rfl,?_,?_⟩
   ·simpa using r1
   ·exact ((Below.refl _ _).alloc (Nat.le_refl _) _).grown r2 (by simp) (fun k hk=>by simp [Value.ownBlock] at hk;omega)
end Gw
namespace Wh
open Go.RowKit
set_option maxHeartbeats 800000 in
theorem clone_any (ms:List Whe) (v:Value) (w:World) (h:Sl w v ms) (hn:ms.length≤1000) :
 Calls Tryz.prog 74 #[v] w fun e w'=>∃ v',e=.returned v'∧Own w.heap.size w' v' ms∧Below w.heap.size w w':=by
 obtain ⟨a,cap,rfl,hs,h⟩:=h
 obtain ⟨i0,hi0,hz0,hzs,hzb⟩:=info_parts Tryz.info109
 cases a with
 | none=>
   have he:ms=[]:=by
    rcases h with h | ⟨b,off,h,_⟩
    ·exact h
    ·cases h
   subst he
   clear h hs
   have hnil:=fun (w:World)=>Lib.run_eql_slice_nil (P:=Tryz.prog) w 49 109 none 0 cap 0 0 Tryz.underlying49
   simp only [List.length_nil,Option.isNone_none] at hnil ⊢
   go_enter Tryz.func74,Tryz.ntmps74
   go_wp2_with fail
   go_ret
   exact ⟨_,rfl,own_nil _ _,Below.refl _ _⟩
 | some a=>
   have hnil:=fun (w:World)=>Lib.run_eql_slice_nil (P:=Tryz.prog) w 49 109 (some a) ms.length cap 0 0 Tryz.underlying49
   simp only [Option.isNone_some] at hnil
   have hnews:Hid (∀ j u,(fl ms)[j]?=some u→(w.alloc (.cells #[] 109)).cell? (a.add j)=some u):=by
    intro j u hj
    rcases h with h | ⟨b,off,h,hb,hr⟩
    ·subst h;simp [fl] at hj
    ·cases h
     have hjl:j < ms.length * 6:=by rw [← fl_len];exact (List.getElem?_eq_some_iff.1 hj).1
     have h1:=fl_get ms (j / 6) (by omega) (j%6) (by omega)
     rw [show j / 6 * 6+j%6=j by omega,hj] at h1
     rw [Addr.add_lit,World.cell?_alloc_past (w:=w) _ b _ hb]
     obtain ⟨c0,c1,c2,c3,c4,c5⟩:=hr (j / 6) (by omega)
     have hcs:j%6=0∨j%6=1∨j%6=2∨j%6=3∨j%6=4∨j%6=5:=by omega
     rcases hcs with e | e | e | e | e | e
     ·rw [show off+j=off+j / 6 * 6 by omega,c0];rw [e] at h1;simpa [Whe.cs] using h1.symm
     ·rw [show off+j=off+j / 6 * 6+1 by omega,c1];rw [e] at h1;simpa [Whe.cs] using h1.symm
     ·rw [show off+j=off+j / 6 * 6+2 by omega,c2];rw [e] at h1;simpa [Whe.cs] using h1.symm
     ·rw [show off+j=off+j / 6 * 6+3 by omega,c3];rw [e] at h1;simpa [Whe.cs] using h1.symm
     ·rw [show off+j=off+j / 6 * 6+4 by omega,c4];rw [e] at h1;simpa [Whe.cs] using h1.symm
     ·rw [show off+j=off+j / 6 * 6+5 by omega,c5];rw [e] at h1;simpa [Whe.cs] using h1.symm
   have HO:Hid ((w.alloc (.cells #[] 109)).ownsRow w.heap.size 109 6 (.slice (some ⟨w.heap.size,0,none⟩) 0 0) 0 []):=World.ownsRow_made w #[] 0 (Nat.le_refl _) (by unfold maxLen;omega) rfl
   clear h hs
   go_enter Tryz.func74,Tryz.ntmps74
   go_wp2_with (at_builtin;refine wpList_append_own _ rfl _ _ 49 rfl w.heap.size 109 i0 _ 6 56 Tryz.underlying49 hi0 hz0 hzs hzb rfl (by omega) _ 0 [] rfl HO.out a ms.length cap (fl ms) rfl (fl_len ms) hnews.out (fl_one ms) (by unfold maxLen;omega) (by omega) (by simp) ?_)
   intro v' w' r1 r2 r3
   go_wp2_with fail
   go_ret
   refine ⟨v',rfl,?_,?_⟩
   ·simpa using r1
   ·exact ((Below.refl _ _).alloc (Nat.le_refl _) _).grown r2 (by simp) (fun k hk=>by simp [Value.ownBlock] at hk;omega)
end Wh
end Go.Proofs.YtffdoiokmiklgaaGreatDoor
namespace Go.Proofs.YtffdoiokmiklgaaGreatDoor
open Go.RowKit
theorem cells12 {W:World} {b:Nat} {T:TypeId} {f:Nat × Nat} {c0 c1 c2 c3 c4 c5 c6 c7 c8 c9 c10 c11:Value} (h:W.heap[b]?=some (.cells #[c0,c1,c2,c3,c4,c5,c6,c7,c8,c9,c10,c11] T f)):W.cell? ⟨b,0,none⟩=some c0∧W.cell? ⟨b,1,none⟩=some c1∧W.cell? ⟨b,2,none⟩=some c2∧W.cell? ⟨b,3,none⟩=some c3∧W.cell? ⟨b,4,none⟩=some c4∧W.cell? ⟨b,5,none⟩=some c5∧W.cell? ⟨b,6,none⟩=some c6∧W.cell? ⟨b,7,none⟩=some c7∧W.cell? ⟨b,8,none⟩=some c8∧W.cell? ⟨b,9,none⟩=some c9∧W.cell? ⟨b,10,none⟩=some c10∧W.cell? ⟨b,11,none⟩=some c11:=⟨cellsAt h 0,cellsAt h 1,cellsAt h 2,cellsAt h 3,cellsAt h 4,cellsAt h 5,cellsAt h 6,cellsAt h 7,cellsAt h 8,cellsAt h 9,cellsAt h 10,cellsAt h 11⟩
theorem frz12 {W:World} {b:Nat} {T:TypeId} {cs:Array Value} (h:W.heap[b]?=some (.cells cs T (0,0))):W.frozen? ⟨b,0,none⟩=false∧W.frozen? ⟨b,1,none⟩=false∧W.frozen? ⟨b,2,none⟩=false∧W.frozen? ⟨b,3,none⟩=false∧W.frozen? ⟨b,4,none⟩=false∧W.frozen? ⟨b,5,none⟩=false∧W.frozen? ⟨b,6,none⟩=false∧W.frozen? ⟨b,7,none⟩=false∧W.frozen? ⟨b,8,none⟩=false∧W.frozen? ⟨b,9,none⟩=false∧W.frozen? ⟨b,10,none⟩=false∧W.frozen? ⟨b,11,none⟩=false:=by simp [World.frozen?,h]
theorem cells6 {W:World} {b:Nat} {T:TypeId} {f:Nat × Nat} {c0 c1 c2 c3 c4 c5:Value} (h:W.heap[b]?=some (.cells #[c0,c1,c2,c3,c4,c5] T f)):W.cell? ⟨b,0,none⟩=some c0∧W.cell? ⟨b,1,none⟩=some c1∧W.cell? ⟨b,2,none⟩=some c2∧W.cell? ⟨b,3,none⟩=some c3∧W.cell? ⟨b,4,none⟩=some c4∧W.cell? ⟨b,5,none⟩=some c5:=⟨cellsAt h 0,cellsAt h 1,cellsAt h 2,cellsAt h 3,cellsAt h 4,cellsAt h 5⟩
theorem frz6 {W:World} {b:Nat} {T:TypeId} {cs:Array Value} (h:W.heap[b]?=some (.cells cs T (0,0))):W.frozen? ⟨b,0,none⟩=false∧W.frozen? ⟨b,1,none⟩=false∧W.frozen? ⟨b,2,none⟩=false∧W.frozen? ⟨b,3,none⟩=false∧W.frozen? ⟨b,4,none⟩=false∧W.frozen? ⟨b,5,none⟩=false:=by simp [World.frozen?,h]
theorem cells5 {W:World} {b:Nat} {T:TypeId} {f:Nat × Nat} {c0 c1 c2 c3 c4:Value} (h:W.heap[b]?=some (.cells #[c0,c1,c2,c3,c4] T f)):W.cell? ⟨b,0,none⟩=some c0∧W.cell? ⟨b,1,none⟩=some c1∧W.cell? ⟨b,2,none⟩=some c2∧W.cell? ⟨b,3,none⟩=some c3∧W.cell? ⟨b,4,none⟩=some c4:=⟨cellsAt h 0,cellsAt h 1,cellsAt h 2,cellsAt h 3,cellsAt h 4⟩
theorem below_set12 {B b:Nat} {a w:World} (h:Below B a w) (hb:B≤b) (x0 x1 x2 x3 x4 x5 x6 x7 x8 x9 x10 x11:Value):Below B a ((((((((((((w.setCell ⟨b,0,none⟩ x0).setCell ⟨b,1,none⟩ x1).setCell ⟨b,2,none⟩ x2).setCell ⟨b,3,none⟩ x3).setCell ⟨b,4,none⟩ x4).setCell ⟨b,5,none⟩ x5).setCell ⟨b,6,none⟩ x6).setCell ⟨b,7,none⟩ x7).setCell ⟨b,8,none⟩ x8).setCell ⟨b,9,none⟩ x9).setCell ⟨b,10,none⟩ x10).setCell ⟨b,11,none⟩ x11):=((((((((((((h).setCell (p:=⟨b,0,none⟩) hb _).setCell (p:=⟨b,1,none⟩) hb _).setCell (p:=⟨b,2,none⟩) hb _).setCell (p:=⟨b,3,none⟩) hb _).setCell (p:=⟨b,4,none⟩) hb _).setCell (p:=⟨b,5,none⟩) hb _).setCell (p:=⟨b,6,none⟩) hb _).setCell (p:=⟨b,7,none⟩) hb _).setCell (p:=⟨b,8,none⟩) hb _).setCell (p:=⟨b,9,none⟩) hb _).setCell (p:=⟨b,10,none⟩) hb _).setCell (p:=⟨b,11,none⟩) hb _
theorem owns_set12 {base b n k:Nat} {T:TypeId} {w:World} {v:Value} {xs:List Value} (h:w.ownsRow base T k v n xs) (hb:b < base) (x0 x1 x2 x3 x4 x5 x6 x7 x8 x9 x10 x11:Value):((((((((((((w.setCell ⟨b,0,none⟩ x0).setCell ⟨b,1,none⟩ x1).setCell ⟨b,2,none⟩ x2).setCell ⟨b,3,none⟩ x3).setCell ⟨b,4,none⟩ x4).setCell ⟨b,5,none⟩ x5).setCell ⟨b,6,none⟩ x6).setCell ⟨b,7,none⟩ x7).setCell ⟨b,8,none⟩ x8).setCell ⟨b,9,none⟩ x9).setCell ⟨b,10,none⟩ x10).setCell ⟨b,11,none⟩ x11).ownsRow base T k v n xs:=ownsRow_setCell_below (ownsRow_setCell_below (ownsRow_setCell_below (ownsRow_setCell_below (ownsRow_setCell_below (ownsRow_setCell_below (ownsRow_setCell_below (ownsRow_setCell_below (ownsRow_setCell_below (ownsRow_setCell_below (ownsRow_setCell_below (ownsRow_setCell_below (h) (a:=⟨b,0,none⟩) hb _) (a:=⟨b,1,none⟩) hb _) (a:=⟨b,2,none⟩) hb _) (a:=⟨b,3,none⟩) hb _) (a:=⟨b,4,none⟩) hb _) (a:=⟨b,5,none⟩) hb _) (a:=⟨b,6,none⟩) hb _) (a:=⟨b,7,none⟩) hb _) (a:=⟨b,8,none⟩) hb _) (a:=⟨b,9,none⟩) hb _) (a:=⟨b,10,none⟩) hb _) (a:=⟨b,11,none⟩) hb _
structure NdOwn (B:Nat) (w:World) (n:Nd) (vm vr vs vg vw:Value):Prop where
 ms:Own B w vm n.ms
 rs:ROwn B w vr n.rs
 sv:Sv.Own B w vs n.sv
 gw:Gw.Own B w vg n.gw
 wh:Wh.Own B w vw n.wh
theorem own_slice {base n k:Nat} {T:TypeId} {w:World} {v:Value} {xs:List Value} (h:w.ownsRow base T k v n xs):∃ a c,v=.slice a n c∧n≤c:=by
 rcases h.2 with ⟨h1,h2⟩ | ⟨g,c,cur,h1,_,_,hn,_⟩
 ·subst h2;exact ⟨none,0,h1,Nat.le_refl _⟩
 ·exact ⟨_,c,h1,hn⟩
theorem NdOwn.below {B:Nat} {w w':World} {n:Nd} {vm vr vs vg vw:Value} (h:NdOwn B w n vm vr vs vg vw) (hb:Below w.heap.size w w'):NdOwn B w' n vm vr vs vg vw:=⟨h.ms.below hb,h.rs.below hb,h.sv.below hb,h.gw.below hb,h.wh.below hb⟩
structure NdOk (n:Nd):Prop where
 ms:∀ m∈n.ms,m.name.size≤maxLen
 rs:∀ r∈n.rs,r.m.name.size≤maxLen
 sv:∀ m∈n.sv,m.ok
 gw:∀ m∈n.gw,m.ok
 wh:∀ m∈n.wh,m.ok
 name:n.name.size≤maxLen
 centre:n.centre.size≤maxLen
theorem NdIs.ok {w:World} {n:Nd} {vm vr vs vg vw:Value} (h:NdIs w n vm vr vs vg vw):NdOk n:=by
 obtain ⟨⟨_,_,_,h1,_⟩,⟨_,_,_,h2,_⟩,⟨_,_,_,h3,_⟩,⟨_,_,_,h4,_⟩,⟨_,_,_,h5,_⟩,h6,h7⟩:=h
 exact ⟨ns_mem h1,rns_mem h2,Sv.ns_mem h3,Gw.ns_mem h4,Wh.ns_mem h5,h6,h7⟩
theorem NdOwn.is {B:Nat} {w:World} {n:Nd} {vm vr vs vg vw:Value} (h:NdOwn B w n vm vr vs vg vw) (hk:NdOk n):NdIs w n vm vr vs vg vw:=
 ⟨h.ms.sl (ns_get hk.ms),h.rs.sl (rns_get hk.rs),h.sv.sl (Sv.ns_get hk.sv),h.gw.sl (Gw.ns_get hk.gw),h.wh.sl (Wh.ns_get hk.wh),hk.name,hk.centre⟩
set_option maxHeartbeats 12800000 in
set_option maxRecDepth 100000 in
theorem fresh_any (n:Nd) (vm vr vs vg vw:Value) (w:World) (h:NdIs w n vm vr vs vg vw) (l1:n.ms.length≤1000) (l2:n.rs.length≤1000) (l3:n.sv.length≤1000) (l4:n.gw.length≤1000) (l5:n.wh.length≤1000) :
 Calls Tryz.prog 36 #[.agg (ndA n vm vr vs vg vw)] w fun e w'=>∃ um ur us ug uw,e=.returned (.agg (ndA n um ur us ug uw))∧NdOwn w.heap.size w' n um ur us ug uw∧Below w.heap.size w w':=by
 obtain ⟨nm,ct,ms,rs,sv,gw,⟨px,py,pz,ph,pq⟩,wh⟩:=n
 obtain ⟨hm,hr,hs,hgw,hh,_,_⟩:=h
 simp only at hm hr hs hgw hh l1 l2 l3 l4 l5
 have Hm:Hid (∀ W,Below w.heap.size w W→Calls Tryz.prog 70 #[vm] W fun e w'=>∃ v',e=.returned v'∧Own W.heap.size w' v' ms∧Below W.heap.size W w'):=fun W hW=>clone_any ms vm W (hm.below hW) l1
 have Hr:Hid (∀ W,Below w.heap.size w W→Calls Tryz.prog 71 #[vr] W fun e w'=>∃ v',e=.returned v'∧ROwn W.heap.size w' v' rs∧Below W.heap.size W w'):=fun W hW=>rclone_any rs vr W (hr.below hW) l2
 have Hs:Hid (∀ W,Below w.heap.size w W→Calls Tryz.prog 72 #[vs] W fun e w'=>∃ v',e=.returned v'∧Sv.Own W.heap.size w' v' sv∧Below W.heap.size W w'):=fun W hW=>Sv.clone_any sv vs W (hs.below hW) l3
 have Hg:Hid (∀ W,Below w.heap.size w W→Calls Tryz.prog 73 #[vg] W fun e w'=>∃ v',e=.returned v'∧Gw.Own W.heap.size w' v' gw∧Below W.heap.size W w'):=fun W hW=>Gw.clone_any gw vg W (hgw.below hW) l4
 have Hh:Hid (∀ W,Below w.heap.size w W→Calls Tryz.prog 74 #[vw] W fun e w'=>∃ v',e=.returned v'∧Wh.Own W.heap.size w' v' wh∧Below W.heap.size W w'):=fun W hW=>Wh.clone_any wh vw W (hh.below hW) l5
 obtain ⟨em,cm,rfl,_,_⟩:=hm
 obtain ⟨er,cr,rfl,_,_⟩:=hr
 obtain ⟨es,cs,rfl,_,_⟩:=hs
 obtain ⟨eg,cg,rfl,_,_⟩:=hgw
 obtain ⟨eh,ch,rfl,_,_⟩:=hh
 generalize hNm:ms.length=km at *
 have HNm:Hid (ms.length=km):=hNm
 clear hNm
 generalize hNr:rs.length=kr at *
 have HNr:Hid (rs.length=kr):=hNr
 clear hNr
 generalize hNs:sv.length=ks at *
 have HNs:Hid (sv.length=ks):=hNs
 clear hNs
 generalize hNg:gw.length=kg at *
 have HNg:Hid (gw.length=kg):=hNg
 clear hNg
 generalize hNh:wh.length=kh at *
 have HNh:Hid (wh.length=kh):=hNh
 clear hNh
 simp only [ndA]
 obtain ⟨W0,hW0⟩:∃ W0,W0=(w.alloc (.cells #[.string nm,.string ct,.slice em km cm,.slice er kr cr,.slice es ks cs,.slice eg kg cg,.int .i64 px,.int .i64 py,.int .i64 pz,.int .i64 ph,.int .i64 pq,.slice eh kh ch] 51)).alloc (.cells #[.string ⟨#[]⟩,.string ⟨#[]⟩,.slice none 0 0,.slice none 0 0,.slice none 0 0,.slice none 0 0,.int .i64 0,.int .i64 0,.int .i64 0,.int .i64 0,.int .i64 0,.slice none 0 0] 51):=⟨_,rfl⟩
 have hb0:Below w.heap.size w W0:=by rw [hW0];exact ((Below.refl _ _).alloc (Nat.le_refl _) _).alloc (by simp) _
 have hg0:W0.heap[w.heap.size]?=some (.cells #[.string nm,.string ct,.slice em km cm,.slice er kr cr,.slice es ks cs,.slice eg kg cg,.int .i64 px,.int .i64 py,.int .i64 pz,.int .i64 ph,.int .i64 pq,.slice eh kh ch] 51 (0,0)):=by
  rw [hW0,Below.heap_alloc _ _ _ (by simp)];exact heap_alloc_new w _
 have hz0:W0.heap[w.heap.size+1]?=some (.cells #[.string ⟨#[]⟩,.string ⟨#[]⟩,.slice none 0 0,.slice none 0 0,.slice none 0 0,.slice none 0 0,.int .i64 0,.int .i64 0,.int .i64 0,.int .i64 0,.int .i64 0,.slice none 0 0] 51 (0,0)):=by
  have h:=heap_alloc_new (w.alloc (.cells #[.string nm,.string ct,.slice em km cm,.slice er kr cr,.slice es ks cs,.slice eg kg cg,.int .i64 px,.int .i64 py,.int .i64 pz,.int .i64 ph,.int .i64 pq,.slice eh kh ch] 51)) (.cells #[.string ⟨#[]⟩,.string ⟨#[]⟩,.slice none 0 0,.slice none 0 0,.slice none 0 0,.slice none 0 0,.int .i64 0,.int .i64 0,.int .i64 0,.int .i64 0,.int .i64 0,.slice none 0 0] 51)
  rw [hW0];simpa using h
 have hs0:w.heap.size+1 < W0.heap.size:=by rw [hW0];simp
 have HB0:Hid (Below w.heap.size w W0):=hb0
 have HG0:Hid (W0.heap[w.heap.size]?=some (.cells #[.string nm,.string ct,.slice em km cm,.slice er kr cr,.slice es ks cs,.slice eg kg cg,.int .i64 px,.int .i64 py,.int .i64 pz,.int .i64 ph,.int .i64 pq,.slice eh kh ch] 51 (0,0))):=hg0
 have HZ0:Hid (W0.heap[w.heap.size+1]?=some (.cells #[.string ⟨#[]⟩,.string ⟨#[]⟩,.slice none 0 0,.slice none 0 0,.slice none 0 0,.slice none 0 0,.int .i64 0,.int .i64 0,.int .i64 0,.int .i64 0,.int .i64 0,.slice none 0 0] 51 (0,0))):=hz0
 clear hb0 hg0 hz0
 go_enter Tryz.func36,Tryz.ntmps36
 go_wp2_with fail
 rw [← hW0]
 clear hW0
 refine (Hm.out W0 HB0.out).mono ?_
 rintro e X1 ⟨v',rfl,ho,hx⟩
 obtain ⟨bm,dm',hv',_⟩:=own_slice ho
 rw [HNm.out] at hv'
 subst hv'
 have hgx:X1.heap[w.heap.size]?=some (.cells #[.string nm,.string ct,.slice em km cm,.slice er kr cr,.slice es ks cs,.slice eg kg cg,.int .i64 px,.int .i64 py,.int .i64 pz,.int .i64 ph,.int .i64 pq,.slice eh kh ch] 51 (0,0)):=(hx.block _ (by omega)).trans HG0.out
 obtain ⟨y0,y1,y2,y3,y4,y5,y6,y7,y8,y9,y10,y11⟩:=cells12 hgx
 have z2:X1.frozen? ⟨w.heap.size,2,none⟩=false:=by simp [World.frozen?,hgx]
 have hsx:w.heap.size < X1.heap.size:=by have:=hx.size;omega
 obtain ⟨W1,hW1⟩:∃ W1,W1=X1.setCell ⟨w.heap.size,2,none⟩ (.slice bm km dm'):=⟨_,rfl⟩
 have HG1:Hid (W1.heap[w.heap.size]?=some (.cells #[.string nm,.string ct,.slice bm km dm',.slice er kr cr,.slice es ks cs,.slice eg kg cg,.int .i64 px,.int .i64 py,.int .i64 pz,.int .i64 ph,.int .i64 pq,.slice eh kh ch] 51 (0,0))):=by rw [hW1];exact Joins.block_setCell (i:=2) hgx _
 have HZ1:Hid (W1.heap[w.heap.size+1]?=some (.cells #[.string ⟨#[]⟩,.string ⟨#[]⟩,.slice none 0 0,.slice none 0 0,.slice none 0 0,.slice none 0 0,.int .i64 0,.int .i64 0,.int .i64 0,.int .i64 0,.int .i64 0,.slice none 0 0] 51 (0,0))):=by rw [hW1];exact (Below.heap_setCell _ _ _ _ (by simp)).trans ((hx.block _ (by omega)).trans HZ0.out)
 have HOm1:Hid (Own (w.heap.size+2) W1 (.slice bm km dm') ms):=by rw [hW1];exact ownsRow_setCell_below (ho.mono (by omega)) (by simp) _
 have HB1:Hid (Below w.heap.size w W1):=by rw [hW1];exact (HB0.out.trans (hx.mono HB0.out.size)).setCell (p:=⟨w.heap.size,2,none⟩) (by simp) _
 have hs1:w.heap.size+1 < W1.heap.size:=(Array.getElem?_eq_some_iff.1 HZ1.out).1
 clear ho hx hgx hs0
 go_wp2_with fail
 rw [← hW1]
 clear hW1 y0 y1 y2 y3 y4 y5 y6 y7 y8 y9 y10 y11 z2 hsx
 refine (Hr.out W1 HB1.out).mono ?_
 rintro e X2 ⟨v',rfl,ho,hx⟩
 obtain ⟨br,dr',hv',_⟩:=own_slice ho
 rw [HNr.out] at hv'
 subst hv'
 have hgx:X2.heap[w.heap.size]?=some (.cells #[.string nm,.string ct,.slice bm km dm',.slice er kr cr,.slice es ks cs,.slice eg kg cg,.int .i64 px,.int .i64 py,.int .i64 pz,.int .i64 ph,.int .i64 pq,.slice eh kh ch] 51 (0,0)):=(hx.block _ (by omega)).trans HG1.out
 obtain ⟨y0,y1,y2,y3,y4,y5,y6,y7,y8,y9,y10,y11⟩:=cells12 hgx
 have z3:X2.frozen? ⟨w.heap.size,3,none⟩=false:=by simp [World.frozen?,hgx]
 have hsx:w.heap.size < X2.heap.size:=by have:=hx.size;omega
 obtain ⟨W2,hW2⟩:∃ W2,W2=X2.setCell ⟨w.heap.size,3,none⟩ (.slice br kr dr'):=⟨_,rfl⟩
 have HG2:Hid (W2.heap[w.heap.size]?=some (.cells #[.string nm,.string ct,.slice bm km dm',.slice br kr dr',.slice es ks cs,.slice eg kg cg,.int .i64 px,.int .i64 py,.int .i64 pz,.int .i64 ph,.int .i64 pq,.slice eh kh ch] 51 (0,0))):=by rw [hW2];exact Joins.block_setCell (i:=3) hgx _
 have HZ2:Hid (W2.heap[w.heap.size+1]?=some (.cells #[.string ⟨#[]⟩,.string ⟨#[]⟩,.slice none 0 0,.slice none 0 0,.slice none 0 0,.slice none 0 0,.int .i64 0,.int .i64 0,.int .i64 0,.int .i64 0,.int .i64 0,.slice none 0 0] 51 (0,0))):=by rw [hW2];exact (Below.heap_setCell _ _ _ _ (by simp)).trans ((hx.block _ (by omega)).trans HZ1.out)
 have HOr2:Hid (ROwn (w.heap.size+2) W2 (.slice br kr dr') rs):=by rw [hW2];exact ownsRow_setCell_below (ho.base (by omega)) (by simp) _
 have HOm2:Hid (Own (w.heap.size+2) W2 (.slice bm km dm') ms):=by rw [hW2];exact ownsRow_setCell_below (HOm1.out.below hx) (by simp) _
 have HB2:Hid (Below w.heap.size w W2):=by rw [hW2];exact (HB1.out.trans (hx.mono HB1.out.size)).setCell (p:=⟨w.heap.size,3,none⟩) (by simp) _
 have hs2:w.heap.size+1 < W2.heap.size:=(Array.getElem?_eq_some_iff.1 HZ2.out).1
 clear ho hx hgx hs1
 go_wp2_with fail
 rw [← hW2]
 clear hW2 y0 y1 y2 y3 y4 y5 y6 y7 y8 y9 y10 y11 z3 hsx
 refine (Hs.out W2 HB2.out).mono ?_
 rintro e X3 ⟨v',rfl,ho,hx⟩
 obtain ⟨bs,ds',hv',_⟩:=own_slice ho
 rw [HNs.out] at hv'
 subst hv'
 have hgx:X3.heap[w.heap.size]?=some (.cells #[.string nm,.string ct,.slice bm km dm',.slice br kr dr',.slice es ks cs,.slice eg kg cg,.int .i64 px,.int .i64 py,.int .i64 pz,.int .i64 ph,.int .i64 pq,.slice eh kh ch] 51 (0,0)):=(hx.block _ (by omega)).trans HG2.out
 obtain ⟨y0,y1,y2,y3,y4,y5,y6,y7,y8,y9,y10,y11⟩:=cells12 hgx
 have z4:X3.frozen? ⟨w.heap.size,4,none⟩=false:=by simp [World.frozen?,hgx]
 have hsx:w.heap.size < X3.heap.size:=by have:=hx.size;omega
 obtain ⟨W3,hW3⟩:∃ W3,W3=X3.setCell ⟨w.heap.size,4,none⟩ (.slice bs ks ds'):=⟨_,rfl⟩
 have HG3:Hid (W3.heap[w.heap.size]?=some (.cells #[.string nm,.string ct,.slice bm km dm',.slice br kr dr',.slice bs ks ds',.slice eg kg cg,.int .i64 px,.int .i64 py,.int .i64 pz,.int .i64 ph,.int .i64 pq,.slice eh kh ch] 51 (0,0))):=by rw [hW3];exact Joins.block_setCell (i:=4) hgx _
 have HZ3:Hid (W3.heap[w.heap.size+1]?=some (.cells #[.string ⟨#[]⟩,.string ⟨#[]⟩,.slice none 0 0,.slice none 0 0,.slice none 0 0,.slice none 0 0,.int .i64 0,.int .i64 0,.int .i64 0,.int .i64 0,.int .i64 0,.slice none 0 0] 51 (0,0))):=by rw [hW3];exact (Below.heap_setCell _ _ _ _ (by simp)).trans ((hx.block _ (by omega)).trans HZ2.out)
 have HOs3:Hid (Sv.Own (w.heap.size+2) W3 (.slice bs ks ds') sv):=by rw [hW3];exact ownsRow_setCell_below (ho.mono (by omega)) (by simp) _
 have HOm3:Hid (Own (w.heap.size+2) W3 (.slice bm km dm') ms):=by rw [hW3];exact ownsRow_setCell_below (HOm2.out.below hx) (by simp) _
 have HOr3:Hid (ROwn (w.heap.size+2) W3 (.slice br kr dr') rs):=by rw [hW3];exact ownsRow_setCell_below (HOr2.out.below hx) (by simp) _
 have HB3:Hid (Below w.heap.size w W3):=by rw [hW3];exact (HB2.out.trans (hx.mono HB2.out.size)).setCell (p:=⟨w.heap.size,4,none⟩) (by simp) _
 have hs3:w.heap.size+1 < W3.heap.size:=(Array.getElem?_eq_some_iff.1 HZ3.out).1
 clear ho hx hgx hs2
 go_wp2_with fail
 rw [← hW3]
 clear hW3 y0 y1 y2 y3 y4 y5 y6 y7 y8 y9 y10 y11 z4 hsx
 refine (Hg.out W3 HB3.out).mono ?_
 rintro e X4 ⟨v',rfl,ho,hx⟩
 obtain ⟨bg,dg',hv',_⟩:=own_slice ho
 rw [HNg.out] at hv'
 subst hv'
 have hgx:X4.heap[w.heap.size]?=some (.cells #[.string nm,.string ct,.slice bm km dm',.slice br kr dr',.slice bs ks ds',.slice eg kg cg,.int .i64 px,.int .i64 py,.int .i64 pz,.int .i64 ph,.int .i64 pq,.slice eh kh ch] 51 (0,0)):=(hx.block _ (by omega)).trans HG3.out
 obtain ⟨y0,y1,y2,y3,y4,y5,y6,y7,y8,y9,y10,y11⟩:=cells12 hgx
 have z5:X4.frozen? ⟨w.heap.size,5,none⟩=false:=by simp [World.frozen?,hgx]
 have hsx:w.heap.size < X4.heap.size:=by have:=hx.size;omega
 obtain ⟨W4,hW4⟩:∃ W4,W4=X4.setCell ⟨w.heap.size,5,none⟩ (.slice bg kg dg'):=⟨_,rfl⟩
 have HG4:Hid (W4.heap[w.heap.size]?=some (.cells #[.string nm,.string ct,.slice bm km dm',.slice br kr dr',.slice bs ks ds',.slice bg kg dg',.int .i64 px,.int .i64 py,.int .i64 pz,.int .i64 ph,.int .i64 pq,.slice eh kh ch] 51 (0,0))):=by rw [hW4];exact Joins.block_setCell (i:=5) hgx _
 have HZ4:Hid (W4.heap[w.heap.size+1]?=some (.cells #[.string ⟨#[]⟩,.string ⟨#[]⟩,.slice none 0 0,.slice none 0 0,.slice none 0 0,.slice none 0 0,.int .i64 0,.int .i64 0,.int .i64 0,.int .i64 0,.int .i64 0,.slice none 0 0] 51 (0,0))):=by rw [hW4];exact (Below.heap_setCell _ _ _ _ (by simp)).trans ((hx.block _ (by omega)).trans HZ3.out)
 have HOg4:Hid (Gw.Own (w.heap.size+2) W4 (.slice bg kg dg') gw):=by rw [hW4];exact ownsRow_setCell_below (ho.mono (by omega)) (by simp) _
 have HOm4:Hid (Own (w.heap.size+2) W4 (.slice bm km dm') ms):=by rw [hW4];exact ownsRow_setCell_below (HOm3.out.below hx) (by simp) _
 have HOr4:Hid (ROwn (w.heap.size+2) W4 (.slice br kr dr') rs):=by rw [hW4];exact ownsRow_setCell_below (HOr3.out.below hx) (by simp) _
 have HOs4:Hid (Sv.Own (w.heap.size+2) W4 (.slice bs ks ds') sv):=by rw [hW4];exact ownsRow_setCell_below (HOs3.out.below hx) (by simp) _
 have HB4:Hid (Below w.heap.size w W4):=by rw [hW4];exact (HB3.out.trans (hx.mono HB3.out.size)).setCell (p:=⟨w.heap.size,5,none⟩) (by simp) _
 have hs4:w.heap.size+1 < W4.heap.size:=(Array.getElem?_eq_some_iff.1 HZ4.out).1
 clear ho hx hgx hs3
 go_wp2_with fail
 rw [← hW4]
 clear hW4 y0 y1 y2 y3 y4 y5 y6 y7 y8 y9 y10 y11 z5 hsx
 refine (Hh.out W4 HB4.out).mono ?_
 rintro e X5 ⟨v',rfl,ho,hx⟩
 obtain ⟨bh,dh',hv',_⟩:=own_slice ho
 rw [HNh.out] at hv'
 subst hv'
 have hgx:X5.heap[w.heap.size]?=some (.cells #[.string nm,.string ct,.slice bm km dm',.slice br kr dr',.slice bs ks ds',.slice bg kg dg',.int .i64 px,.int .i64 py,.int .i64 pz,.int .i64 ph,.int .i64 pq,.slice eh kh ch] 51 (0,0)):=(hx.block _ (by omega)).trans HG4.out
 obtain ⟨y0,y1,y2,y3,y4,y5,y6,y7,y8,y9,y10,y11⟩:=cells12 hgx
 have z11:X5.frozen? ⟨w.heap.size,11,none⟩=false:=by simp [World.frozen?,hgx]
 have hsx:w.heap.size < X5.heap.size:=by have:=hx.size;omega
 obtain ⟨W5,hW5⟩:∃ W5,W5=X5.setCell ⟨w.heap.size,11,none⟩ (.slice bh kh dh'):=⟨_,rfl⟩
 have HG5:Hid (W5.heap[w.heap.size]?=some (.cells #[.string nm,.string ct,.slice bm km dm',.slice br kr dr',.slice bs ks ds',.slice bg kg dg',.int .i64 px,.int .i64 py,.int .i64 pz,.int .i64 ph,.int .i64 pq,.slice bh kh dh'] 51 (0,0))):=by rw [hW5];exact Joins.block_setCell (i:=11) hgx _
 have HZ5:Hid (W5.heap[w.heap.size+1]?=some (.cells #[.string ⟨#[]⟩,.string ⟨#[]⟩,.slice none 0 0,.slice none 0 0,.slice none 0 0,.slice none 0 0,.int .i64 0,.int .i64 0,.int .i64 0,.int .i64 0,.int .i64 0,.slice none 0 0] 51 (0,0))):=by rw [hW5];exact (Below.heap_setCell _ _ _ _ (by simp)).trans ((hx.block _ (by omega)).trans HZ4.out)
 have HOh5:Hid (Wh.Own (w.heap.size+2) W5 (.slice bh kh dh') wh):=by rw [hW5];exact ownsRow_setCell_below (ho.mono (by omega)) (by simp) _
 have HOm5:Hid (Own (w.heap.size+2) W5 (.slice bm km dm') ms):=by rw [hW5];exact ownsRow_setCell_below (HOm4.out.below hx) (by simp) _
 have HOr5:Hid (ROwn (w.heap.size+2) W5 (.slice br kr dr') rs):=by rw [hW5];exact ownsRow_setCell_below (HOr4.out.below hx) (by simp) _
 have HOs5:Hid (Sv.Own (w.heap.size+2) W5 (.slice bs ks ds') sv):=by rw [hW5];exact ownsRow_setCell_below (HOs4.out.below hx) (by simp) _
 have HOg5:Hid (Gw.Own (w.heap.size+2) W5 (.slice bg kg dg') gw):=by rw [hW5];exact ownsRow_setCell_below (HOg4.out.below hx) (by simp) _
 have HB5:Hid (Below w.heap.size w W5):=by rw [hW5];exact (HB4.out.trans (hx.mono HB4.out.size)).setCell (p:=⟨w.heap.size,11,none⟩) (by simp) _
 have hs5:w.heap.size+1 < W5.heap.size:=(Array.getElem?_eq_some_iff.1 HZ5.out).1
 have hz5:=HZ5.out
 have q0:W5.cell? ⟨w.heap.size+1,0,none⟩=_:=cellsAt hz5 0
 have p0:W5.cell? ⟨w.heap.size,0,none⟩=_:=cellsAt HG5.out 0
 have zz0:W5.frozen? ⟨w.heap.size+1,0,none⟩=false:=by simp [World.frozen?,hz5]
 have q1:W5.cell? ⟨w.heap.size+1,1,none⟩=_:=cellsAt hz5 1
 have p1:W5.cell? ⟨w.heap.size,1,none⟩=_:=cellsAt HG5.out 1
 have zz1:W5.frozen? ⟨w.heap.size+1,1,none⟩=false:=by simp [World.frozen?,hz5]
 have q2:W5.cell? ⟨w.heap.size+1,2,none⟩=_:=cellsAt hz5 2
 have p2:W5.cell? ⟨w.heap.size,2,none⟩=_:=cellsAt HG5.out 2
 have zz2:W5.frozen? ⟨w.heap.size+1,2,none⟩=false:=by simp [World.frozen?,hz5]
 have q3:W5.cell? ⟨w.heap.size+1,3,none⟩=_:=cellsAt hz5 3
 have p3:W5.cell? ⟨w.heap.size,3,none⟩=_:=cellsAt HG5.out 3
 have zz3:W5.frozen? ⟨w.heap.size+1,3,none⟩=false:=by simp [World.frozen?,hz5]
 have q4:W5.cell? ⟨w.heap.size+1,4,none⟩=_:=cellsAt hz5 4
 have p4:W5.cell? ⟨w.heap.size,4,none⟩=_:=cellsAt HG5.out 4
 have zz4:W5.frozen? ⟨w.heap.size+1,4,none⟩=false:=by simp [World.frozen?,hz5]
 have q5:W5.cell? ⟨w.heap.size+1,5,none⟩=_:=cellsAt hz5 5
 have p5:W5.cell? ⟨w.heap.size,5,none⟩=_:=cellsAt HG5.out 5
 have zz5:W5.frozen? ⟨w.heap.size+1,5,none⟩=false:=by simp [World.frozen?,hz5]
 have q6:W5.cell? ⟨w.heap.size+1,6,none⟩=_:=cellsAt hz5 6
 have p6:W5.cell? ⟨w.heap.size,6,none⟩=_:=cellsAt HG5.out 6
 have zz6:W5.frozen? ⟨w.heap.size+1,6,none⟩=false:=by simp [World.frozen?,hz5]
 have q7:W5.cell? ⟨w.heap.size+1,7,none⟩=_:=cellsAt hz5 7
 have p7:W5.cell? ⟨w.heap.size,7,none⟩=_:=cellsAt HG5.out 7
 have zz7:W5.frozen? ⟨w.heap.size+1,7,none⟩=false:=by simp [World.frozen?,hz5]
 have q8:W5.cell? ⟨w.heap.size+1,8,none⟩=_:=cellsAt hz5 8
 have p8:W5.cell? ⟨w.heap.size,8,none⟩=_:=cellsAt HG5.out 8
 have zz8:W5.frozen? ⟨w.heap.size+1,8,none⟩=false:=by simp [World.frozen?,hz5]
 have q9:W5.cell? ⟨w.heap.size+1,9,none⟩=_:=cellsAt hz5 9
 have p9:W5.cell? ⟨w.heap.size,9,none⟩=_:=cellsAt HG5.out 9
 have zz9:W5.frozen? ⟨w.heap.size+1,9,none⟩=false:=by simp [World.frozen?,hz5]
 have q10:W5.cell? ⟨w.heap.size+1,10,none⟩=_:=cellsAt hz5 10
 have p10:W5.cell? ⟨w.heap.size,10,none⟩=_:=cellsAt HG5.out 10
 have zz10:W5.frozen? ⟨w.heap.size+1,10,none⟩=false:=by simp [World.frozen?,hz5]
 have q11:W5.cell? ⟨w.heap.size+1,11,none⟩=_:=cellsAt hz5 11
 have p11:W5.cell? ⟨w.heap.size,11,none⟩=_:=cellsAt HG5.out 11
 have zz11:W5.frozen? ⟨w.heap.size+1,11,none⟩=false:=by simp [World.frozen?,hz5]
 clear ho hx hgx hs4 hz5
 go_upto_region 6 with fail
 rw [← hW5]
 clear hW5 y0 y1 y2 y3 y4 y5 y6 y7 y8 y9 y10 y11 z11 hsx
 go_wp2_with fail
 refine bodyPost_ret (v:=.agg #[.string nm,.string ct,.slice bm km dm',.slice br kr dr',.slice bs ks ds',.slice bg kg dg',.int .i64 px,.int .i64 py,.int .i64 pz,.int .i64 ph,.int .i64 pq,.slice bh kh dh']) ?_ rfl ⟨.slice bm km dm',.slice br kr dr',.slice bs ks ds',.slice bg kg dg',.slice bh kh dh',rfl,⟨?_,?_,?_,?_,?_⟩,?_⟩
 ·simp [results,Tryz.results36,go_sem,q0,q1,q2,q3,q4,q5,q6,q7,q8,q9,q10,q11]
 ·exact Own.mono (owns_set12 (HOm5.out) (by simp) _ _ _ _ _ _ _ _ _ _ _ _) (by omega)
 ·exact ROwn.base (owns_set12 (HOr5.out) (by simp) _ _ _ _ _ _ _ _ _ _ _ _) (by omega)
 ·exact Sv.Own.mono (owns_set12 (HOs5.out) (by simp) _ _ _ _ _ _ _ _ _ _ _ _) (by omega)
 ·exact Gw.Own.mono (owns_set12 (HOg5.out) (by simp) _ _ _ _ _ _ _ _ _ _ _ _) (by omega)
 ·exact Wh.Own.mono (owns_set12 (HOh5.out) (by simp) _ _ _ _ _ _ _ _ _ _ _ _) (by omega)
 ·exact below_set12 HB5.out (by simp) _ _ _ _ _ _ _ _ _ _ _ _
structure Sh (S:Nat→Prop) (w w':World):Prop where
 os:w'.os=w.os
 tape:w'.tape=w.tape
 output:w'.output=w.output
 size:w.heap.size≤w'.heap.size
 block:∀ k,k < w.heap.size→¬ S k→w'.heap[k]?=w.heap[k]?
theorem Sh.refl (S:Nat→Prop) (w:World):Sh S w w:=⟨rfl,rfl,rfl,Nat.le_refl _,fun _ _ _=>rfl⟩
theorem Sh.trans {S:Nat→Prop} {a b c:World} (h:Sh S a b) (k:Sh S b c):Sh S a c:=⟨k.os.trans h.os,k.tape.trans h.tape,k.output.trans h.output,Nat.le_trans h.size k.size,fun i hi hn=>(k.block i (Nat.lt_of_lt_of_le hi h.size) hn).trans (h.block i hi hn)⟩
theorem Sh.of {S:Nat→Prop} {w w':World} (h:Below w.heap.size w w'):Sh S w w':=⟨h.os,h.tape,h.output,h.size,fun k hk _=>h.block k hk⟩
theorem Sh.next {S:Nat→Prop} {a w w':World} (h:Sh S a w) (k:Below w.heap.size w w'):Sh S a w':=h.trans (.of k)
theorem Sh.alloc {S:Nat→Prop} {a w:World} (h:Sh S a w) (o:Obj):Sh S a (w.alloc o):=h.next ((Below.refl _ _).alloc (Nat.le_refl _) _)
theorem Sh.setCell {S:Nat→Prop} {a w:World} (h:Sh S a w) {b i:Nat} (hb:S b) (x:Value):Sh S a (w.setCell ⟨b,i,none⟩ x):=
 h.trans ⟨rfl,rfl,rfl,by simp [World.setCell],fun k _ hn=>Below.heap_setCell w _ x k (fun e=>hn (by simp only at e;rw [e];exact hb))⟩
theorem Sh.below {S:Nat→Prop} {w w':World} {B:Nat} (h:Sh S w w') (hB:B≤w.heap.size) (hS:∀ k,S k→B≤k):Below B w w':=⟨h.os,h.tape,h.output,h.size,fun k hk=>h.block k (by omega) (fun e=>by have:=hS k e;omega)⟩
theorem Sh.mono {S T:Nat→Prop} {w w':World} (h:Sh S w w') (hS:∀ k,S k→T k):Sh T w w':=⟨h.os,h.tape,h.output,h.size,fun k hk hn=>h.block k hk (fun e=>hn (hS k e))⟩
theorem frozen_of {w:World} {b:Nat} {cs:Array Value} {T:TypeId} (h:w.heap[b]?=some (.cells cs T (0,0))) (o:Nat):w.frozen? ⟨b,o,none⟩=false:=by simp [World.frozen?,h]
def Wk (L:Nat) (w:World) (b:Nat) (n:Nd):Prop:=∃ vm vr vs vg vw,w.heap[b]?=some (.cells (ndA n vm vr vs vg vw) 133 (0,0))∧NdOwn L w n vm vr vs vg vw ∧
 (vm.ownBlock≠some b∧vr.ownBlock≠some b∧vs.ownBlock≠some b∧vg.ownBlock≠some b∧vw.ownBlock≠some b)∧NdOk n
theorem Wk.below {L b:Nat} {w w':World} {n:Nd} (h:Wk L w b n) (hb:Below w.heap.size w w'):Wk L w' b n:=by
 obtain ⟨vm,vr,vs,vg,vw,h1,h2,h3,h4⟩:=h
 exact ⟨vm,vr,vs,vg,vw,(hb.block _ (Array.getElem?_eq_some_iff.1 h1).1).trans h1,h2.below hb,h3,h4⟩
theorem Wk.lt {L b:Nat} {w:World} {n:Nd} (h:Wk L w b n):b < w.heap.size:=by
 obtain ⟨vm,vr,vs,vg,vw,h1,_⟩:=h
 exact (Array.getElem?_eq_some_iff.1 h1).1
theorem Wk.set_ms {L b:Nat} {W w1:World} {n:Nd} (h:Wk L W b n) (hL:L≤W.heap.size) (hb:Below W.heap.size W w1) {v:Value} {l:List Mem} (ho:Own W.heap.size w1 v l) (hl:(∀ m∈l,m.name.size≤maxLen)):Wk L (w1.setCell ⟨b,2,none⟩ v) b { n with ms:=l }:=by
 obtain ⟨vm,vr,vs,vg,vw,h1,h2,h3,h4⟩:=h
 have hbl:b < W.heap.size:=(Array.getElem?_eq_some_iff.1 h1).1
 refine ⟨v,vr,vs,vg,vw,?_,⟨ownsRow_setCell_other (ho.mono hL) (fun e=>by have:=ho.lt b e;omega) _,ownsRow_setCell_other (h2.rs.below hb) h3.2.1 _,ownsRow_setCell_other (h2.sv.below hb) h3.2.2.1 _,ownsRow_setCell_other (h2.gw.below hb) h3.2.2.2.1 _,ownsRow_setCell_other (h2.wh.below hb) h3.2.2.2.2 _⟩,⟨fun e=>by have:=ho.lt b e;omega,h3.2.1,h3.2.2.1,h3.2.2.2.1,h3.2.2.2.2⟩,⟨hl,h4.rs,h4.sv,h4.gw,h4.wh,h4.name,h4.centre⟩⟩
 exact Joins.block_setCell (i:=2) ((hb.block _ hbl).trans h1) v
theorem Wk.set_rs {L b:Nat} {W w1:World} {n:Nd} (h:Wk L W b n) (hL:L≤W.heap.size) (hb:Below W.heap.size W w1) {v:Value} {l:List Rum} (ho:ROwn W.heap.size w1 v l) (hl:(∀ r∈l,r.m.name.size≤maxLen)):Wk L (w1.setCell ⟨b,3,none⟩ v) b { n with rs:=l }:=by
 obtain ⟨vm,vr,vs,vg,vw,h1,h2,h3,h4⟩:=h
 have hbl:b < W.heap.size:=(Array.getElem?_eq_some_iff.1 h1).1
 refine ⟨vm,v,vs,vg,vw,?_,⟨ownsRow_setCell_other (h2.ms.below hb) h3.1 _,ownsRow_setCell_other (ho.base hL) (fun e=>by have:=ho.lt b e;omega) _,ownsRow_setCell_other (h2.sv.below hb) h3.2.2.1 _,ownsRow_setCell_other (h2.gw.below hb) h3.2.2.2.1 _,ownsRow_setCell_other (h2.wh.below hb) h3.2.2.2.2 _⟩,⟨h3.1,fun e=>by have:=ho.lt b e;omega,h3.2.2.1,h3.2.2.2.1,h3.2.2.2.2⟩,⟨h4.ms,hl,h4.sv,h4.gw,h4.wh,h4.name,h4.centre⟩⟩
 exact Joins.block_setCell (i:=3) ((hb.block _ hbl).trans h1) v
theorem Wk.set_sv {L b:Nat} {W w1:World} {n:Nd} (h:Wk L W b n) (hL:L≤W.heap.size) (hb:Below W.heap.size W w1) {v:Value} {l:List Sv.Svc} (ho:Sv.Own W.heap.size w1 v l) (hl:(∀ m∈l,m.ok)):Wk L (w1.setCell ⟨b,4,none⟩ v) b { n with sv:=l }:=by
 obtain ⟨vm,vr,vs,vg,vw,h1,h2,h3,h4⟩:=h
 have hbl:b < W.heap.size:=(Array.getElem?_eq_some_iff.1 h1).1
 refine ⟨vm,vr,v,vg,vw,?_,⟨ownsRow_setCell_other (h2.ms.below hb) h3.1 _,ownsRow_setCell_other (h2.rs.below hb) h3.2.1 _,ownsRow_setCell_other (ho.mono hL) (fun e=>by have:=ho.lt b e;omega) _,ownsRow_setCell_other (h2.gw.below hb) h3.2.2.2.1 _,ownsRow_setCell_other (h2.wh.below hb) h3.2.2.2.2 _⟩,⟨h3.1,h3.2.1,fun e=>by have:=ho.lt b e;omega,h3.2.2.2.1,h3.2.2.2.2⟩,⟨h4.ms,h4.rs,hl,h4.gw,h4.wh,h4.name,h4.centre⟩⟩
 exact Joins.block_setCell (i:=4) ((hb.block _ hbl).trans h1) v
theorem Wk.set_gw {L b:Nat} {W w1:World} {n:Nd} (h:Wk L W b n) (hL:L≤W.heap.size) (hb:Below W.heap.size W w1) {v:Value} {l:List Gw.Gwy} (ho:Gw.Own W.heap.size w1 v l) (hl:(∀ m∈l,m.ok)):Wk L (w1.setCell ⟨b,5,none⟩ v) b { n with gw:=l }:=by
 obtain ⟨vm,vr,vs,vg,vw,h1,h2,h3,h4⟩:=h
 have hbl:b < W.heap.size:=(Array.getElem?_eq_some_iff.1 h1).1
 refine ⟨vm,vr,vs,v,vw,?_,⟨ownsRow_setCell_other (h2.ms.below hb) h3.1 _,ownsRow_setCell_other (h2.rs.below hb) h3.2.1 _,ownsRow_setCell_other (h2.sv.below hb) h3.2.2.1 _,ownsRow_setCell_other (ho.mono hL) (fun e=>by have:=ho.lt b e;omega) _,ownsRow_setCell_other (h2.wh.below hb) h3.2.2.2.2 _⟩,⟨h3.1,h3.2.1,h3.2.2.1,fun e=>by have:=ho.lt b e;omega,h3.2.2.2.2⟩,⟨h4.ms,h4.rs,h4.sv,hl,h4.wh,h4.name,h4.centre⟩⟩
 exact Joins.block_setCell (i:=5) ((hb.block _ hbl).trans h1) v
def setAll (b:Nat):List Value→Nat→World→World
 | [],_,w=>w
 | x :: r,j,w=>setAll b r (j+1) (w.setCell ⟨b,j,none⟩ x)
theorem setAll_below {B b:Nat} (hb:B≤b):∀ (L:List Value) (j:Nat) {a w:World},Below B a w→Below B a (setAll b L j w)
 | [],_,_,_,h=>h
 | _ :: r,j,_,_,h=>setAll_below hb r (j+1) (h.setCell (p:=⟨b,j,none⟩) hb _)
theorem setAll_owns {base b n k:Nat} {T:TypeId} {v:Value} {xs:List Value} (hb:b < base):∀ (L:List Value) (j:Nat) {w:World},w.ownsRow base T k v n xs→(setAll b L j w).ownsRow base T k v n xs
 | [],_,_,h=>h
 | _ :: r,j,_,h=>setAll_owns hb r (j+1) (ownsRow_setCell_below h hb _)
theorem setAll_other {b c:Nat} (hc:c≠b):∀ (L:List Value) (j:Nat) (w:World),(setAll b L j w).heap[c]?=w.heap[c]?
 | [],_,_=>rfl
 | _ :: r,j,_=>(setAll_other hc r (j+1) _).trans (Below.heap_setCell _ _ _ _ hc)
theorem setAll_size (b:Nat):∀ (L:List Value) (j:Nat) (w:World),(setAll b L j w).heap.size=w.heap.size
 | [],_,_=>rfl
 | _ :: r,j,_=>(setAll_size b r (j+1) _).trans (by simp [World.setCell])
theorem owns_below {base n k:Nat} {T:TypeId} {w w':World} {v:Value} {xs:List Value} (h:w.ownsRow base T k v n xs) (hb:Below w.heap.size w w'):w'.ownsRow base T k v n xs:=by
 rcases h.2 with ⟨rfl,h0⟩ | ⟨g,c,cur,rfl,hbg,hg,hnc,hcm,hcs,htake⟩
 ·exact ⟨h.1,.inl ⟨rfl,h0⟩⟩
 ·have hlt:g < w.heap.size:=(Array.getElem?_eq_some_iff.1 hg).1
  exact ⟨h.1,.inr ⟨g,c,cur,rfl,hbg,(hb.block g hlt).trans hg,hnc,hcm,hcs,htake⟩⟩
theorem drew_heap (w:World):w.drew.heap=w.heap:=rfl
theorem drew_owns {base n k:Nat} {T:TypeId} {w:World} {v:Value} {xs:List Value} (h:w.ownsRow base T k v n xs):w.drew.ownsRow base T k v n xs:=h
theorem drew_below {B:Nat} {a w:World} (h:Below B a w):Below B a w.drew:=⟨h.os,h.tape,h.output,h.size,h.block⟩
theorem setAll_block {b:Nat} {T:TypeId} {f:Nat × Nat}:∀ (L pre suf:List Value) {w:World},w.heap[b]?=some (.cells (pre++suf).toArray T f)→suf.length=L.length→(setAll b L pre.length w).heap[b]?=some (.cells (pre++L).toArray T f)
 | [],pre,suf,w,h,hl=>by
   have:suf=[]:=List.eq_nil_of_length_eq_zero (by simpa using hl)
   subst this;exact h
 | x :: r,pre,[],w,h,hl=>absurd hl (by simp)
 | x :: r,pre,y :: s,w,h,hl=>by
   have h1:=Joins.block_setCell (i:=pre.length) h x
   rw [List.setIfInBounds_toArray,show (pre++y :: s).set pre.length x=(pre++[x])++s by simp] at h1
   have h2:=setAll_block r (pre++[x]) s h1 (by simpa using hl)
   rw [show (pre++[x]).length=pre.length+1 by simp,show (pre++[x])++r=pre++x :: r by simp] at h2
   exact h2
theorem setAll12 {b:Nat} {w:World} {T:TypeId} {f:Nat × Nat} {c0 c1 c2 c3 c4 c5 c6 c7 c8 c9 c10 c11:Value} (h:w.heap[b]?=some (.cells #[c0,c1,c2,c3,c4,c5,c6,c7,c8,c9,c10,c11] T f)) (x0 x1 x2 x3 x4 x5 x6 x7 x8 x9 x10 x11:Value):(setAll b [x0,x1,x2,x3,x4,x5,x6,x7,x8,x9,x10,x11] 0 w).heap[b]?=some (.cells #[x0,x1,x2,x3,x4,x5,x6,x7,x8,x9,x10,x11] T f):=setAll_block [x0,x1,x2,x3,x4,x5,x6,x7,x8,x9,x10,x11] [] [c0,c1,c2,c3,c4,c5,c6,c7,c8,c9,c10,c11] h rfl
theorem setAll6 {b:Nat} {w:World} {T:TypeId} {f:Nat × Nat} {c0 c1 c2 c3 c4 c5:Value} (h:w.heap[b]?=some (.cells #[c0,c1,c2,c3,c4,c5] T f)) (x0 x1 x2 x3 x4 x5:Value):(setAll b [x0,x1,x2,x3,x4,x5] 0 w).heap[b]?=some (.cells #[x0,x1,x2,x3,x4,x5] T f):=setAll_block [x0,x1,x2,x3,x4,x5] [] [c0,c1,c2,c3,c4,c5] h rfl
end Go.Proofs.YtffdoiokmiklgaaGreatDoor
namespace Go.Proofs.YtffdoiokmiklgaaGreatDoor
open Go.RowKit Go.WideMaps Go.Maps
def rawF (v:Value):Option (DataW Value × List MemPlace):=some (.held v,[])
def kI (k:Int):Lit:=.int .i64 k
theorem kI_key (k:Int):WideAt.IsKeyLit (kI k):=by simp [kI,WideAt.IsKeyLit]
theorem kI_ne {a b:Int} (h:a≠b):kI a≠kI b:=fun e=>h (by simpa [kI] using e)
def hOf:List (Int × Value)→Int→Option Value
 | [],_=>none
 | (a,v) :: r,k=>if k=a then some v else hOf r k
def HMap (w:World) (b n:Nat) (M:List (Int × Value)):Prop:=∃ D:DataW Value,w.ownsMap Tryz.prog 3 rawF b n D∧(∀ k,has D (kI k)=(hOf M k).isSome)∧∀ k,D.atKey (kI k) (.held .nilFunc)=.held ((hOf M k).getD .nilFunc)
theorem law3k:Keyed Tryz.prog 3:=int_keyed Tryz.underlying3
theorem zeroHF (w:World):(zeroValue 76).run Tryz.prog w=.ok .nilFunc w:=by kernel_rfl
theorem hmap_made (w:World):HMap (w.alloc (.map #[] 0)) w.heap.size 0 []:=⟨.map [],World.ownsMap_made w Tryz.prog 3 rawF,fun k=>by simp [has,hOf],fun k=>by simp [DataW.atKey,hOf]⟩
theorem HMap.look {w:World} {b n:Nat} {M:List (Int × Value)} (h:HMap w b n M) {k:Int} (hk:(Lit.int .i64 k).wf=true):(Instr.lookup 118 (.map (some b)) (.int .i64 k) true).run Tryz.prog w=.ok (.tuple #[(hOf M k).getD .nilFunc,.bool (hOf M k).isSome]) w:=by
 obtain ⟨D,h1,h2,h3⟩:=h
 obtain ⟨v,ps,hrun,hv⟩:=h1.look_ok law3k Tryz.underlying118 (zeroHF w) (show rawF .nilFunc=some (.held .nilFunc,[]) from rfl) (keyOf_int_mk Tryz.underlying3 hk)
 have e:v=(hOf M k).getD .nilFunc:=by
  have h4:(DataW.held v:DataW Value)=D.atKey (kI k) (.held .nilFunc):=by
   simp only [rawF,Option.some.injEq,Prod.mk.injEq] at hv
   exact hv.1
  rw [h3 k] at h4
  injection h4
 have e2:has D (.int .i64 k)=(hOf M k).isSome:=h2 k
 rw [hrun,e,e2]
theorem HMap.put {w:World} {b n:Nat} {M:List (Int × Value)} (h:HMap w b n M) (hn:n < maxLen) {k:Int} (hk:(Lit.int .i64 k).wf=true) (v:Value):∃ w',(Instr.mapUpdate 118 (.map (some b)) (.int .i64 k) v).run Tryz.prog w=.ok () w'∧HMap w' b (n+1) ((k,v) :: M)∧w.grownBy w' (some b):=by
 obtain ⟨D,h1,h2,h3⟩:=h
 obtain ⟨w',hrun,ho,hg⟩:=h1.update law3k Tryz.underlying118 hn (keyOf_int_mk Tryz.underlying3 hk) (show rawF v=some (.held v,[]) from rfl)
 refine ⟨w',hrun,⟨_,ho,fun x=>?_,fun x=>?_⟩,hg⟩
 ·by_cases e:x=k
  ·subst e
   rw [hOf,if_pos rfl]
   exact has_put_same h1.isMap (kI_key _) _
  ·rw [hOf,if_neg e,← h2 x]
   exact has_put_other (kI_ne e) _
 ·by_cases e:x=k
  ·subst e
   rw [hOf,if_pos rfl]
   exact atKey_put_same h1.isMap (kI_key _) _ _
  ·rw [hOf,if_neg e,← h3 x]
   exact atKey_put_other (kI_ne e) _ _
def hapL (g pb:Nat):List (Int × Value):=[(12,.func (.func 118) #[] #[.pointer (some ⟨pb,0,none⟩)]),(11,.func (.func 116) #[] #[.pointer (some ⟨pb,0,none⟩)]),(10,.func (.func 114) #[] #[.pointer (some ⟨pb,0,none⟩)]),(9,.func (.func 112) #[] #[.pointer (some ⟨pb,0,none⟩)]),(8,.func (.func 110) #[] #[.pointer (some ⟨pb,0,none⟩)]),(7,.func (.func 108) #[] #[.pointer (some ⟨pb,0,none⟩)]),(6,.func (.func 105) #[] #[.pointer (some ⟨pb,0,none⟩)]),(5,.func (.func 104) #[.pointer (some ⟨g,0,none⟩)] #[]),(4,.func (.func 103) #[.pointer (some ⟨g,0,none⟩)] #[]),(3,.func (.func 102) #[.pointer (some ⟨g,0,none⟩)] #[]),(2,.func (.func 101) #[.pointer (some ⟨g,0,none⟩)] #[]),(1,.func (.func 100) #[.pointer (some ⟨g,0,none⟩)] #[])]
set_option maxHeartbeats 6400000 in
set_option maxRecDepth 100000 in
theorem happenings_any (g:Nat) (w:World) :
 Calls Tryz.prog 68 #[.pointer (some ⟨g,0,none⟩)] w fun e w'=>e=.returned (.map (some (w.heap.size+1)))∧HMap w' (w.heap.size+1) 12 (hapL g w.heap.size)∧w'.heap[w.heap.size]?=some (.cells #[.pointer (some ⟨g,0,none⟩)] 73 (0,0))∧Below w.heap.size w w':=by
 obtain ⟨W0,hW0⟩:∃ W0,W0=(w.alloc (.cells #[.pointer (some ⟨g,0,none⟩)] 73)).alloc (.map #[] 0):=⟨_,rfl⟩
 have hb0:Below w.heap.size w W0:=by rw [hW0];exact ((Below.refl _ _).alloc (Nat.le_refl _) _).alloc (by simp) _
 have k0:W0.heap[w.heap.size]?=some (.cells #[.pointer (some ⟨g,0,none⟩)] 73 (0,0)):=by
  rw [hW0];exact (Lib.alloc_old _ _ _ (by simp)).trans (heap_alloc_new w _)
 have hs0:w.heap.size+2≤W0.heap.size:=by rw [hW0];simp
 have m0:HMap W0 (w.heap.size+1) 0 []:=by
  have:=hmap_made (w.alloc (.cells #[.pointer (some ⟨g,0,none⟩)] 73))
  rw [hW0];simpa using this
 obtain ⟨w1,r1,m1,g1⟩:=m0.put (by decide) (k:=1) (by decide) (.func (.func 100) #[.pointer (some ⟨g,0,none⟩)] #[])
 have hs1:w.heap.size+2≤w1.heap.size:=Nat.le_trans hs0 g1.size
 have k1:w1.heap[w.heap.size]?=some (.cells #[.pointer (some ⟨g,0,none⟩)] 73 (0,0)):=(g1.block _ (by omega) (by simp)).trans k0
 have hb1:Below w.heap.size w w1:=hb0.grown g1 (by omega) (fun q hq=>by cases hq;omega)
 obtain ⟨w2,r2,m2,g2⟩:=m1.put (by decide) (k:=2) (by decide) (.func (.func 101) #[.pointer (some ⟨g,0,none⟩)] #[])
 have hs2:w.heap.size+2≤w2.heap.size:=Nat.le_trans hs1 g2.size
 have k2:w2.heap[w.heap.size]?=some (.cells #[.pointer (some ⟨g,0,none⟩)] 73 (0,0)):=(g2.block _ (by omega) (by simp)).trans k1
 have hb2:Below w.heap.size w w2:=hb1.grown g2 (by omega) (fun q hq=>by cases hq;omega)
 obtain ⟨w3,r3,m3,g3⟩:=m2.put (by decide) (k:=3) (by decide) (.func (.func 102) #[.pointer (some ⟨g,0,none⟩)] #[])
 have hs3:w.heap.size+2≤w3.heap.size:=Nat.le_trans hs2 g3.size
 have k3:w3.heap[w.heap.size]?=some (.cells #[.pointer (some ⟨g,0,none⟩)] 73 (0,0)):=(g3.block _ (by omega) (by simp)).trans k2
 have hb3:Below w.heap.size w w3:=hb2.grown g3 (by omega) (fun q hq=>by cases hq;omega)
 obtain ⟨w4,r4,m4,g4⟩:=m3.put (by decide) (k:=4) (by decide) (.func (.func 103) #[.pointer (some ⟨g,0,none⟩)] #[])
 have hs4:w.heap.size+2≤w4.heap.size:=Nat.le_trans hs3 g4.size
 have k4:w4.heap[w.heap.size]?=some (.cells #[.pointer (some ⟨g,0,none⟩)] 73 (0,0)):=(g4.block _ (by omega) (by simp)).trans k3
 have hb4:Below w.heap.size w w4:=hb3.grown g4 (by omega) (fun q hq=>by cases hq;omega)
 obtain ⟨w5,r5,m5,g5⟩:=m4.put (by decide) (k:=5) (by decide) (.func (.func 104) #[.pointer (some ⟨g,0,none⟩)] #[])
 have hs5:w.heap.size+2≤w5.heap.size:=Nat.le_trans hs4 g5.size
 have k5:w5.heap[w.heap.size]?=some (.cells #[.pointer (some ⟨g,0,none⟩)] 73 (0,0)):=(g5.block _ (by omega) (by simp)).trans k4
 have hb5:Below w.heap.size w w5:=hb4.grown g5 (by omega) (fun q hq=>by cases hq;omega)
 obtain ⟨w6,r6,m6,g6⟩:=m5.put (by decide) (k:=6) (by decide) (.func (.func 105) #[] #[.pointer (some ⟨w.heap.size,0,none⟩)])
 have hs6:w.heap.size+2≤w6.heap.size:=Nat.le_trans hs5 g6.size
 have k6:w6.heap[w.heap.size]?=some (.cells #[.pointer (some ⟨g,0,none⟩)] 73 (0,0)):=(g6.block _ (by omega) (by simp)).trans k5
 have hb6:Below w.heap.size w w6:=hb5.grown g6 (by omega) (fun q hq=>by cases hq;omega)
 obtain ⟨w7,r7,m7,g7⟩:=m6.put (by decide) (k:=7) (by decide) (.func (.func 108) #[] #[.pointer (some ⟨w.heap.size,0,none⟩)])
 have hs7:w.heap.size+2≤w7.heap.size:=Nat.le_trans hs6 g7.size
 have k7:w7.heap[w.heap.size]?=some (.cells #[.pointer (some ⟨g,0,none⟩)] 73 (0,0)):=(g7.block _ (by omega) (by simp)).trans k6
 have hb7:Below w.heap.size w w7:=hb6.grown g7 (by omega) (fun q hq=>by cases hq;omega)
 obtain ⟨w8,r8,m8,g8⟩:=m7.put (by decide) (k:=8) (by decide) (.func (.func 110) #[] #[.pointer (some ⟨w.heap.size,0,none⟩)])
 have hs8:w.heap.size+2≤w8.heap.size:=Nat.le_trans hs7 g8.size
 have k8:w8.heap[w.heap.size]?=some (.cells #[.pointer (some ⟨g,0,none⟩)] 73 (0,0)):=(g8.block _ (by omega) (by simp)).trans k7
 have hb8:Below w.heap.size w w8:=hb7.grown g8 (by omega) (fun q hq=>by cases hq;omega)
 obtain ⟨w9,r9,m9,g9⟩:=m8.put (by decide) (k:=9) (by decide) (.func (.func 112) #[] #[.pointer (some ⟨w.heap.size,0,none⟩)])
 have hs9:w.heap.size+2≤w9.heap.size:=Nat.le_trans hs8 g9.size
 have k9:w9.heap[w.heap.size]?=some (.cells #[.pointer (some ⟨g,0,none⟩)] 73 (0,0)):=(g9.block _ (by omega) (by simp)).trans k8
 have hb9:Below w.heap.size w w9:=hb8.grown g9 (by omega) (fun q hq=>by cases hq;omega)
 obtain ⟨w10,r10,m10,g10⟩:=m9.put (by decide) (k:=10) (by decide) (.func (.func 114) #[] #[.pointer (some ⟨w.heap.size,0,none⟩)])
 have hs10:w.heap.size+2≤w10.heap.size:=Nat.le_trans hs9 g10.size
 have k10:w10.heap[w.heap.size]?=some (.cells #[.pointer (some ⟨g,0,none⟩)] 73 (0,0)):=(g10.block _ (by omega) (by simp)).trans k9
 have hb10:Below w.heap.size w w10:=hb9.grown g10 (by omega) (fun q hq=>by cases hq;omega)
 obtain ⟨w11,r11,m11,g11⟩:=m10.put (by decide) (k:=11) (by decide) (.func (.func 116) #[] #[.pointer (some ⟨w.heap.size,0,none⟩)])
 have hs11:w.heap.size+2≤w11.heap.size:=Nat.le_trans hs10 g11.size
 have k11:w11.heap[w.heap.size]?=some (.cells #[.pointer (some ⟨g,0,none⟩)] 73 (0,0)):=(g11.block _ (by omega) (by simp)).trans k10
 have hb11:Below w.heap.size w w11:=hb10.grown g11 (by omega) (fun q hq=>by cases hq;omega)
 obtain ⟨w12,r12,m12,g12⟩:=m11.put (by decide) (k:=12) (by decide) (.func (.func 118) #[] #[.pointer (some ⟨w.heap.size,0,none⟩)])
 have hs12:w.heap.size+2≤w12.heap.size:=Nat.le_trans hs11 g12.size
 have k12:w12.heap[w.heap.size]?=some (.cells #[.pointer (some ⟨g,0,none⟩)] 73 (0,0)):=(g12.block _ (by omega) (by simp)).trans k11
 have hb12:Below w.heap.size w w12:=hb11.grown g12 (by omega) (fun q hq=>by cases hq;omega)
 have HRES:Hid (HMap w12 (w.heap.size+1) 12 (hapL g w.heap.size)∧w12.heap[w.heap.size]?=some (.cells #[.pointer (some ⟨g,0,none⟩)] 73 (0,0))∧Below w.heap.size w w12):=⟨m12,k12,hb12⟩
 have c0:W0.cell? ⟨w.heap.size,0,none⟩=some (.pointer (some ⟨g,0,none⟩)):=cellsAt k0 0
 have c1:w1.cell? ⟨w.heap.size,0,none⟩=some (.pointer (some ⟨g,0,none⟩)):=cellsAt k1 0
 have c2:w2.cell? ⟨w.heap.size,0,none⟩=some (.pointer (some ⟨g,0,none⟩)):=cellsAt k2 0
 have c3:w3.cell? ⟨w.heap.size,0,none⟩=some (.pointer (some ⟨g,0,none⟩)):=cellsAt k3 0
 have c4:w4.cell? ⟨w.heap.size,0,none⟩=some (.pointer (some ⟨g,0,none⟩)):=cellsAt k4 0
 clear m0 k0 hb0 hs0 m1 k1 hb1 hs1 m2 k2 hb2 hs2 m3 k3 hb3 hs3 m4 k4 hb4 hs4 m5 k5 hb5 hs5 m6 k6 hb6 hs6 m7 k7 hb7 hs7 m8 k8 hb8 hs8 m9 k9 hb9 hs9 m10 k10 hb10 hs10 m11 k11 hb11 hs11 m12 k12 hb12 hs12 g1 g2 g3 g4 g5 g6 g7 g8 g9 g10 g11 g12
 have hmm := @run_makeMap Tryz.prog
 subst hW0
 go_enter Tryz.func68,Tryz.ntmps68
 go_wp2_with fail
 go_ret
 exact ⟨rfl,HRES.out⟩
set_option maxHeartbeats 6400000 in
set_option maxRecDepth 100000 in
theorem play_of (kf:Nat) (fs cs:Array Value) (eg:∀ args w,(callFunc kf args).run Tryz.prog w=.ok (.enter kf args) w) (g:Nat) (k er:Int) (R:World→Prop) (w:World) (hw:(Lit.int .i64 k).wf=true)
 (hf:hOf (hapL g w.heap.size) k=some (.func (.func kf) fs cs)) (hg:w.cell? ⟨g,2,none⟩=some (.int .i64 k))
 (hT:∀ W,Below w.heap.size w W→Calls Tryz.prog 69 #[.pointer (some ⟨g,0,none⟩)] W fun e w'=>e=.returned (.bool true)∧Below W.heap.size W w')
 (hF:∀ W,Below w.heap.size w W→W.heap[w.heap.size]?=some (.cells #[.pointer (some ⟨g,0,none⟩)] 73 (0,0))→Calls Tryz.prog kf (fs++cs) W fun e w'=>e=.returned (.int .i64 er)∧R w') :
 Calls Tryz.prog 35 #[.pointer (some ⟨g,0,none⟩)] w fun e w'=>e=.returned (.int .i64 er)∧R w':=by
 have hgl:g < w.heap.size:=World.block_lt_of_cell? w _ hg
 have HH:Hid (Calls Tryz.prog 68 #[.pointer (some ⟨g,0,none⟩)] w.drew fun e w1=>∃ mb,e=.returned (.map (some mb))∧(Instr.lookup 118 (.map (some mb)) (.int .i64 k) true).run Tryz.prog w1=.ok (.tuple #[.func (.func kf) fs cs,.bool true]) w1∧w1.cell? ⟨g,2,none⟩=some (.int .i64 k)∧Hid (Below w.heap.size w w1∧w1.heap[w.heap.size]?=some (.cells #[.pointer (some ⟨g,0,none⟩)] 73 (0,0)))):=by
  refine (happenings_any g w.drew).mono ?_
  rintro e w1 ⟨rfl,hm,hp,hb⟩
  have hb1:Below w.heap.size w w1:=(Below.refl _ _).drew.trans hb
  have hl:=hm.look hw
  rw [show hOf (hapL g w.drew.heap.size) k=some (.func (.func kf) fs cs) from hf] at hl
  exact ⟨_,rfl,hl,(hb1.cell (p:=⟨g,2,none⟩) hgl).trans hg,hb1,hp⟩
 have HT:Hid (∀ W,Below w.heap.size w W→Calls Tryz.prog 69 #[.pointer (some ⟨g,0,none⟩)] W fun e w'=>e=.returned (.bool true)∧Below W.heap.size W w'):=hT
 have HF:Hid (∀ W,Below w.heap.size w W→W.heap[w.heap.size]?=some (.cells #[.pointer (some ⟨g,0,none⟩)] 73 (0,0))→Calls Tryz.prog kf (fs++cs) W fun e w'=>e=.returned (.int .i64 er)∧R w'):=hF
 have HS0:Hid (w.heap.size < w.heap.size+1):=Nat.lt_succ_self _
 clear hT hF hgl hf hw
 go_enter Tryz.func35,Tryz.ntmps35
 go_wp2_with fail
 go_region_held3 (fun w'=>w'.cell? ⟨g,2,none⟩=some (.int .i64 k)) (go_keep) (first | (go_at_call 68;refine HH.out.mono ?_;rintro e w1 ⟨mb,rfl,hl1,hS,HB1⟩) | fail)
 go_wp2_with fail
 refine (HT.out _ HB1.out.1).mono ?_
 rintro e w2 ⟨rfl,hb2⟩
 have hbx:w2.heap[w.heap.size]?=some (.cells #[.pointer (some ⟨g,0,none⟩)] 73 (0,0)):=(hb2.block _ (Array.getElem?_eq_some_iff.1 HB1.out.2).1).trans HB1.out.2
 have HC:=HF.out w2 (HB1.out.1.trans (hb2.mono HB1.out.1.size)) hbx
 clear hb2 hbx hl1 hS HB1 HF HT HH
 go_wp2_with fail
 refine HC.mono ?_
 rintro e w3 ⟨rfl,hr⟩
 go_wp2_with fail
 go_ret
 exact ⟨rfl,hr⟩
end Go.Proofs.YtffdoiokmiklgaaGreatDoor
