import Derived.Test.YtffdoiokmiklgaaGreatDoorX1
import Derived.Laws.StructEq
namespace Go.Proofs.YtffdoiokmiklgaaGreatDoor
namespace Wh
open Go.RowKit
theorem Tryz.info109:(Tryz.prog.info? 109).map (fun i=>(i.zero,i.size,i.bytes))=some (some (.agg #[.string ⟨#[]⟩,.int .i64 0,.int .i64 0,.int .i64 0,.int .i64 0,.int .i64 0]),6,56):=by kernel_rfl
end Wh
namespace Wh
open Go.RowKit
set_option maxHeartbeats 800000 in
theorem clone_any (ms:List Whe) (v:Value) (w:World) (h:Sl w v ms) (hn:ms.length≤1000) :
 Calls Tryz.prog 74 #[v] w fun e w'=>∃ v',e=.returned v'∧Own w.heap.size w' v' ms∧Below w.heap.size w w':=by
 obtain ⟨a,cap,rfl,hs,h⟩:=h
 obtain ⟨i0,hi0,hz0,hzs,hzb⟩:=info_parts Tryz.info109
 cases a with
 | none=>
   have he:ms=[]:=by
    rcases h with h | ⟨b,off,h,_⟩
    ·exact h
    ·cases h
   subst he
   clear h hs
   have hnil:=fun (w:World)=>Lib.run_eql_slice_nil (P:=Tryz.prog) w 49 109 none 0 cap 0 0 Tryz.underlying49
   simp only [List.length_nil,Option.isNone_none] at hnil ⊢
   go_enter Tryz.func74,Tryz.ntmps74
   go_wp2_with fail
   go_ret
   exact ⟨_,rfl,own_nil _ _,Below.refl _ _⟩
 | some a=>
   have hnil:=fun (w:World)=>Lib.run_eql_slice_nil (P:=Tryz.prog) w 49 109 (some a) ms.length cap 0 0 Tryz.underlying49
   simp only [Option.isNone_some] at hnil
   have hnews:Hid (∀ j u,(fl ms)[j]?=some u→(w.alloc (.cells #[] 109)).cell? (a.add j)=some u):=by
    intro j u hj
    rcases h with h | ⟨b,off,h,hb,hr⟩
    ·subst h;simp [fl] at hj
    ·cases h
     have hjl:j < ms.length * 6:=by rw [← fl_len];exact (List.getElem?_eq_some_iff.1 hj).1
     have h1:=fl_get ms (j / 6) (by omega) (j%6) (by omega)
     rw [show j / 6 * 6+j%6=j by omega,hj] at h1
     rw [Addr.add_lit,World.cell?_alloc_past (w:=w) _ b _ hb]
     obtain ⟨c0,c1,c2,c3,c4,c5⟩:=hr (j / 6) (by omega)
     have hcs:j%6=0∨j%6=1∨j%6=2∨j%6=3∨j%6=4∨j%6=5:=by omega
     rcases hcs with e | e | e | e | e | e
     ·rw [show off+j=off+j / 6 * 6 by omega,c0];rw [e] at h1;simpa [Whe.cs] using h1.symm
     ·rw [show off+j=off+j / 6 * 6+1 by omega,c1];rw [e] at h1;simpa [Whe.cs] using h1.symm
     ·rw [show off+j=off+j / 6 * 6+2 by omega,c2];rw [e] at h1;simpa [Whe.cs] using h1.symm
     ·rw [show off+j=off+j / 6 * 6+3 by omega,c3];rw [e] at h1;simpa [Whe.cs] using h1.symm
     ·rw [show off+j=off+j / 6 * 6+4 by omega,c4];rw [e] at h1;simpa [Whe.cs] using h1.symm
     ·rw [show off+j=off+j / 6 * 6+5 by omega,c5];rw [e] at h1;simpa [Whe.cs] using h1.symm
   have HO:Hid ((w.alloc (.cells #[] 109)).ownsRow w.heap.size 109 6 (.slice (some ⟨w.heap.size,0,none⟩) 0 0) 0 []):=World.ownsRow_made w #[] 0 (Nat.le_refl _) (by unfold maxLen;omega) rfl
   clear h hs
   go_enter Tryz.func74,Tryz.ntmps74
   go_wp2_with (at_builtin;refine wpList_append_own _ rfl _ _ 49 rfl w.heap.size 109 i0 _ 6 56 Tryz.underlying49 hi0 hz0 hzs hzb rfl (by omega) _ 0 [] rfl HO.out a ms.length cap (fl ms) rfl (fl_len ms) hnews.out (fl_one ms) (by unfold maxLen;omega) (by omega) (by simp) ?_)
   intro v' w' r1 r2 r3
   go_wp2_with fail
   go_ret
   refine ⟨v',rfl,?_,?_⟩
   ·simpa using r1
   ·exact ((Below.refl _ _).alloc (Nat.le_refl _) _).grown r2 (by simp) (fun k hk=>by simp [Value.ownBlock] at hk;omega)
end Wh
end Go.Proofs.YtffdoiokmiklgaaGreatDoor
