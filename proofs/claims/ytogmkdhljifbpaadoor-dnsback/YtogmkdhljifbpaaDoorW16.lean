/- GS, HB, DKQ, HC -/
import Derived.Test.YtogmkdhljifbpaaDoorW13
import Derived.Test.YtogmkdhljifbpaaDoorW15
import Derived.Test.YtogmkdhljifbpaaDoorW14
import Derived.Test.YtogmkdhljifbpaaDoorW7
import Derived.Lib.SmallJoins
import Derived.Lib.QuietBelow
/- Read, of what was written. -/
namespace Go.Proofs.YtogmkdhljifbpaaDoor
open Go.RowKit Go.Lib

/-- What a reader makes of a text. -/
structure ReadsR (t : ByteArray) (id code typ : Int) (ans cut : Bool) (R : ByteArray) (rs : List Rc.Rec) : Prop where
  go : ∀ (g : Nat) (w : World), IsR g t 0 w → Calls Tryd.prog 38 #[.pointer (some ⟨g, 0, none⟩)] w fun e w' => ∃ v, e = .returned (.agg #[.int .i64 id, .bool ans, .bool cut, .int .i64 code, .string R, .int .i64 typ, v]) ∧ Hid (Rd g w w') ∧ Hid (Rc.Own (w.heap.size + 2) w' v rs)
theorem rec_ok {r : Rc.Rec} (h : chkRec r = 0) : r.ok := by
  obtain ⟨h1, _, h3, h4⟩ := chkRec_facts h
  have := (labs_ok h1).2.2
  have := (labs_ok h4).2.2
  refine ⟨?_, ?_, ?_⟩ <;> (unfold maxLen; omega)
theorem recs_ok {rs : List Rc.Rec} (h : ∀ r ∈ rs, chkRec r = 0) : ∀ j, (rs.getD j Rc.dm).ok := Rc.ns_get (fun r hr => rec_ok (h r hr))

set_option maxHeartbeats 1600000 in
set_option maxRecDepth 100000 in
theorem read1_any (gs gm : Nat) (id code typ : Int) (ans cut : Bool) (R t : ByteArray) (rs : List Rc.Rec) (w : World) (hr : ReadsR t id code typ ans cut R rs) (hgs : w.heap[gs]? = some (.cells #[.string t] 9 (0, 0))) (hgm : w.heap[gm]? = some (.cells zmsg 30 (0, 0))) (hc : chkMsg id code typ R rs = 0) :
    Calls Tryd.prog 37 #[.pointer (some ⟨gs, 0, none⟩), .pointer (some ⟨gm, 0, none⟩)] w fun r w' => r = .returned (.tuple #[]) ∧ Hid (Rd gm w w') ∧ ∃ v, Hid (w'.heap[gm]? = some (.cells #[.int .i64 id, .bool ans, .bool cut, .int .i64 code, .string R, .int .i64 typ, v] 30 (0, 0))) ∧ Hid (Rc.Own (w.heap.size + 1) w' v rs) := by
  obtain ⟨f1, f2, f3⟩ := chkMsg_facts hc
  have hRs := (labs_ok f2).2.2
  have HC : Hid (∀ v W, Rc.Sl W v rs → Calls Tryd.prog 30 #[.agg #[.int .i64 id, .bool ans, .bool cut, .int .i64 code, .string R, .int .i64 typ, v]] W fun r w' => r = .returned (.tuple #[]) ∧ Below W.heap.size W w') := fun v W hv => by
    have h := dcheck_any id code typ ans cut R rs v W (by unfold maxLen; omega) hv
    rw [hc, outE_0] at h
    exact h
  have HOK : Hid (∀ j, (rs.getD j Rc.dm).ok) := recs_ok f3
  have HR : Hid (ReadsR t id code typ ans cut R rs) := hr
  have cs : w.cell? ⟨gs, 0, none⟩ = some (.string t) := cellsAt hgs 0
  clear hr hgs f1 f2 f3 hRs hc
  have hlt : gm < w.heap.size := (Array.getElem?_eq_some_iff.1 hgm).1
  have HGM : Hid (w.heap[gm]? = some (.cells zmsg 30 (0, 0))) := hgm
  clear hgm
  go_enter Tryd.func37, Tryd.ntmps37
  go_wp2_with fail
  have hr0 : (w.alloc (.cells #[.string t, .int .i64 0] 58)).heap[w.heap.size]? = some (.cells #[.string t, .int .i64 0] 58 (0, 0)) := heap_alloc_new w _
  refine (HR.out.go w.heap.size _ ⟨cellsAt hr0 0, cellsAt hr0 1, frozenAt hr0 1, by simp⟩).mono ?_
  rintro e w1 ⟨v, rfl, h2, ho⟩
  have hb1 : Below w.heap.size w w1 := ((Below.refl _ _).alloc (Nat.le_refl _) _).trans (h2.out.below (Nat.le_refl _) (by simp))
  have HD1 : Hid (Rd gm w w1) := Rd.of_below hb1 (Nat.le_refl _)
  have HO1 : Hid (Rc.Own (w.heap.size + 1) w1 v rs) := ho.out.mono (by simp <;> omega)
  obtain ⟨av, lv, cv, hvv⟩ : ∃ a l c, v = .slice a l c := by
    rcases HO1.out.2 with ⟨hv, _⟩ | ⟨gq, cq, _, hv, _⟩
    · exact ⟨_, _, _, hv⟩
    · exact ⟨_, _, _, hv⟩
  subst hvv
  have hg1 : w1.heap[gm]? = some (.cells zmsg 30 (0, 0)) := (hb1.block gm hlt).trans HGM.out
  have hl1 : gm < w1.heap.size := (Array.getElem?_eq_some_iff.1 hg1).1
  have c0 : w1.cell? ⟨gm, 0, none⟩ = some (.int .i64 0) := cellsAt hg1 0
  have z0 : w1.frozen? ⟨gm, 0, none⟩ = false := by simp [World.frozen?, hg1]
  have c1 : w1.cell? ⟨gm, 1, none⟩ = some (.bool false) := cellsAt hg1 1
  have z1 : w1.frozen? ⟨gm, 1, none⟩ = false := by simp [World.frozen?, hg1]
  have c2 : w1.cell? ⟨gm, 2, none⟩ = some (.bool false) := cellsAt hg1 2
  have z2 : w1.frozen? ⟨gm, 2, none⟩ = false := by simp [World.frozen?, hg1]
  have c3 : w1.cell? ⟨gm, 3, none⟩ = some (.int .i64 0) := cellsAt hg1 3
  have z3 : w1.frozen? ⟨gm, 3, none⟩ = false := by simp [World.frozen?, hg1]
  have c4 : w1.cell? ⟨gm, 4, none⟩ = some (.string ⟨#[]⟩) := cellsAt hg1 4
  have z4 : w1.frozen? ⟨gm, 4, none⟩ = false := by simp [World.frozen?, hg1]
  have c5 : w1.cell? ⟨gm, 5, none⟩ = some (.int .i64 0) := cellsAt hg1 5
  have z5 : w1.frozen? ⟨gm, 5, none⟩ = false := by simp [World.frozen?, hg1]
  have c6 : w1.cell? ⟨gm, 6, none⟩ = some (.slice none 0 0) := cellsAt hg1 6
  have z6 : w1.frozen? ⟨gm, 6, none⟩ = false := by simp [World.frozen?, hg1]
  have HG2 : Hid ((((((((w1.setCell ⟨gm, 0, none⟩ (.int .i64 id)).setCell ⟨gm, 1, none⟩ (.bool ans)).setCell ⟨gm, 2, none⟩ (.bool cut)).setCell ⟨gm, 3, none⟩ (.int .i64 code)).setCell ⟨gm, 4, none⟩ (.string R)).setCell ⟨gm, 5, none⟩ (.int .i64 typ)).setCell ⟨gm, 6, none⟩ (.slice av lv cv)).heap[gm]? = some (.cells #[.int .i64 id, .bool ans, .bool cut, .int .i64 code, .string R, .int .i64 typ, .slice av lv cv] 30 (0, 0))) := (Joins.block_setCell (i := 6) (Joins.block_setCell (i := 5) (Joins.block_setCell (i := 4) (Joins.block_setCell (i := 3) (Joins.block_setCell (i := 2) (Joins.block_setCell (i := 1) (Joins.block_setCell (i := 0) hg1 (.int .i64 id)) (.bool ans)) (.bool cut)) (.int .i64 code)) (.string R)) (.int .i64 typ)) (.slice av lv cv))
  have HD2 : Hid (Rd gm w (((((((w1.setCell ⟨gm, 0, none⟩ (.int .i64 id)).setCell ⟨gm, 1, none⟩ (.bool ans)).setCell ⟨gm, 2, none⟩ (.bool cut)).setCell ⟨gm, 3, none⟩ (.int .i64 code)).setCell ⟨gm, 4, none⟩ (.string R)).setCell ⟨gm, 5, none⟩ (.int .i64 typ)).setCell ⟨gm, 6, none⟩ (.slice av lv cv))) := ((((((((HD1.out).here 0 _).here 1 _).here 2 _).here 3 _).here 4 _).here 5 _).here 6 _)
  have HO2 : Hid (Rc.Own (w.heap.size + 1) (((((((w1.setCell ⟨gm, 0, none⟩ (.int .i64 id)).setCell ⟨gm, 1, none⟩ (.bool ans)).setCell ⟨gm, 2, none⟩ (.bool cut)).setCell ⟨gm, 3, none⟩ (.int .i64 code)).setCell ⟨gm, 4, none⟩ (.string R)).setCell ⟨gm, 5, none⟩ (.int .i64 typ)).setCell ⟨gm, 6, none⟩ (.slice av lv cv)) (.slice av lv cv) rs) := (own_put (i := 6) (own_put (i := 5) (own_put (i := 4) (own_put (i := 3) (own_put (i := 2) (own_put (i := 1) (own_put (i := 0) HO1.out (by omega)) (by omega)) (by omega)) (by omega)) (by omega)) (by omega)) (by omega))
  clear h2 ho hb1 hr0 hg1 HD1
  go_wp2_with fail
  refine (HC.out _ _ (HO2.out.sl HOK.out)).mono ?_
  rintro e w2 ⟨rfl, hb2⟩
  have HB2 : Hid (Below (((((((w1.setCell ⟨gm, 0, none⟩ (.int .i64 id)).setCell ⟨gm, 1, none⟩ (.bool ans)).setCell ⟨gm, 2, none⟩ (.bool cut)).setCell ⟨gm, 3, none⟩ (.int .i64 code)).setCell ⟨gm, 4, none⟩ (.string R)).setCell ⟨gm, 5, none⟩ (.int .i64 typ)).setCell ⟨gm, 6, none⟩ (.slice av lv cv)).heap.size (((((((w1.setCell ⟨gm, 0, none⟩ (.int .i64 id)).setCell ⟨gm, 1, none⟩ (.bool ans)).setCell ⟨gm, 2, none⟩ (.bool cut)).setCell ⟨gm, 3, none⟩ (.int .i64 code)).setCell ⟨gm, 4, none⟩ (.string R)).setCell ⟨gm, 5, none⟩ (.int .i64 typ)).setCell ⟨gm, 6, none⟩ (.slice av lv cv)) w2) := hb2
  clear hb2
  go_wp2_with fail
  simp [bodyPost, results, Tryd.results37]
  refine ⟨HD2.out.trans (Rd.of_below HB2.out (Nat.le_refl _)), .slice av lv cv, ?_, ?_⟩
  · exact (HB2.out.block gm (by simp; exact hl1)).trans HG2.out
  · exact HO2.out.below HB2.out

set_option maxHeartbeats 1600000 in
set_option maxRecDepth 100000 in
theorem read_any (id code typ : Int) (ans cut : Bool) (R t : ByteArray) (rs : List Rc.Rec) (w : World) (hr : ReadsR t id code typ ans cut R rs) (hl : t.size ≤ 512) (hc : chkMsg id code typ R rs = 0) :
    Calls Tryd.prog 16 #[.string t] w fun e w' => ∃ v, e = .returned (.tuple #[.agg #[.int .i64 id, .bool ans, .bool cut, .int .i64 code, .string R, .int .i64 typ, v], .int .i64 0]) ∧ Below w.heap.size w w' ∧ Hid (Rc.Own w.heap.size w' v rs) := by
  have HW1 : Hid (∀ (gs gm : Nat) (W : World), W.heap[gs]? = some (.cells #[.string t] 9 (0, 0)) → W.heap[gm]? = some (.cells zmsg 30 (0, 0)) → Calls Tryd.prog 37 #[.pointer (some ⟨gs, 0, none⟩), .pointer (some ⟨gm, 0, none⟩)] W fun r w' => r = .returned (.tuple #[]) ∧ Hid (Rd gm W w') ∧ ∃ v, Hid (w'.heap[gm]? = some (.cells #[.int .i64 id, .bool ans, .bool cut, .int .i64 code, .string R, .int .i64 typ, v] 30 (0, 0))) ∧ Hid (Rc.Own (W.heap.size + 1) w' v rs)) := fun gs gm W hgs hgm => read1_any gs gm id code typ ans cut R t rs W hr hgs hgm hc
  have ef : ∀ args W, (callFunc 37 args).run Tryd.prog W = .ok (.enter 37 args) W := enters_of Tryd.func37 (by kernel_rfl) rfl
  have hcmp : decide (512 < (t.size : Int)) = false := by simp; omega
  clear hl hr hc
  go_enter Tryd.func16, Tryd.ntmps16
  go_wp2_with fail
  obtain ⟨w0, hw0⟩ : ∃ w0, w0 = ((w.alloc (.cells #[.string t] 9)).alloc (.cells zmsg 30)).alloc (.cells zmsg 30) := ⟨_, rfl⟩
  rw [← hw0]
  have hn0 : w0.heap.size = w.heap.size + 1 + 1 + 1 := by rw [hw0]; simp
  have HB0 : Hid (Below w.heap.size w w0) := (show Below _ _ _ by rw [hw0]; exact (((Below.refl _ _).alloc (Nat.le_refl _) _).alloc (by simp) _).alloc (by simp; omega) _)
  have hgs : w0.heap[w.heap.size]? = some (.cells #[.string t] 9 (0, 0)) := by
    rw [hw0]
    exact (Lib.alloc_old _ _ _ (by simp; omega)).trans ((Lib.alloc_old _ _ _ (by simp)).trans (heap_alloc_new w _))
  have hgq : w0.heap[w.heap.size + 1]? = some (.cells zmsg 30 (0, 0)) := by
    rw [hw0]
    have h := heap_alloc_new (w.alloc (.cells #[.string t] 9)) (.cells zmsg 30)
    exact (Lib.alloc_old _ _ _ (by simp)).trans (by simpa using h)
  have hgm : w0.heap[w.heap.size + 1 + 1]? = some (.cells zmsg 30 (0, 0)) := by
    rw [hw0]
    have h := heap_alloc_new ((w.alloc (.cells #[.string t] 9)).alloc (.cells zmsg 30)) (.cells zmsg 30)
    simpa using h
  clear hw0
  have hge : (w0.alloc (.cells #[.int .i64 0] 23)).heap[w0.heap.size]? = some (.cells #[.int .i64 0] 23 (0, 0)) := heap_alloc_new w0 _
  have HAT : Hid (Calls Tryd.prog 28 #[.func (.func 37) #[] #[.pointer (some ⟨w.heap.size, 0, none⟩), .pointer (some ⟨w.heap.size + 1 + 1, 0, none⟩)]] w0 fun r w' => r = .returned (.int .i64 0) ∧ Hid (Rd (w.heap.size + 1 + 1) w0 w') ∧ ∃ v, Hid (w'.heap[w.heap.size + 1 + 1]? = some (.cells #[.int .i64 id, .bool ans, .bool cut, .int .i64 code, .string R, .int .i64 typ, v] 30 (0, 0))) ∧ Hid (Rc.Own (w.heap.size + 1 + 1 + 1) w' v rs)) := (show Calls _ _ _ _ _ by
    refine (attempt_ok 37 #[.pointer (some ⟨w.heap.size, 0, none⟩), .pointer (some ⟨w.heap.size + 1 + 1, 0, none⟩)] w0 (fun W => Rd (w.heap.size + 1 + 1) (w0.alloc (.cells #[.int .i64 0] 23)) W ∧ ∃ v, W.heap[w.heap.size + 1 + 1]? = some (.cells #[.int .i64 id, .bool ans, .bool cut, .int .i64 code, .string R, .int .i64 typ, v] 30 (0, 0)) ∧ Rc.Own (w0.heap.size + 1 + 1) W v rs) ef ?_).mono ?_
    · refine (HW1.out w.heap.size (w.heap.size + 1 + 1) _ ((Lib.alloc_old w0 _ _ (by omega)).trans hgs) ((Lib.alloc_old w0 _ _ (by omega)).trans hgm)).mono ?_
      rintro r w' ⟨rfl, hb, v, hk2, ho⟩
      have hk : w'.heap[w0.heap.size]? = some (.cells #[.int .i64 0] 23 (0, 0)) := (hb.out.block _ (by simp) (by omega)).trans hge
      exact ⟨rfl, ⟨hb.out, v, hk2.out, by have := ho.out; simpa using this⟩, cellsAt hk 0, frozenAt hk 0, (Array.getElem?_eq_some_iff.1 hk).1⟩
    · rintro r w' ⟨rfl, w1, ⟨hR, v, hk, ho⟩, _, rfl⟩
      refine ⟨rfl, (Rd.trans (Rd.ext ((World.Extends.refl w0).alloc _)) hR).put 0 _ (Nat.le_refl _), v, ?_, ?_⟩
      · exact (Below.heap_setCell w1 _ _ _ (by simp; omega)).trans hk
      · exact (own_put ho (by omega)).mono (by omega))
  clear hge hgs hgm HW1 ef
  refine HAT.out.mono ?_
  rintro e w1 ⟨rfl, HD1, v, HG1, HO1⟩
  obtain ⟨av, lv, cv, hvv⟩ : ∃ a l c, v = .slice a l c := by
    rcases HO1.out.2 with ⟨hv, _⟩ | ⟨gq, cq, _, hv, _⟩
    · exact ⟨_, _, _, hv⟩
    · exact ⟨_, _, _, hv⟩
  subst hvv
  have HB1 : Hid (Below w.heap.size w w1) := HB0.out.trans (HD1.out.below (by omega) (by omega))
  have hq1 : w1.heap[w.heap.size + 1]? = some (.cells zmsg 30 (0, 0)) := (HD1.out.block _ (by omega) (by omega)).trans hgq
  have c0 : w1.cell? ⟨w.heap.size + 1 + 1, 0, none⟩ = some (.int .i64 id) := cellsAt HG1.out 0
  have q0 : w1.cell? ⟨w.heap.size + 1, 0, none⟩ = some (.int .i64 0) := cellsAt hq1 0
  have y0 : w1.frozen? ⟨w.heap.size + 1, 0, none⟩ = false := frozenAt hq1 0
  have c1 : w1.cell? ⟨w.heap.size + 1 + 1, 1, none⟩ = some (.bool ans) := cellsAt HG1.out 1
  have q1 : w1.cell? ⟨w.heap.size + 1, 1, none⟩ = some (.bool false) := cellsAt hq1 1
  have y1 : w1.frozen? ⟨w.heap.size + 1, 1, none⟩ = false := frozenAt hq1 1
  have c2 : w1.cell? ⟨w.heap.size + 1 + 1, 2, none⟩ = some (.bool cut) := cellsAt HG1.out 2
  have q2 : w1.cell? ⟨w.heap.size + 1, 2, none⟩ = some (.bool false) := cellsAt hq1 2
  have y2 : w1.frozen? ⟨w.heap.size + 1, 2, none⟩ = false := frozenAt hq1 2
  have c3 : w1.cell? ⟨w.heap.size + 1 + 1, 3, none⟩ = some (.int .i64 code) := cellsAt HG1.out 3
  have q3 : w1.cell? ⟨w.heap.size + 1, 3, none⟩ = some (.int .i64 0) := cellsAt hq1 3
  have y3 : w1.frozen? ⟨w.heap.size + 1, 3, none⟩ = false := frozenAt hq1 3
  have c4 : w1.cell? ⟨w.heap.size + 1 + 1, 4, none⟩ = some (.string R) := cellsAt HG1.out 4
  have q4 : w1.cell? ⟨w.heap.size + 1, 4, none⟩ = some (.string ⟨#[]⟩) := cellsAt hq1 4
  have y4 : w1.frozen? ⟨w.heap.size + 1, 4, none⟩ = false := frozenAt hq1 4
  have c5 : w1.cell? ⟨w.heap.size + 1 + 1, 5, none⟩ = some (.int .i64 typ) := cellsAt HG1.out 5
  have q5 : w1.cell? ⟨w.heap.size + 1, 5, none⟩ = some (.int .i64 0) := cellsAt hq1 5
  have y5 : w1.frozen? ⟨w.heap.size + 1, 5, none⟩ = false := frozenAt hq1 5
  have c6 : w1.cell? ⟨w.heap.size + 1 + 1, 6, none⟩ = some (.slice av lv cv) := cellsAt HG1.out 6
  have q6 : w1.cell? ⟨w.heap.size + 1, 6, none⟩ = some (.slice none 0 0) := cellsAt hq1 6
  have y6 : w1.frozen? ⟨w.heap.size + 1, 6, none⟩ = false := frozenAt hq1 6
  clear HAT HB0 HD1 HG1 hq1 hgq
  go_wp2_with fail
  refine bodyPost_ret (v := .tuple #[.agg #[.int .i64 id, .bool ans, .bool cut, .int .i64 code, .string R, .int .i64 typ, .slice av lv cv], .int .i64 0]) ?_ rfl ⟨.slice av lv cv, rfl, ?_, ?_⟩
  · simp [results, Tryd.results16, go_sem, q0, q1, q2, q3, q4, q5, q6]
  · exact (((((((HB1.out.setCell (p := ⟨w.heap.size + 1, 0, none⟩) (by simp) _).setCell (p := ⟨w.heap.size + 1, 1, none⟩) (by simp) _).setCell (p := ⟨w.heap.size + 1, 2, none⟩) (by simp) _).setCell (p := ⟨w.heap.size + 1, 3, none⟩) (by simp) _).setCell (p := ⟨w.heap.size + 1, 4, none⟩) (by simp) _).setCell (p := ⟨w.heap.size + 1, 5, none⟩) (by simp) _).setCell (p := ⟨w.heap.size + 1, 6, none⟩) (by simp) _)
  · exact Rc.Own.mono (own_put (i := 6) (own_put (i := 5) (own_put (i := 4) (own_put (i := 3) (own_put (i := 2) (own_put (i := 1) (own_put (i := 0) HO1.out (by omega)) (by omega)) (by omega)) (by omega)) (by omega)) (by omega)) (by omega)) (by omega)

/-- What was written is read. -/
theorem reads_written {id code typ : Int} {ans cut : Bool} {R : ByteArray} {rs : List Rc.Rec} (hc : chkMsg id code typ R rs = 0) (hl : (wallL id code typ ans cut R rs).length ≤ 512) : ReadsR ⟨(wallL id code typ ans cut R rs).toArray⟩ id code typ ans cut R rs := ⟨fun g w h => by
  obtain ⟨⟨e1, e2⟩, ⟨e3, e4⟩, e5, e6⟩ := msgFacts hc
  refine rmsg_any g id code typ ans cut R rs _ w h ?_ hc (by simp) ⟨⟨e1, by omega⟩, ⟨e3, by omega⟩, e5, by omega⟩
  have : (⟨(wallL id code typ ans cut R rs).toArray⟩ : ByteArray).size = (wallL id code typ ans cut R rs).length := by simp [ByteArray.size]
  omega⟩

end Go.Proofs.YtogmkdhljifbpaaDoor

/- Read, where the text is no message. -/
namespace Go.Proofs.YtogmkdhljifbpaaDoor
open Go.RowKit Go.Lib

/-- Why a text is no message; 0 if it is one. -/
def rdE (t : ByteArray) : Int := match msgF t with
  | none => 1
  | some M => chkMsg M.id M.code M.typ M.R M.rs

theorem reads_of {t : ByteArray} {M : Ms} (h : msgF t = some M) (hs : t.size ≤ 1000) : ReadsR t M.id M.code M.typ M.ans M.cut M.R M.rs := ⟨fun g w hI => by
  refine (rmsg_b g t w hI hs).mono ?_
  rintro e w' ⟨h1, ⟨M', v, h2, _, h4, h5⟩ | ⟨h2, _⟩⟩
  · have e1 : M' = M := Option.some.inj (h2.symm.trans h)
    subst e1
    exact ⟨v, h4, h1, h5⟩
  · rw [h] at h2; cases h2⟩

set_option maxHeartbeats 1600000 in
set_option maxRecDepth 100000 in
theorem read1_no (gs gm : Nat) (t : ByteArray) (w : World) (hgs : w.heap[gs]? = some (.cells #[.string t] 9 (0, 0))) (hgm : w.heap[gm]? = some (.cells zmsg 30 (0, 0))) (hs : t.size ≤ 1000) (hE : rdE t ≠ 0) :
    Calls Tryd.prog 37 #[.pointer (some ⟨gs, 0, none⟩), .pointer (some ⟨gm, 0, none⟩)] w fun r w' => r = outE (rdE t) ∧ Hid (Rd gm w w') := by
  have HR : Hid (∀ g W, IsR g t 0 W → Calls Tryd.prog 38 #[.pointer (some ⟨g, 0, none⟩)] W (MsP g W (msgF t))) := fun g W hW => rmsg_b g t W hW hs
  have HEN : Hid (msgF t = none → rdE t = 1) := fun h => by unfold rdE; rw [h]
  have HES : Hid (∀ M, msgF t = some M → rdE t = chkMsg M.id M.code M.typ M.R M.rs) := fun M h => by unfold rdE; rw [h]
  have cs : w.cell? ⟨gs, 0, none⟩ = some (.string t) := cellsAt hgs 0
  have HE0 : Hid (rdE t ≠ 0) := hE
  clear hgs hE
  have hlt : gm < w.heap.size := (Array.getElem?_eq_some_iff.1 hgm).1
  have HGM : Hid (w.heap[gm]? = some (.cells zmsg 30 (0, 0))) := hgm
  clear hgm
  generalize msgF t = F at *
  generalize rdE t = E at *
  go_enter Tryd.func37, Tryd.ntmps37
  go_wp2_with fail
  have hr0 : (w.alloc (.cells #[.string t, .int .i64 0] 58)).heap[w.heap.size]? = some (.cells #[.string t, .int .i64 0] 58 (0, 0)) := heap_alloc_new w _
  refine (HR.out w.heap.size _ ⟨cellsAt hr0 0, cellsAt hr0 1, frozenAt hr0 1, by simp⟩).mono ?_
  rintro e w1 ⟨h2, ⟨M, v, hM, ⟨hMR, hMo⟩, rfl, ho⟩ | ⟨hM, rfl⟩⟩
  rotate_left
  · have hb1 : Below w.heap.size w w1 := ((Below.refl _ _).alloc (Nat.le_refl _) _).trans (h2.out.below (Nat.le_refl _) (by simp))
    exact ⟨rfl, by rw [HEN.out hM]; rfl, Rd.of_below hb1 (Nat.le_refl _)⟩
  have HOK : Hid (∀ j, (M.rs.getD j Rc.dm).ok) := Rc.ns_get hMo
  have HES2 : Hid (E = chkMsg M.id M.code M.typ M.R M.rs) := HES.out M hM
  have HC : Hid (∀ v W, Rc.Sl W v M.rs → Calls Tryd.prog 30 #[.agg #[.int .i64 M.id, .bool M.ans, .bool M.cut, .int .i64 M.code, .string M.R, .int .i64 M.typ, v]] W fun r w' => r = outE E ∧ Below W.heap.size W w') := fun v W hv => by
    have h := dcheck_any M.id M.code M.typ M.ans M.cut M.R M.rs v W (by unfold maxLen; omega) hv
    rw [← HES2.out] at h
    exact h
  clear HES HEN hM hMo
  have hb1 : Below w.heap.size w w1 := ((Below.refl _ _).alloc (Nat.le_refl _) _).trans (h2.out.below (Nat.le_refl _) (by simp))
  have HD1 : Hid (Rd gm w w1) := Rd.of_below hb1 (Nat.le_refl _)
  have HO1 : Hid (Rc.Own (w.heap.size + 1) w1 v M.rs) := ho.out.mono (by simp <;> omega)
  obtain ⟨av, lv, cv, hvv⟩ : ∃ a l c, v = .slice a l c := by
    rcases HO1.out.2 with ⟨hv, _⟩ | ⟨gq, cq, _, hv, _⟩
    · exact ⟨_, _, _, hv⟩
    · exact ⟨_, _, _, hv⟩
  subst hvv
  have hg1 : w1.heap[gm]? = some (.cells zmsg 30 (0, 0)) := (hb1.block gm hlt).trans HGM.out
  have hl1 : gm < w1.heap.size := (Array.getElem?_eq_some_iff.1 hg1).1
  have c0 : w1.cell? ⟨gm, 0, none⟩ = some (.int .i64 0) := cellsAt hg1 0
  have z0 : w1.frozen? ⟨gm, 0, none⟩ = false := by simp [World.frozen?, hg1]
  have c1 : w1.cell? ⟨gm, 1, none⟩ = some (.bool false) := cellsAt hg1 1
  have z1 : w1.frozen? ⟨gm, 1, none⟩ = false := by simp [World.frozen?, hg1]
  have c2 : w1.cell? ⟨gm, 2, none⟩ = some (.bool false) := cellsAt hg1 2
  have z2 : w1.frozen? ⟨gm, 2, none⟩ = false := by simp [World.frozen?, hg1]
  have c3 : w1.cell? ⟨gm, 3, none⟩ = some (.int .i64 0) := cellsAt hg1 3
  have z3 : w1.frozen? ⟨gm, 3, none⟩ = false := by simp [World.frozen?, hg1]
  have c4 : w1.cell? ⟨gm, 4, none⟩ = some (.string ⟨#[]⟩) := cellsAt hg1 4
  have z4 : w1.frozen? ⟨gm, 4, none⟩ = false := by simp [World.frozen?, hg1]
  have c5 : w1.cell? ⟨gm, 5, none⟩ = some (.int .i64 0) := cellsAt hg1 5
  have z5 : w1.frozen? ⟨gm, 5, none⟩ = false := by simp [World.frozen?, hg1]
  have c6 : w1.cell? ⟨gm, 6, none⟩ = some (.slice none 0 0) := cellsAt hg1 6
  have z6 : w1.frozen? ⟨gm, 6, none⟩ = false := by simp [World.frozen?, hg1]
  have HG2 : Hid ((((((((w1.setCell ⟨gm, 0, none⟩ (.int .i64 M.id)).setCell ⟨gm, 1, none⟩ (.bool M.ans)).setCell ⟨gm, 2, none⟩ (.bool M.cut)).setCell ⟨gm, 3, none⟩ (.int .i64 M.code)).setCell ⟨gm, 4, none⟩ (.string M.R)).setCell ⟨gm, 5, none⟩ (.int .i64 M.typ)).setCell ⟨gm, 6, none⟩ (.slice av lv cv)).heap[gm]? = some (.cells #[.int .i64 M.id, .bool M.ans, .bool M.cut, .int .i64 M.code, .string M.R, .int .i64 M.typ, .slice av lv cv] 30 (0, 0))) := (Joins.block_setCell (i := 6) (Joins.block_setCell (i := 5) (Joins.block_setCell (i := 4) (Joins.block_setCell (i := 3) (Joins.block_setCell (i := 2) (Joins.block_setCell (i := 1) (Joins.block_setCell (i := 0) hg1 (.int .i64 M.id)) (.bool M.ans)) (.bool M.cut)) (.int .i64 M.code)) (.string M.R)) (.int .i64 M.typ)) (.slice av lv cv))
  have HD2 : Hid (Rd gm w (((((((w1.setCell ⟨gm, 0, none⟩ (.int .i64 M.id)).setCell ⟨gm, 1, none⟩ (.bool M.ans)).setCell ⟨gm, 2, none⟩ (.bool M.cut)).setCell ⟨gm, 3, none⟩ (.int .i64 M.code)).setCell ⟨gm, 4, none⟩ (.string M.R)).setCell ⟨gm, 5, none⟩ (.int .i64 M.typ)).setCell ⟨gm, 6, none⟩ (.slice av lv cv))) := ((((((((HD1.out).here 0 _).here 1 _).here 2 _).here 3 _).here 4 _).here 5 _).here 6 _)
  have HO2 : Hid (Rc.Own (w.heap.size + 1) (((((((w1.setCell ⟨gm, 0, none⟩ (.int .i64 M.id)).setCell ⟨gm, 1, none⟩ (.bool M.ans)).setCell ⟨gm, 2, none⟩ (.bool M.cut)).setCell ⟨gm, 3, none⟩ (.int .i64 M.code)).setCell ⟨gm, 4, none⟩ (.string M.R)).setCell ⟨gm, 5, none⟩ (.int .i64 M.typ)).setCell ⟨gm, 6, none⟩ (.slice av lv cv)) (.slice av lv cv) M.rs) := (own_put (i := 6) (own_put (i := 5) (own_put (i := 4) (own_put (i := 3) (own_put (i := 2) (own_put (i := 1) (own_put (i := 0) HO1.out (by omega)) (by omega)) (by omega)) (by omega)) (by omega)) (by omega)) (by omega))
  clear h2 ho hb1 hr0 hg1 HD1
  rw [outE_ne HE0.out] at HC
  go_wp2_with fail
  refine (HC.out _ _ (HO2.out.sl HOK.out)).mono ?_
  rintro e w2 ⟨rfl, hb2⟩
  exact ⟨rfl, (outE_ne HE0.out).symm, HD2.out.trans (Rd.of_below hb2 (Nat.le_refl _))⟩

set_option maxHeartbeats 1600000 in
set_option maxRecDepth 100000 in
theorem read_no (t : ByteArray) (w : World) (hl : t.size ≤ 512) (hE : rdE t ≠ 0) :
    Calls Tryd.prog 16 #[.string t] w fun e w' => e = .returned (.tuple #[.agg zmsg, .int .i64 1]) ∧ Below w.heap.size w w' := by
  have HW1 : Hid (∀ (gs gm : Nat) (W : World), W.heap[gs]? = some (.cells #[.string t] 9 (0, 0)) → W.heap[gm]? = some (.cells zmsg 30 (0, 0)) → Calls Tryd.prog 37 #[.pointer (some ⟨gs, 0, none⟩), .pointer (some ⟨gm, 0, none⟩)] W fun r w' => r = outE (rdE t) ∧ Hid (Rd gm W w')) := fun gs gm W hgs hgm => read1_no gs gm t W hgs hgm (by omega) hE
  have ef : ∀ args W, (callFunc 37 args).run Tryd.prog W = .ok (.enter 37 args) W := enters_of Tryd.func37 (by kernel_rfl) rfl
  have hcmp : decide (512 < (t.size : Int)) = false := by simp; omega
  have HE0 : Hid (rdE t ≠ 0) := hE
  have hE2 : (rdE t == 0) = false := by simpa using hE
  have hE3 : (rdE t != 0) = true := by simpa using hE
  clear hl hE
  generalize rdE t = E at *
  go_enter Tryd.func16, Tryd.ntmps16
  go_wp2_with fail
  obtain ⟨w0, hw0⟩ : ∃ w0, w0 = ((w.alloc (.cells #[.string t] 9)).alloc (.cells zmsg 30)).alloc (.cells zmsg 30) := ⟨_, rfl⟩
  rw [← hw0]
  have hn0 : w0.heap.size = w.heap.size + 1 + 1 + 1 := by rw [hw0]; simp
  have HB0 : Hid (Below w.heap.size w w0) := (show Below _ _ _ by rw [hw0]; exact (((Below.refl _ _).alloc (Nat.le_refl _) _).alloc (by simp) _).alloc (by simp; omega) _)
  have hgs : w0.heap[w.heap.size]? = some (.cells #[.string t] 9 (0, 0)) := by
    rw [hw0]
    exact (Lib.alloc_old _ _ _ (by simp; omega)).trans ((Lib.alloc_old _ _ _ (by simp)).trans (heap_alloc_new w _))
  have hgq : w0.heap[w.heap.size + 1]? = some (.cells zmsg 30 (0, 0)) := by
    rw [hw0]
    have h := heap_alloc_new (w.alloc (.cells #[.string t] 9)) (.cells zmsg 30)
    exact (Lib.alloc_old _ _ _ (by simp)).trans (by simpa using h)
  have hgm : w0.heap[w.heap.size + 1 + 1]? = some (.cells zmsg 30 (0, 0)) := by
    rw [hw0]
    have h := heap_alloc_new ((w.alloc (.cells #[.string t] 9)).alloc (.cells zmsg 30)) (.cells zmsg 30)
    simpa using h
  clear hw0
  have hge : (w0.alloc (.cells #[.int .i64 0] 23)).heap[w0.heap.size]? = some (.cells #[.int .i64 0] 23 (0, 0)) := heap_alloc_new w0 _
  have HAT : Hid (Calls Tryd.prog 28 #[.func (.func 37) #[] #[.pointer (some ⟨w.heap.size, 0, none⟩), .pointer (some ⟨w.heap.size + 1 + 1, 0, none⟩)]] w0 fun r w' => r = .returned (.int .i64 E) ∧ Hid (Rd (w.heap.size + 1 + 1) w0 w')) := (show Calls _ _ _ _ _ by
    refine (attempt_no 37 #[.pointer (some ⟨w.heap.size, 0, none⟩), .pointer (some ⟨w.heap.size + 1 + 1, 0, none⟩)] E w0 (fun W => Rd (w.heap.size + 1 + 1) (w0.alloc (.cells #[.int .i64 0] 23)) W) ef ?_).mono ?_
    · refine (HW1.out w.heap.size (w.heap.size + 1 + 1) _ ((Lib.alloc_old w0 _ _ (by omega)).trans hgs) ((Lib.alloc_old w0 _ _ (by omega)).trans hgm)).mono ?_
      rintro r w' ⟨rfl, hb⟩
      have hk : w'.heap[w0.heap.size]? = some (.cells #[.int .i64 0] 23 (0, 0)) := (hb.out.block _ (by simp) (by omega)).trans hge
      exact ⟨outE_ne HE0.out, hb.out, cellsAt hk 0, frozenAt hk 0, (Array.getElem?_eq_some_iff.1 hk).1⟩
    · rintro r w' ⟨rfl, w1, hR, _, hb⟩
      exact ⟨rfl, (Rd.trans (Rd.ext ((World.Extends.refl w0).alloc _)) hR).belowed hb⟩)
  clear hge hgs hgm HW1 ef
  refine HAT.out.mono ?_
  rintro e w1 ⟨rfl, HD1⟩
  have HB1 : Hid (Below w.heap.size w w1) := HB0.out.trans (HD1.out.below (by omega) (by omega))
  have hq1 : w1.heap[w.heap.size + 1]? = some (.cells zmsg 30 (0, 0)) := (HD1.out.block _ (by omega) (by omega)).trans hgq
  have q0 : w1.cell? ⟨w.heap.size + 1, 0, none⟩ = some (.int .i64 0) := cellsAt hq1 0
  have y0 : w1.frozen? ⟨w.heap.size + 1, 0, none⟩ = false := frozenAt hq1 0
  have q1 : w1.cell? ⟨w.heap.size + 1, 1, none⟩ = some (.bool false) := cellsAt hq1 1
  have y1 : w1.frozen? ⟨w.heap.size + 1, 1, none⟩ = false := frozenAt hq1 1
  have q2 : w1.cell? ⟨w.heap.size + 1, 2, none⟩ = some (.bool false) := cellsAt hq1 2
  have y2 : w1.frozen? ⟨w.heap.size + 1, 2, none⟩ = false := frozenAt hq1 2
  have q3 : w1.cell? ⟨w.heap.size + 1, 3, none⟩ = some (.int .i64 0) := cellsAt hq1 3
  have y3 : w1.frozen? ⟨w.heap.size + 1, 3, none⟩ = false := frozenAt hq1 3
  have q4 : w1.cell? ⟨w.heap.size + 1, 4, none⟩ = some (.string ⟨#[]⟩) := cellsAt hq1 4
  have y4 : w1.frozen? ⟨w.heap.size + 1, 4, none⟩ = false := frozenAt hq1 4
  have q5 : w1.cell? ⟨w.heap.size + 1, 5, none⟩ = some (.int .i64 0) := cellsAt hq1 5
  have y5 : w1.frozen? ⟨w.heap.size + 1, 5, none⟩ = false := frozenAt hq1 5
  have q6 : w1.cell? ⟨w.heap.size + 1, 6, none⟩ = some (.slice none 0 0) := cellsAt hq1 6
  have y6 : w1.frozen? ⟨w.heap.size + 1, 6, none⟩ = false := frozenAt hq1 6
  clear HAT HB0 HD1 hq1 hgq
  go_wp2_with fail
  refine bodyPost_ret (v := .tuple #[.agg zmsg, .int .i64 1]) ?_ rfl ⟨rfl, ?_⟩
  · simp [results, Tryd.results16, go_sem, q0, q1, q2, q3, q4, q5, q6]
  · exact (((((((HB1.out.setCell (p := ⟨w.heap.size + 1, 0, none⟩) (by simp) _).setCell (p := ⟨w.heap.size + 1, 1, none⟩) (by simp) _).setCell (p := ⟨w.heap.size + 1, 2, none⟩) (by simp) _).setCell (p := ⟨w.heap.size + 1, 3, none⟩) (by simp) _).setCell (p := ⟨w.heap.size + 1, 4, none⟩) (by simp) _).setCell (p := ⟨w.heap.size + 1, 5, none⟩) (by simp) _).setCell (p := ⟨w.heap.size + 1, 6, none⟩) (by simp) _)

end Go.Proofs.YtogmkdhljifbpaaDoor

/- records: are two lists the same? -/
namespace Go.Proofs.YtogmkdhljifbpaaDoor
namespace Rc
open Go.RowKit

set_option maxHeartbeats 800000 in
theorem same_any (a b : List Rec) (va vb : Value) (w : World) (ha : Sl w va a) (hb : Sl w vb b) (hsm : a.length ≤ 1000) :
    Calls Tryd.prog 21 #[va, vb] w fun e w' => ∃ r : Bool, e = .returned (.bool r) ∧ (r = true ↔ a = b) ∧ Below w.heap.size w w' := by
  obtain ⟨pa, ca, rfl, _, ha⟩ := ha
  obtain ⟨pv, cb, rfl, _, hb⟩ := hb
  by_cases hl : a.length = b.length
  · have HA : Hid (a = [] ∨ ∃ b off, pa = some ⟨b, off, none⟩ ∧ b < w.heap.size ∧ Row w b off a) := ha
    have HB : Hid (b = [] ∨ ∃ b_1 off, pv = some ⟨b_1, off, none⟩ ∧ b_1 < w.heap.size ∧ Row w b_1 off b) := hb
    have HL : Hid (a.length = b.length) := hl
    clear ha hb
    rw [← hl]
    clear hl
    generalize hna : a.length = n at *
    have HN : Hid (a.length = n) := hna
    clear hna
    have hg28 : Tryd.prog.eqGuardType Tryd.prog.depth 54 = false := by kernel_rfl
    go_enter Tryd.func21, Tryd.ntmps21
    go_wp2_with fail
    go_loopw [5] (fun i w' => ∃ k : Nat, k ≤ n ∧ i = .int .i64 k ∧ Below w.heap.size w w' ∧ Hid (∀ j, j < k → a.getD j dm = b.getD j dm)) (fun i _ => n - (intOf i).toNat)
    case atStart => exact ⟨0, Nat.zero_le _, rfl, Below.refl _ _, fun j h => absurd h (Nat.not_lt_zero _)⟩
    case round =>
      obtain ⟨k, hk, rfl, hbl, hz⟩ := hrel
      obtain ⟨hbc, hbf⟩ := bcell hbl
      have hsz := hbl.size
      by_cases hlt : k < n
      · obtain ⟨b1, o1, hp1, hl1, hr1⟩ : ∃ b off, pa = some ⟨b, off, none⟩ ∧ b < w.heap.size ∧ Row w b off a := by
          rcases HA.out with h | h
          · have := HN.out; rw [h] at this; simp at this; omega
          · exact h
        obtain ⟨b2, o2, hp2, hl2, hr2⟩ : ∃ b_1 off, pv = some ⟨b_1, off, none⟩ ∧ b_1 < w.heap.size ∧ Row w b_1 off b := by
          rcases HB.out with h | h
          · have h2 := HN.out; have h3 := HL.out; rw [h] at h3; simp at h3; omega
          · exact h
        subst hp1
        subst hp2
        obtain ⟨c0, c1, c2, c3, c4, c5, c6⟩ := hr1 k (by rw [HN.out]; exact hlt)
        obtain ⟨d0, d1, d2, d3, d4, d5, d6⟩ := hr2 k (by have h2 := HN.out; have h3 := HL.out; omega)
        clear hr1 hr2
        have HF : Hid (a.getD k dm ≠ b.getD k dm → a ≠ b) := fun h e => h (by rw [e])
        have HZ : Hid (a.getD k dm = b.getD k dm → ∀ j, j < k + 1 → a.getD j dm = b.getD j dm) := fun h j hj => by
          rcases Nat.lt_succ_iff_lt_or_eq.1 hj with h2 | rfl
          · exact hz.out j h2
          · exact h
        have hneq := neqE (a.getD k dm) (b.getD k dm)
        generalize a.getD k dm = m1 at *
        generalize b.getD k dm = m2 at *
        rcases hs : sameM m1 m2 with _ | _
        · rw [hs] at hneq
          have hne : Hid (a ≠ b) := HF.out (fun e => by rw [← sameM_iff, hs] at e; cases e)
          go_wp2_with fail
          go_quiet (fail)
          go_wp2_with fail
          go_ret
          exact ⟨false, rfl, ⟨fun h => (by cases h), fun h => absurd h hne.out⟩, below_drewN hbl _⟩
        · rw [hs] at hneq
          have heq : Hid (m1 = m2) := (sameM_iff m1 m2).1 hs
          go_wp2_with fail
          go_quiet (fail)
          go_wp2_with fail
          go_roundw
          case rel => exact ⟨k + 1, by omega, by go_num, below_drewN hbl _, HZ.out heq.out⟩
          case measure => simp [intOf]; omega
      · have hfin : Hid (a = b) := by
          apply List.ext_getElem (HN.out.trans HL.out)
          intro j h1 h2
          have := hz.out j (by have := HN.out; omega)
          simpa [List.getD, List.getElem?_eq_getElem h1, List.getElem?_eq_getElem h2] using this
        go_wp2_with fail
        go_ret
        exact ⟨true, rfl, ⟨fun _ => hfin.out, fun _ => rfl⟩, hbl⟩
  · have hne : ((a.length : Int) != (b.length : Int)) = true := by rw [bne_iff_ne]; omega
    have HF : Hid (a ≠ b) := fun e => hl (by rw [e])
    clear ha hb
    go_enter Tryd.func21, Tryd.ntmps21
    go_wp2_with fail
    go_ret
    exact ⟨false, rfl, ⟨fun h => (by cases h), fun h => absurd h HF.out⟩, Below.refl _ _⟩

end Rc
end Go.Proofs.YtogmkdhljifbpaaDoor

/- Read of whatever text; SameMessage of two that are. -/
namespace Go.Proofs.YtogmkdhljifbpaaDoor
open Go.RowKit Go.Lib

set_option maxHeartbeats 1600000 in
set_option maxRecDepth 100000 in
theorem read_long (t : ByteArray) (w : World) (hl : ¬ t.size ≤ 512) :
    Calls Tryd.prog 16 #[.string t] w fun e w' => e = .returned (.tuple #[.agg zmsg, .int .i64 2]) ∧ Below w.heap.size w w' := by
  have hcmp : decide (512 < (t.size : Int)) = true := by simp; omega
  clear hl
  go_enter Tryd.func16, Tryd.ntmps16
  go_wp2_with fail
  refine bodyPost_ret (v := .tuple #[.agg zmsg, .int .i64 2]) ?_ rfl ⟨rfl, ?_⟩
  · simp [results, Tryd.results16, go_sem]
  · exact ((Below.refl _ _).alloc (Nat.le_refl _) _).alloc (by simp) _

/-- How Read ends. -/
abbrev RdP (t : ByteArray) (w : World) (e : Ending) (w' : World) : Prop :=
  Below w.heap.size w w' ∧ ((∃ M v, msgF t = some M ∧ t.size ≤ 512 ∧ chkMsg M.id M.code M.typ M.R M.rs = 0 ∧ e = .returned (.tuple #[.agg #[.int .i64 M.id, .bool M.ans, .bool M.cut, .int .i64 M.code, .string M.R, .int .i64 M.typ, v], .int .i64 0]) ∧ Hid (Rc.Own w.heap.size w' v M.rs)) ∨ (∃ E : Int, E = (if t.size ≤ 512 then 1 else 2) ∧ (t.size ≤ 512 → rdE t ≠ 0) ∧ e = .returned (.tuple #[.agg zmsg, .int .i64 E])))
theorem read_b (t : ByteArray) (w : World) : Calls Tryd.prog 16 #[.string t] w (RdP t w) := by
  by_cases hl : t.size ≤ 512
  · by_cases hE : rdE t = 0
    · have h2 : ∃ M, msgF t = some M ∧ chkMsg M.id M.code M.typ M.R M.rs = 0 := by
        unfold rdE at hE
        cases hM : msgF t with
        | none => rw [hM] at hE; simp at hE
        | some M => rw [hM] at hE; exact ⟨M, rfl, hE⟩
      obtain ⟨M, hM, hc⟩ := h2
      refine (read_any M.id M.code M.typ M.ans M.cut M.R t M.rs w (reads_of hM (by omega)) hl hc).mono ?_
      rintro e w' ⟨v, h1, h2, h3⟩
      exact ⟨h2, .inl ⟨M, v, hM, hl, hc, h1, h3⟩⟩
    · refine (read_no t w hl hE).mono ?_
      rintro e w' ⟨h1, h2⟩
      exact ⟨h2, .inr ⟨1, by rw [if_pos hl], fun _ => hE, h1⟩⟩
  · refine (read_long t w hl).mono ?_
    rintro e w' ⟨h1, h2⟩
    exact ⟨h2, .inr ⟨2, by rw [if_neg hl], fun h => absurd h hl, h1⟩⟩

set_option maxHeartbeats 1600000 in
set_option maxRecDepth 100000 in
theorem sameMsg_ok (id code typ : Int) (ans cut : Bool) (R : ByteArray) (rs : List Rc.Rec) (va vb : Value) (w : World) (ha : Rc.Sl w va rs) (hb : Rc.Sl w vb rs) (hn : rs.length ≤ 1000) :
    Calls Tryd.prog 18 #[.agg #[.int .i64 id, .bool ans, .bool cut, .int .i64 code, .string R, .int .i64 typ, va], .agg #[.int .i64 id, .bool ans, .bool cut, .int .i64 code, .string R, .int .i64 typ, vb]] w fun e w' => e = .returned (.bool true) ∧ Below w.heap.size w w' := by
  have HS : Hid (∀ W, Below w.heap.size w W → Calls Tryd.prog 21 #[va, vb] W fun e w' => e = .returned (.bool true) ∧ Below W.heap.size W w') := fun W hW => by
    refine (Rc.same_any rs rs va vb W (ha.below hW) (hb.below hW) hn).mono ?_
    rintro e w' ⟨r, rfl, hr, hbl⟩
    rw [hr.2 rfl]
    exact ⟨rfl, hbl⟩
  clear ha hb
  go_enter Tryd.func18, Tryd.ntmps18
  go_wp2_with fail
  have hb0 : Below w.heap.size w ((w.alloc (.cells #[.int .i64 id, .bool ans, .bool cut, .int .i64 code, .string R, .int .i64 typ, va] 30)).alloc (.cells #[.int .i64 id, .bool ans, .bool cut, .int .i64 code, .string R, .int .i64 typ, vb] 30)) := ((Below.refl _ _).alloc (Nat.le_refl _) _).alloc (by simp) _
  refine (HS.out _ hb0).mono ?_
  rintro e w1 ⟨rfl, hb1⟩
  have HB1 : Hid (Below w.heap.size w w1) := hb0.trans (hb1.mono (by simp; omega))
  clear hb0 hb1
  go_wp2_with fail
  go_ret
  exact ⟨rfl, HB1.out⟩

end Go.Proofs.YtogmkdhljifbpaaDoor

