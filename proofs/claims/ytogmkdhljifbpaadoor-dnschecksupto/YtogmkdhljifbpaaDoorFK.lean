/- Read, of a message without records. -/
import Derived.Test.YtogmkdhljifbpaaDoorFJ
import Derived.Test.YtogmkdhljifbpaaDoorF2
import Derived.Test.YtogmkdhljifbpaaDoorFA
namespace Go.Proofs.YtogmkdhljifbpaaDoor
open Go.RowKit Go.Lib

/-- A message without records, as it is read. -/
structure Reads (t : ByteArray) (id code typ : Nat) (R : ByteArray) : Prop where
  go : ∀ (g : Nat) (w : World), IsR g t 0 w → Calls Tryd.prog 38 #[.pointer (some ⟨g, 0, none⟩)] w fun e w' => e = .returned (msgV id code typ false false R) ∧ Hid (Rd g w w')

theorem frozenAt {W : World} {g : Nat} {cs : Array Value} {T : TypeId} (h : W.heap[g]? = some (.cells cs T (0, 0))) (i : Nat) : W.frozen? ⟨g, i, none⟩ = false := by simp [World.frozen?, h]
theorem Rd.here {g : Nat} {w W : World} (h : Rd g w W) (i : Nat) (v : Value) : Rd g w (W.setCell ⟨g, i, none⟩ v) :=
  ⟨h.os, h.tape, h.output, by simpa using h.size, fun k hk hg => (Below.heap_setCell W _ v k (by simpa using hg)).trans (h.block k hk hg)⟩

set_option maxHeartbeats 1600000 in
set_option maxRecDepth 100000 in
theorem read1_ok (gs gm id code typ : Nat) (R t : ByteArray) (w : World) (hr : Reads t id code typ R) (hgs : w.heap[gs]? = some (.cells #[.string t] 9 (0, 0))) (hgm : w.heap[gm]? = some (.cells zmsg 30 (0, 0))) (h1 : within (id : Int) 0 65535 = true) (h2 : within (code : Int) 0 15 = true) (hs : R.size ≤ maxLen) (hn : chkN R = 0) (ht : (decide ((typ : Int) = 1) || decide ((typ : Int) = 16) || decide ((typ : Int) = 33)) = true) :
    Calls Tryd.prog 37 #[.pointer (some ⟨gs, 0, none⟩), .pointer (some ⟨gm, 0, none⟩)] w fun r w' => r = .returned (.tuple #[]) ∧ Hid (Rd gm w w') ∧ Hid (w'.heap[gm]? = some (.cells #[.int .i64 id, .bool false, .bool false, .int .i64 code, .string R, .int .i64 typ, .slice none 0 0] 30 (0, 0))) := by
  have HC : Hid (∀ W, Calls Tryd.prog 30 #[.agg #[.int .i64 id, .bool false, .bool false, .int .i64 code, .string R, .int .i64 typ, .slice none 0 0]] W fun r w' => r = .returned (.tuple #[]) ∧ Below W.heap.size W w') := fun W => check_none id code typ false false R W h1 h2 hs hn ht
  have HR : Hid (Reads t id code typ R) := hr
  have cs : w.cell? ⟨gs, 0, none⟩ = some (.string t) := cellsAt hgs 0
  clear h1 h2 hs hn ht hr hgs
  have hlt : gm < w.heap.size := (Array.getElem?_eq_some_iff.1 hgm).1
  have HGM : Hid (w.heap[gm]? = some (.cells zmsg 30 (0, 0))) := hgm
  clear hgm
  go_enter Tryd.func37, Tryd.ntmps37
  go_wp2_with fail
  have hx0 : w.Extends (w.alloc (.cells #[.string t, .int .i64 0] 58)) := (World.Extends.refl w).alloc _
  have hr0 : (w.alloc (.cells #[.string t, .int .i64 0] 58)).heap[w.heap.size]? = some (.cells #[.string t, .int .i64 0] 58 (0, 0)) := heap_alloc_new w _
  refine (HR.out.go w.heap.size _ ⟨cellsAt hr0 0, cellsAt hr0 1, frozenAt hr0 1, by simp⟩).mono ?_
  rintro e w1 ⟨rfl, h2⟩
  have hb1 : Below w.heap.size w w1 := ((Below.refl _ _).alloc (Nat.le_refl _) _).trans (h2.out.below (Nat.le_refl _) (by simp))
  have HD1 : Hid (Rd gm w w1) := Rd.of_below hb1 (Nat.le_refl _)
  have hg1 : w1.heap[gm]? = some (.cells zmsg 30 (0, 0)) := (hb1.block gm hlt).trans HGM.out
  have hl1 : gm < w1.heap.size := (Array.getElem?_eq_some_iff.1 hg1).1
  have c0 : w1.cell? ⟨gm, 0, none⟩ = some (.int .i64 0) := cellsAt hg1 0
  have z0 : w1.frozen? ⟨gm, 0, none⟩ = false := by simp [World.frozen?, hg1]
  have c1 : w1.cell? ⟨gm, 1, none⟩ = some (.bool false) := cellsAt hg1 1
  have z1 : w1.frozen? ⟨gm, 1, none⟩ = false := by simp [World.frozen?, hg1]
  have c2 : w1.cell? ⟨gm, 2, none⟩ = some (.bool false) := cellsAt hg1 2
  have z2 : w1.frozen? ⟨gm, 2, none⟩ = false := by simp [World.frozen?, hg1]
  have c3 : w1.cell? ⟨gm, 3, none⟩ = some (.int .i64 0) := cellsAt hg1 3
  have z3 : w1.frozen? ⟨gm, 3, none⟩ = false := by simp [World.frozen?, hg1]
  have c4 : w1.cell? ⟨gm, 4, none⟩ = some (.string ⟨#[]⟩) := cellsAt hg1 4
  have z4 : w1.frozen? ⟨gm, 4, none⟩ = false := by simp [World.frozen?, hg1]
  have c5 : w1.cell? ⟨gm, 5, none⟩ = some (.int .i64 0) := cellsAt hg1 5
  have z5 : w1.frozen? ⟨gm, 5, none⟩ = false := by simp [World.frozen?, hg1]
  have c6 : w1.cell? ⟨gm, 6, none⟩ = some (.slice none 0 0) := cellsAt hg1 6
  have z6 : w1.frozen? ⟨gm, 6, none⟩ = false := by simp [World.frozen?, hg1]
  have HG2 : Hid ((((((((w1.setCell ⟨gm, 0, none⟩ (.int .i64 id)).setCell ⟨gm, 1, none⟩ (.bool false)).setCell ⟨gm, 2, none⟩ (.bool false)).setCell ⟨gm, 3, none⟩ (.int .i64 code)).setCell ⟨gm, 4, none⟩ (.string R)).setCell ⟨gm, 5, none⟩ (.int .i64 typ)).setCell ⟨gm, 6, none⟩ (.slice none 0 0)).heap[gm]? = some (.cells #[.int .i64 id, .bool false, .bool false, .int .i64 code, .string R, .int .i64 typ, .slice none 0 0] 30 (0, 0))) := (Joins.block_setCell (i := 6) (Joins.block_setCell (i := 5) (Joins.block_setCell (i := 4) (Joins.block_setCell (i := 3) (Joins.block_setCell (i := 2) (Joins.block_setCell (i := 1) (Joins.block_setCell (i := 0) hg1 (.int .i64 id)) (.bool false)) (.bool false)) (.int .i64 code)) (.string R)) (.int .i64 typ)) (.slice none 0 0))
  have HD2 : Hid (Rd gm w (((((((w1.setCell ⟨gm, 0, none⟩ (.int .i64 id)).setCell ⟨gm, 1, none⟩ (.bool false)).setCell ⟨gm, 2, none⟩ (.bool false)).setCell ⟨gm, 3, none⟩ (.int .i64 code)).setCell ⟨gm, 4, none⟩ (.string R)).setCell ⟨gm, 5, none⟩ (.int .i64 typ)).setCell ⟨gm, 6, none⟩ (.slice none 0 0))) := ((((((((HD1.out).here 0 _).here 1 _).here 2 _).here 3 _).here 4 _).here 5 _).here 6 _)
  clear h2 hb1 hx0 hr0 hg1 HD1
  go_wp2_with fail
  refine (HC.out _).mono ?_
  rintro e w2 ⟨rfl, hb2⟩
  have HB2 : Hid (Below (((((((w1.setCell ⟨gm, 0, none⟩ (.int .i64 id)).setCell ⟨gm, 1, none⟩ (.bool false)).setCell ⟨gm, 2, none⟩ (.bool false)).setCell ⟨gm, 3, none⟩ (.int .i64 code)).setCell ⟨gm, 4, none⟩ (.string R)).setCell ⟨gm, 5, none⟩ (.int .i64 typ)).setCell ⟨gm, 6, none⟩ (.slice none 0 0)).heap.size (((((((w1.setCell ⟨gm, 0, none⟩ (.int .i64 id)).setCell ⟨gm, 1, none⟩ (.bool false)).setCell ⟨gm, 2, none⟩ (.bool false)).setCell ⟨gm, 3, none⟩ (.int .i64 code)).setCell ⟨gm, 4, none⟩ (.string R)).setCell ⟨gm, 5, none⟩ (.int .i64 typ)).setCell ⟨gm, 6, none⟩ (.slice none 0 0)) w2) := hb2
  clear hb2
  go_wp2_with fail
  simp [bodyPost, results, Tryd.results37]
  refine ⟨HD2.out.trans (Rd.of_below HB2.out (Nat.le_refl _)), ?_⟩
  exact (HB2.out.block gm (by simp; exact hl1)).trans HG2.out

set_option maxHeartbeats 1600000 in
set_option maxRecDepth 100000 in
theorem read_none (id code typ : Nat) (R t : ByteArray) (w : World) (hr : Reads t id code typ R) (hl : t.size ≤ 512) (h1 : within (id : Int) 0 65535 = true) (h2 : within (code : Int) 0 15 = true) (hs : R.size ≤ maxLen) (hn : chkN R = 0) (ht : (decide ((typ : Int) = 1) || decide ((typ : Int) = 16) || decide ((typ : Int) = 33)) = true) :
    Calls Tryd.prog 16 #[.string t] w fun e w' => e = .returned (.tuple #[msgV id code typ false false R, .int .i64 0]) ∧ Below w.heap.size w w' := by
  have HW1 : Hid (∀ (gs gm : Nat) (W : World), W.heap[gs]? = some (.cells #[.string t] 9 (0, 0)) → W.heap[gm]? = some (.cells zmsg 30 (0, 0)) → Calls Tryd.prog 37 #[.pointer (some ⟨gs, 0, none⟩), .pointer (some ⟨gm, 0, none⟩)] W fun r w' => r = .returned (.tuple #[]) ∧ Hid (Rd gm W w') ∧ Hid (w'.heap[gm]? = some (.cells #[.int .i64 id, .bool false, .bool false, .int .i64 code, .string R, .int .i64 typ, .slice none 0 0] 30 (0, 0)))) := fun gs gm W hgs hgm => read1_ok gs gm id code typ R t W hr hgs hgm h1 h2 hs hn ht
  have ef : ∀ args W, (callFunc 37 args).run Tryd.prog W = .ok (.enter 37 args) W := enters_of Tryd.func37 (by kernel_rfl) rfl
  have hcmp : decide (512 < (t.size : Int)) = false := by simp; omega
  clear h1 h2 hs hn ht hl hr
  go_enter Tryd.func16, Tryd.ntmps16
  go_wp2_with fail
  obtain ⟨w0, hw0⟩ : ∃ w0, w0 = ((w.alloc (.cells #[.string t] 9)).alloc (.cells zmsg 30)).alloc (.cells zmsg 30) := ⟨_, rfl⟩
  rw [← hw0]
  have hn0 : w0.heap.size = w.heap.size + 1 + 1 + 1 := by rw [hw0]; simp
  have HB0 : Hid (Below w.heap.size w w0) := (show Below _ _ _ by rw [hw0]; exact (((Below.refl _ _).alloc (Nat.le_refl _) _).alloc (by simp) _).alloc (by simp; omega) _)
  have hgs : w0.heap[w.heap.size]? = some (.cells #[.string t] 9 (0, 0)) := by
    rw [hw0]
    exact (Lib.alloc_old _ _ _ (by simp; omega)).trans ((Lib.alloc_old _ _ _ (by simp)).trans (heap_alloc_new w _))
  have hgq : w0.heap[w.heap.size + 1]? = some (.cells zmsg 30 (0, 0)) := by
    rw [hw0]
    have h := heap_alloc_new (w.alloc (.cells #[.string t] 9)) (.cells zmsg 30)
    exact (Lib.alloc_old _ _ _ (by simp)).trans (by simpa using h)
  have hgm : w0.heap[w.heap.size + 1 + 1]? = some (.cells zmsg 30 (0, 0)) := by
    rw [hw0]
    have h := heap_alloc_new ((w.alloc (.cells #[.string t] 9)).alloc (.cells zmsg 30)) (.cells zmsg 30)
    simpa using h
  clear hw0
  have hge : (w0.alloc (.cells #[.int .i64 0] 23)).heap[w0.heap.size]? = some (.cells #[.int .i64 0] 23 (0, 0)) := heap_alloc_new w0 _
  have HAT : Hid (Calls Tryd.prog 28 #[.func (.func 37) #[] #[.pointer (some ⟨w.heap.size, 0, none⟩), .pointer (some ⟨w.heap.size + 1 + 1, 0, none⟩)]] w0 fun r w' => r = .returned (.int .i64 0) ∧ Hid (Rd (w.heap.size + 1 + 1) w0 w') ∧ Hid (w'.heap[w.heap.size + 1 + 1]? = some (.cells #[.int .i64 id, .bool false, .bool false, .int .i64 code, .string R, .int .i64 typ, .slice none 0 0] 30 (0, 0)))) := (show Calls _ _ _ _ _ by
    refine (attempt_ok 37 #[.pointer (some ⟨w.heap.size, 0, none⟩), .pointer (some ⟨w.heap.size + 1 + 1, 0, none⟩)] w0 (fun W => Rd (w.heap.size + 1 + 1) (w0.alloc (.cells #[.int .i64 0] 23)) W ∧ W.heap[w.heap.size + 1 + 1]? = some (.cells #[.int .i64 id, .bool false, .bool false, .int .i64 code, .string R, .int .i64 typ, .slice none 0 0] 30 (0, 0))) ef ?_).mono ?_
    · refine (HW1.out w.heap.size (w.heap.size + 1 + 1) _ ((Lib.alloc_old w0 _ _ (by omega)).trans hgs) ((Lib.alloc_old w0 _ _ (by omega)).trans hgm)).mono ?_
      rintro r w' ⟨rfl, hb, hk2⟩
      have hk : w'.heap[w0.heap.size]? = some (.cells #[.int .i64 0] 23 (0, 0)) := (hb.out.block _ (by simp) (by omega)).trans hge
      exact ⟨rfl, ⟨hb.out, hk2.out⟩, cellsAt hk 0, frozenAt hk 0, (Array.getElem?_eq_some_iff.1 hk).1⟩
    · rintro r w' ⟨rfl, w1, ⟨hR, hk⟩, _, rfl⟩
      refine ⟨rfl, (Rd.trans (Rd.ext ((World.Extends.refl w0).alloc _)) hR).put 0 _ (Nat.le_refl _), ?_⟩
      exact (Below.heap_setCell w1 _ _ _ (by simp; omega)).trans hk)
  clear hge hgs hgm HW1 ef
  refine HAT.out.mono ?_
  rintro e w1 ⟨rfl, HD1, HG1⟩
  have HB1 : Hid (Below w.heap.size w w1) := HB0.out.trans (HD1.out.below (by omega) (by omega))
  have hq1 : w1.heap[w.heap.size + 1]? = some (.cells zmsg 30 (0, 0)) := (HD1.out.block _ (by omega) (by omega)).trans hgq
  have c0 : w1.cell? ⟨w.heap.size + 1 + 1, 0, none⟩ = some (.int .i64 id) := cellsAt HG1.out 0
  have q0 : w1.cell? ⟨w.heap.size + 1, 0, none⟩ = some (.int .i64 0) := cellsAt hq1 0
  have y0 : w1.frozen? ⟨w.heap.size + 1, 0, none⟩ = false := frozenAt hq1 0
  have c1 : w1.cell? ⟨w.heap.size + 1 + 1, 1, none⟩ = some (.bool false) := cellsAt HG1.out 1
  have q1 : w1.cell? ⟨w.heap.size + 1, 1, none⟩ = some (.bool false) := cellsAt hq1 1
  have y1 : w1.frozen? ⟨w.heap.size + 1, 1, none⟩ = false := frozenAt hq1 1
  have c2 : w1.cell? ⟨w.heap.size + 1 + 1, 2, none⟩ = some (.bool false) := cellsAt HG1.out 2
  have q2 : w1.cell? ⟨w.heap.size + 1, 2, none⟩ = some (.bool false) := cellsAt hq1 2
  have y2 : w1.frozen? ⟨w.heap.size + 1, 2, none⟩ = false := frozenAt hq1 2
  have c3 : w1.cell? ⟨w.heap.size + 1 + 1, 3, none⟩ = some (.int .i64 code) := cellsAt HG1.out 3
  have q3 : w1.cell? ⟨w.heap.size + 1, 3, none⟩ = some (.int .i64 0) := cellsAt hq1 3
  have y3 : w1.frozen? ⟨w.heap.size + 1, 3, none⟩ = false := frozenAt hq1 3
  have c4 : w1.cell? ⟨w.heap.size + 1 + 1, 4, none⟩ = some (.string R) := cellsAt HG1.out 4
  have q4 : w1.cell? ⟨w.heap.size + 1, 4, none⟩ = some (.string ⟨#[]⟩) := cellsAt hq1 4
  have y4 : w1.frozen? ⟨w.heap.size + 1, 4, none⟩ = false := frozenAt hq1 4
  have c5 : w1.cell? ⟨w.heap.size + 1 + 1, 5, none⟩ = some (.int .i64 typ) := cellsAt HG1.out 5
  have q5 : w1.cell? ⟨w.heap.size + 1, 5, none⟩ = some (.int .i64 0) := cellsAt hq1 5
  have y5 : w1.frozen? ⟨w.heap.size + 1, 5, none⟩ = false := frozenAt hq1 5
  have c6 : w1.cell? ⟨w.heap.size + 1 + 1, 6, none⟩ = some (.slice none 0 0) := cellsAt HG1.out 6
  have q6 : w1.cell? ⟨w.heap.size + 1, 6, none⟩ = some (.slice none 0 0) := cellsAt hq1 6
  have y6 : w1.frozen? ⟨w.heap.size + 1, 6, none⟩ = false := frozenAt hq1 6
  clear HAT HB0 HD1 HG1 hq1 hgq
  go_wp2_with fail
  refine bodyPost_ret (v := .tuple #[msgV id code typ false false R, .int .i64 0]) ?_ rfl ⟨rfl, ?_⟩
  · simp [results, Tryd.results16, go_sem, q0, q1, q2, q3, q4, q5, q6]
  · exact (((((((HB1.out.setCell (p := ⟨w.heap.size + 1, 0, none⟩) (by simp) _).setCell (p := ⟨w.heap.size + 1, 1, none⟩) (by simp) _).setCell (p := ⟨w.heap.size + 1, 2, none⟩) (by simp) _).setCell (p := ⟨w.heap.size + 1, 3, none⟩) (by simp) _).setCell (p := ⟨w.heap.size + 1, 4, none⟩) (by simp) _).setCell (p := ⟨w.heap.size + 1, 5, none⟩) (by simp) _).setCell (p := ⟨w.heap.size + 1, 6, none⟩) (by simp) _)

end Go.Proofs.YtogmkdhljifbpaaDoor
