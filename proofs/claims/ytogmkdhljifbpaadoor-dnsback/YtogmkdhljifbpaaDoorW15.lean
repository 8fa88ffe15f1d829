/- FK, FZ, GA, GB -/
import Derived.Test.YtogmkdhljifbpaaDoorW10
import Derived.Test.YtogmkdhljifbpaaDoorW2
import Derived.Test.YtogmkdhljifbpaaDoorW9
import Derived.Test.YtogmkdhljifbpaaDoorW7
import Derived.Deep.RegionHeld3
import Derived.StillTactics
import Derived.Lib.QuietBelow
/- Read, of a message without records. -/
namespace Go.Proofs.YtogmkdhljifbpaaDoor
open Go.RowKit Go.Lib

/-- A message without records, as it is read. -/
structure Reads (t : ByteArray) (id code typ : Nat) (R : ByteArray) : Prop where
  go : ∀ (g : Nat) (w : World), IsR g t 0 w → Calls Tryd.prog 38 #[.pointer (some ⟨g, 0, none⟩)] w fun e w' => e = .returned (msgV id code typ false false R) ∧ Hid (Rd g w w')

theorem frozenAt {W : World} {g : Nat} {cs : Array Value} {T : TypeId} (h : W.heap[g]? = some (.cells cs T (0, 0))) (i : Nat) : W.frozen? ⟨g, i, none⟩ = false := by simp [World.frozen?, h]
theorem Rd.here {g : Nat} {w W : World} (h : Rd g w W) (i : Nat) (v : Value) : Rd g w (W.setCell ⟨g, i, none⟩ v) :=
  ⟨h.os, h.tape, h.output, by simpa using h.size, fun k hk hg => (Below.heap_setCell W _ v k (by simpa using hg)).trans (h.block k hk hg)⟩

set_option maxHeartbeats 1600000 in
set_option maxRecDepth 100000 in
theorem read1_ok (gs gm id code typ : Nat) (R t : ByteArray) (w : World) (hr : Reads t id code typ R) (hgs : w.heap[gs]? = some (.cells #[.string t] 9 (0, 0))) (hgm : w.heap[gm]? = some (.cells zmsg 30 (0, 0))) (h1 : within (id : Int) 0 65535 = true) (h2 : within (code : Int) 0 15 = true) (hs : R.size ≤ maxLen) (hn : chkN R = 0) (ht : (decide ((typ : Int) = 1) || decide ((typ : Int) = 16) || decide ((typ : Int) = 33)) = true) :
    Calls Tryd.prog 37 #[.pointer (some ⟨gs, 0, none⟩), .pointer (some ⟨gm, 0, none⟩)] w fun r w' => r = .returned (.tuple #[]) ∧ Hid (Rd gm w w') ∧ Hid (w'.heap[gm]? = some (.cells #[.int .i64 id, .bool false, .bool false, .int .i64 code, .string R, .int .i64 typ, .slice none 0 0] 30 (0, 0))) := by
  have HC : Hid (∀ W, Calls Tryd.prog 30 #[.agg #[.int .i64 id, .bool false, .bool false, .int .i64 code, .string R, .int .i64 typ, .slice none 0 0]] W fun r w' => r = .returned (.tuple #[]) ∧ Below W.heap.size W w') := fun W => dcheck_none id code typ false false R W h1 h2 hs hn ht
  have HR : Hid (Reads t id code typ R) := hr
  have cs : w.cell? ⟨gs, 0, none⟩ = some (.string t) := cellsAt hgs 0
  clear h1 h2 hs hn ht hr hgs
  have hlt : gm < w.heap.size := (Array.getElem?_eq_some_iff.1 hgm).1
  have HGM : Hid (w.heap[gm]? = some (.cells zmsg 30 (0, 0))) := hgm
  clear hgm
  go_enter Tryd.func37, Tryd.ntmps37
  go_wp2_with fail
  have hx0 : w.Extends (w.alloc (.cells #[.string t, .int .i64 0] 58)) := (World.Extends.refl w).alloc _
  have hr0 : (w.alloc (.cells #[.string t, .int .i64 0] 58)).heap[w.heap.size]? = some (.cells #[.string t, .int .i64 0] 58 (0, 0)) := heap_alloc_new w _
  refine (HR.out.go w.heap.size _ ⟨cellsAt hr0 0, cellsAt hr0 1, frozenAt hr0 1, by simp⟩).mono ?_
  rintro e w1 ⟨rfl, h2⟩
  have hb1 : Below w.heap.size w w1 := ((Below.refl _ _).alloc (Nat.le_refl _) _).trans (h2.out.below (Nat.le_refl _) (by simp))
  have HD1 : Hid (Rd gm w w1) := Rd.of_below hb1 (Nat.le_refl _)
  have hg1 : w1.heap[gm]? = some (.cells zmsg 30 (0, 0)) := (hb1.block gm hlt).trans HGM.out
  have hl1 : gm < w1.heap.size := (Array.getElem?_eq_some_iff.1 hg1).1
  have c0 : w1.cell? ⟨gm, 0, none⟩ = some (.int .i64 0) := cellsAt hg1 0
  have z0 : w1.frozen? ⟨gm, 0, none⟩ = false := by simp [World.frozen?, hg1]
  have c1 : w1.cell? ⟨gm, 1, none⟩ = some (.bool false) := cellsAt hg1 1
  have z1 : w1.frozen? ⟨gm, 1, none⟩ = false := by simp [World.frozen?, hg1]
  have c2 : w1.cell? ⟨gm, 2, none⟩ = some (.bool false) := cellsAt hg1 2
  have z2 : w1.frozen? ⟨gm, 2, none⟩ = false := by simp [World.frozen?, hg1]
  have c3 : w1.cell? ⟨gm, 3, none⟩ = some (.int .i64 0) := cellsAt hg1 3
  have z3 : w1.frozen? ⟨gm, 3, none⟩ = false := by simp [World.frozen?, hg1]
  have c4 : w1.cell? ⟨gm, 4, none⟩ = some (.string ⟨#[]⟩) := cellsAt hg1 4
  have z4 : w1.frozen? ⟨gm, 4, none⟩ = false := by simp [World.frozen?, hg1]
  have c5 : w1.cell? ⟨gm, 5, none⟩ = some (.int .i64 0) := cellsAt hg1 5
  have z5 : w1.frozen? ⟨gm, 5, none⟩ = false := by simp [World.frozen?, hg1]
  have c6 : w1.cell? ⟨gm, 6, none⟩ = some (.slice none 0 0) := cellsAt hg1 6
  have z6 : w1.frozen? ⟨gm, 6, none⟩ = false := by simp [World.frozen?, hg1]
  have HG2 : Hid ((((((((w1.setCell ⟨gm, 0, none⟩ (.int .i64 id)).setCell ⟨gm, 1, none⟩ (.bool false)).setCell ⟨gm, 2, none⟩ (.bool false)).setCell ⟨gm, 3, none⟩ (.int .i64 code)).setCell ⟨gm, 4, none⟩ (.string R)).setCell ⟨gm, 5, none⟩ (.int .i64 typ)).setCell ⟨gm, 6, none⟩ (.slice none 0 0)).heap[gm]? = some (.cells #[.int .i64 id, .bool false, .bool false, .int .i64 code, .string R, .int .i64 typ, .slice none 0 0] 30 (0, 0))) := (Joins.block_setCell (i := 6) (Joins.block_setCell (i := 5) (Joins.block_setCell (i := 4) (Joins.block_setCell (i := 3) (Joins.block_setCell (i := 2) (Joins.block_setCell (i := 1) (Joins.block_setCell (i := 0) hg1 (.int .i64 id)) (.bool false)) (.bool false)) (.int .i64 code)) (.string R)) (.int .i64 typ)) (.slice none 0 0))
  have HD2 : Hid (Rd gm w (((((((w1.setCell ⟨gm, 0, none⟩ (.int .i64 id)).setCell ⟨gm, 1, none⟩ (.bool false)).setCell ⟨gm, 2, none⟩ (.bool false)).setCell ⟨gm, 3, none⟩ (.int .i64 code)).setCell ⟨gm, 4, none⟩ (.string R)).setCell ⟨gm, 5, none⟩ (.int .i64 typ)).setCell ⟨gm, 6, none⟩ (.slice none 0 0))) := ((((((((HD1.out).here 0 _).here 1 _).here 2 _).here 3 _).here 4 _).here 5 _).here 6 _)
  clear h2 hb1 hx0 hr0 hg1 HD1
  go_wp2_with fail
  refine (HC.out _).mono ?_
  rintro e w2 ⟨rfl, hb2⟩
  have HB2 : Hid (Below (((((((w1.setCell ⟨gm, 0, none⟩ (.int .i64 id)).setCell ⟨gm, 1, none⟩ (.bool false)).setCell ⟨gm, 2, none⟩ (.bool false)).setCell ⟨gm, 3, none⟩ (.int .i64 code)).setCell ⟨gm, 4, none⟩ (.string R)).setCell ⟨gm, 5, none⟩ (.int .i64 typ)).setCell ⟨gm, 6, none⟩ (.slice none 0 0)).heap.size (((((((w1.setCell ⟨gm, 0, none⟩ (.int .i64 id)).setCell ⟨gm, 1, none⟩ (.bool false)).setCell ⟨gm, 2, none⟩ (.bool false)).setCell ⟨gm, 3, none⟩ (.int .i64 code)).setCell ⟨gm, 4, none⟩ (.string R)).setCell ⟨gm, 5, none⟩ (.int .i64 typ)).setCell ⟨gm, 6, none⟩ (.slice none 0 0)) w2) := hb2
  clear hb2
  go_wp2_with fail
  simp [bodyPost, results, Tryd.results37]
  refine ⟨HD2.out.trans (Rd.of_below HB2.out (Nat.le_refl _)), ?_⟩
  exact (HB2.out.block gm (by simp; exact hl1)).trans HG2.out

set_option maxHeartbeats 1600000 in
set_option maxRecDepth 100000 in
theorem read_none (id code typ : Nat) (R t : ByteArray) (w : World) (hr : Reads t id code typ R) (hl : t.size ≤ 512) (h1 : within (id : Int) 0 65535 = true) (h2 : within (code : Int) 0 15 = true) (hs : R.size ≤ maxLen) (hn : chkN R = 0) (ht : (decide ((typ : Int) = 1) || decide ((typ : Int) = 16) || decide ((typ : Int) = 33)) = true) :
    Calls Tryd.prog 16 #[.string t] w fun e w' => e = .returned (.tuple #[msgV id code typ false false R, .int .i64 0]) ∧ Below w.heap.size w w' := by
  have HW1 : Hid (∀ (gs gm : Nat) (W : World), W.heap[gs]? = some (.cells #[.string t] 9 (0, 0)) → W.heap[gm]? = some (.cells zmsg 30 (0, 0)) → Calls Tryd.prog 37 #[.pointer (some ⟨gs, 0, none⟩), .pointer (some ⟨gm, 0, none⟩)] W fun r w' => r = .returned (.tuple #[]) ∧ Hid (Rd gm W w') ∧ Hid (w'.heap[gm]? = some (.cells #[.int .i64 id, .bool false, .bool false, .int .i64 code, .string R, .int .i64 typ, .slice none 0 0] 30 (0, 0)))) := fun gs gm W hgs hgm => read1_ok gs gm id code typ R t W hr hgs hgm h1 h2 hs hn ht
  have ef : ∀ args W, (callFunc 37 args).run Tryd.prog W = .ok (.enter 37 args) W := enters_of Tryd.func37 (by kernel_rfl) rfl
  have hcmp : decide (512 < (t.size : Int)) = false := by simp; omega
  clear h1 h2 hs hn ht hl hr
  go_enter Tryd.func16, Tryd.ntmps16
  go_wp2_with fail
  obtain ⟨w0, hw0⟩ : ∃ w0, w0 = ((w.alloc (.cells #[.string t] 9)).alloc (.cells zmsg 30)).alloc (.cells zmsg 30) := ⟨_, rfl⟩
  rw [← hw0]
  have hn0 : w0.heap.size = w.heap.size + 1 + 1 + 1 := by rw [hw0]; simp
  have HB0 : Hid (Below w.heap.size w w0) := (show Below _ _ _ by rw [hw0]; exact (((Below.refl _ _).alloc (Nat.le_refl _) _).alloc (by simp) _).alloc (by simp; omega) _)
  have hgs : w0.heap[w.heap.size]? = some (.cells #[.string t] 9 (0, 0)) := by
    rw [hw0]
    exact (Lib.alloc_old _ _ _ (by simp; omega)).trans ((Lib.alloc_old _ _ _ (by simp)).trans (heap_alloc_new w _))
  have hgq : w0.heap[w.heap.size + 1]? = some (.cells zmsg 30 (0, 0)) := by
    rw [hw0]
    have h := heap_alloc_new (w.alloc (.cells #[.string t] 9)) (.cells zmsg 30)
    exact (Lib.alloc_old _ _ _ (by simp)).trans (by simpa using h)
  have hgm : w0.heap[w.heap.size + 1 + 1]? = some (.cells zmsg 30 (0, 0)) := by
    rw [hw0]
    have h := heap_alloc_new ((w.alloc (.cells #[.string t] 9)).alloc (.cells zmsg 30)) (.cells zmsg 30)
    simpa using h
  clear hw0
  have hge : (w0.alloc (.cells #[.int .i64 0] 23)).heap[w0.heap.size]? = some (.cells #[.int .i64 0] 23 (0, 0)) := heap_alloc_new w0 _
  have HAT : Hid (Calls Tryd.prog 28 #[.func (.func 37) #[] #[.pointer (some ⟨w.heap.size, 0, none⟩), .pointer (some ⟨w.heap.size + 1 + 1, 0, none⟩)]] w0 fun r w' => r = .returned (.int .i64 0) ∧ Hid (Rd (w.heap.size + 1 + 1) w0 w') ∧ Hid (w'.heap[w.heap.size + 1 + 1]? = some (.cells #[.int .i64 id, .bool false, .bool false, .int .i64 code, .string R, .int .i64 typ, .slice none 0 0] 30 (0, 0)))) := (show Calls _ _ _ _ _ by
    refine (attempt_ok 37 #[.pointer (some ⟨w.heap.size, 0, none⟩), .pointer (some ⟨w.heap.size + 1 + 1, 0, none⟩)] w0 (fun W => Rd (w.heap.size + 1 + 1) (w0.alloc (.cells #[.int .i64 0] 23)) W ∧ W.heap[w.heap.size + 1 + 1]? = some (.cells #[.int .i64 id, .bool false, .bool false, .int .i64 code, .string R, .int .i64 typ, .slice none 0 0] 30 (0, 0))) ef ?_).mono ?_
    · refine (HW1.out w.heap.size (w.heap.size + 1 + 1) _ ((Lib.alloc_old w0 _ _ (by omega)).trans hgs) ((Lib.alloc_old w0 _ _ (by omega)).trans hgm)).mono ?_
      rintro r w' ⟨rfl, hb, hk2⟩
      have hk : w'.heap[w0.heap.size]? = some (.cells #[.int .i64 0] 23 (0, 0)) := (hb.out.block _ (by simp) (by omega)).trans hge
      exact ⟨rfl, ⟨hb.out, hk2.out⟩, cellsAt hk 0, frozenAt hk 0, (Array.getElem?_eq_some_iff.1 hk).1⟩
    · rintro r w' ⟨rfl, w1, ⟨hR, hk⟩, _, rfl⟩
      refine ⟨rfl, (Rd.trans (Rd.ext ((World.Extends.refl w0).alloc _)) hR).put 0 _ (Nat.le_refl _), ?_⟩
      exact (Below.heap_setCell w1 _ _ _ (by simp; omega)).trans hk)
  clear hge hgs hgm HW1 ef
  refine HAT.out.mono ?_
  rintro e w1 ⟨rfl, HD1, HG1⟩
  have HB1 : Hid (Below w.heap.size w w1) := HB0.out.trans (HD1.out.below (by omega) (by omega))
  have hq1 : w1.heap[w.heap.size + 1]? = some (.cells zmsg 30 (0, 0)) := (HD1.out.block _ (by omega) (by omega)).trans hgq
  have c0 : w1.cell? ⟨w.heap.size + 1 + 1, 0, none⟩ = some (.int .i64 id) := cellsAt HG1.out 0
  have q0 : w1.cell? ⟨w.heap.size + 1, 0, none⟩ = some (.int .i64 0) := cellsAt hq1 0
  have y0 : w1.frozen? ⟨w.heap.size + 1, 0, none⟩ = false := frozenAt hq1 0
  have c1 : w1.cell? ⟨w.heap.size + 1 + 1, 1, none⟩ = some (.bool false) := cellsAt HG1.out 1
  have q1 : w1.cell? ⟨w.heap.size + 1, 1, none⟩ = some (.bool false) := cellsAt hq1 1
  have y1 : w1.frozen? ⟨w.heap.size + 1, 1, none⟩ = false := frozenAt hq1 1
  have c2 : w1.cell? ⟨w.heap.size + 1 + 1, 2, none⟩ = some (.bool false) := cellsAt HG1.out 2
  have q2 : w1.cell? ⟨w.heap.size + 1, 2, none⟩ = some (.bool false) := cellsAt hq1 2
  have y2 : w1.frozen? ⟨w.heap.size + 1, 2, none⟩ = false := frozenAt hq1 2
  have c3 : w1.cell? ⟨w.heap.size + 1 + 1, 3, none⟩ = some (.int .i64 code) := cellsAt HG1.out 3
  have q3 : w1.cell? ⟨w.heap.size + 1, 3, none⟩ = some (.int .i64 0) := cellsAt hq1 3
  have y3 : w1.frozen? ⟨w.heap.size + 1, 3, none⟩ = false := frozenAt hq1 3
  have c4 : w1.cell? ⟨w.heap.size + 1 + 1, 4, none⟩ = some (.string R) := cellsAt HG1.out 4
  have q4 : w1.cell? ⟨w.heap.size + 1, 4, none⟩ = some (.string ⟨#[]⟩) := cellsAt hq1 4
  have y4 : w1.frozen? ⟨w.heap.size + 1, 4, none⟩ = false := frozenAt hq1 4
  have c5 : w1.cell? ⟨w.heap.size + 1 + 1, 5, none⟩ = some (.int .i64 typ) := cellsAt HG1.out 5
  have q5 : w1.cell? ⟨w.heap.size + 1, 5, none⟩ = some (.int .i64 0) := cellsAt hq1 5
  have y5 : w1.frozen? ⟨w.heap.size + 1, 5, none⟩ = false := frozenAt hq1 5
  have c6 : w1.cell? ⟨w.heap.size + 1 + 1, 6, none⟩ = some (.slice none 0 0) := cellsAt HG1.out 6
  have q6 : w1.cell? ⟨w.heap.size + 1, 6, none⟩ = some (.slice none 0 0) := cellsAt hq1 6
  have y6 : w1.frozen? ⟨w.heap.size + 1, 6, none⟩ = false := frozenAt hq1 6
  clear HAT HB0 HD1 HG1 hq1 hgq
  go_wp2_with fail
  refine bodyPost_ret (v := .tuple #[msgV id code typ false false R, .int .i64 0]) ?_ rfl ⟨rfl, ?_⟩
  · simp [results, Tryd.results16, go_sem, q0, q1, q2, q3, q4, q5, q6]
  · exact (((((((HB1.out.setCell (p := ⟨w.heap.size + 1, 0, none⟩) (by simp) _).setCell (p := ⟨w.heap.size + 1, 1, none⟩) (by simp) _).setCell (p := ⟨w.heap.size + 1, 2, none⟩) (by simp) _).setCell (p := ⟨w.heap.size + 1, 3, none⟩) (by simp) _).setCell (p := ⟨w.heap.size + 1, 4, none⟩) (by simp) _).setCell (p := ⟨w.heap.size + 1, 5, none⟩) (by simp) _).setCell (p := ⟨w.heap.size + 1, 6, none⟩) (by simp) _)

end Go.Proofs.YtogmkdhljifbpaaDoor

/- The document's NameBytes. -/
namespace Go.Proofs.YtogmkdhljifbpaaDoor
open Go.RowKit

def catB (L : List ByteArray) : ByteArray := ⟨(L.flatMap wlabL).toArray⟩
def nmB (s : ByteArray) : ByteArray := ⟨(wnameL s).toArray⟩
theorem catB_step (L : List ByteArray) (k : Nat) (h : k < L.length) : catB (L.take k) ++ (numB (L.getD k ByteArray.empty).size 1 ++ L.getD k ByteArray.empty) = catB (L.take (k + 1)) := by
  have e : (L.take (k + 1)).flatMap wlabL = (L.take k).flatMap wlabL ++ wlabL L[k] := by
    rw [List.take_succ_eq_append_getElem h, List.flatMap_append]
    simp
  apply ba_ext
  unfold catB
  rw [e]
  simp [numB, wlabL, List.getD, h]
theorem catB_end (s : ByteArray) : catB (labs s) ++ numB 0 1 = nmB s := by
  apply ba_ext
  simp [catB, nmB, numB, wnameL]
theorem flatL_len : ∀ (L : List ByteArray), (∀ x ∈ L, x.size ≤ 30) → (L.flatMap wlabL).length ≤ 31 * L.length
  | [], _ => by simp
  | x :: r, h => by
    have h1 := h x List.mem_cons_self
    have h2 := flatL_len r (fun y hy => h y (List.mem_cons_of_mem _ hy))
    rw [List.flatMap_cons, List.length_append, List.length_cons]
    have : (wlabL x).length = 1 + x.size := by simp [wlabL, nbl_len]
    omega

set_option maxHeartbeats 1600000 in
set_option maxRecDepth 100000 in
theorem nameBytes_any (s : ByteArray) (w : World) (hn : chkN s = 0) :
    Calls Tryd.prog 36 #[.string s] w fun e w' => e = .returned (.string (nmB s)) ∧ Below w.heap.size w w' := by
  have hsz : s.size ≤ 2000000 := by
    by_cases h0 : s.size = 0
    · omega
    · unfold chkN at hn
      rw [if_neg h0] at hn
      split at hn
      · omega
      · split at hn <;> omega
  have HLO : Hid (Calls Tryd.prog 26 #[.string s] w fun e w' => ∃ v, e = .returned v ∧ OwnS w.heap.size w' v (labs s) ∧ Below w.heap.size w w') := labelsOf_any s w hsz
  obtain ⟨hL8, hL30⟩ := chk_facts hn
  have HEND : Hid (catB (labs s) ++ numB 0 1 = nmB s) := catB_end s
  clear hn hsz
  generalize labs s = L at *
  have HST : Hid (∀ k, k < L.length → catB (L.take k) ++ (numB (L.getD k ByteArray.empty).size 1 ++ L.getD k ByteArray.empty) = catB (L.take (k + 1))) := fun k h => catB_step L k h
  have HSZ : Hid (∀ k, (catB (L.take k)).size ≤ 248) := fun k => by
    have h := flatL_len (L.take k) fun x hx => hL30 x (List.mem_of_mem_take hx)
    have h2 : (catB (L.take k)).size = ((L.take k).flatMap wlabL).length := by simp [catB, ByteArray.size]
    rw [List.length_take] at h
    omega
  have HL30 : Hid (∀ j, (L.getD j ByteArray.empty).size ≤ 30) := fun j => by
    by_cases hj : j < L.length
    · rw [show L.getD j ByteArray.empty = L[j] by simp [List.getD, List.getElem?_eq_getElem hj]]
      exact hL30 _ (List.getElem_mem hj)
    · rw [show L.getD j ByteArray.empty = ByteArray.empty by simp [List.getD, List.getElem?_eq_none (by omega : L.length ≤ j)]]; decide
  have HALL : Hid (L.take L.length = L) := List.take_length
  clear hL30
  go_enter Tryd.func36, Tryd.ntmps36
  go_wp2_with fail
  refine HLO.out.mono ?_
  rintro e w1 ⟨v, rfl, ho, hb1⟩
  have HB1 : Hid (Below w.heap.size w w1) := hb1
  have HO1 : Hid (OwnS w.heap.size w1 v L) := ho
  clear hb1 ho
  obtain ⟨pl, cap, hv, hcell⟩ : ∃ pl cap, v = .slice pl L.length cap ∧ ∀ W, Below w1.heap.size w1 W → ∀ k, k < L.length → ∃ g, pl = some ⟨g, 0, none⟩ ∧ g < W.heap.size ∧ W.cell? ⟨g, k, none⟩ = some (.string (L.getD k ByteArray.empty)) := by
    rcases HO1.out.form with ⟨hv, h0⟩ | ⟨g, c, hv, _, _, hg, hc⟩
    · exact ⟨none, 0, by rw [hv, h0]; rfl, fun W _ k hk => by rw [h0] at hk; simp at hk⟩
    · exact ⟨_, c, hv, fun W hW k hk => ⟨g, rfl, Nat.lt_of_lt_of_le hg hW.size, (hW.cell (p := ⟨g, k, none⟩) hg).trans (hc k hk)⟩⟩
  subst hv
  have HCELL : Hid (∀ W, Below w1.heap.size w1 W → ∀ k, k < L.length → ∃ g, pl = some ⟨g, 0, none⟩ ∧ g < W.heap.size ∧ W.cell? ⟨g, k, none⟩ = some (.string (L.getD k ByteArray.empty))) := hcell
  clear hcell HLO
  generalize hnn : L.length = n at *
  have HNN : Hid (L.length = n) := hnn
  clear hnn
  go_wp2_with fail
  go_loopw [3, 5] (fun sv iv wr => ∃ k : Nat, k ≤ n ∧ sv = .string (catB (L.take k)) ∧ iv = .int .i64 k ∧ Hid (Below w1.heap.size w1 wr)) (fun _ i _ => n - (intOf i).toNat)
  case atStart => exact ⟨0, Nat.zero_le _, rfl, rfl, Below.refl _ _⟩
  case round =>
    obtain ⟨k, hk, rfl, rfl, HBR⟩ := hrel
    have hszr := HBR.out.size
    have hcs := HSZ.out k
    by_cases hlt : k < n
    · obtain ⟨g, hpl, hg, hc⟩ := HCELL.out wr HBR.out k hlt
      subst hpl
      have hx30 := HL30.out k
      have HS2 := HST.out k hlt
      have HS3 : Hid (catB (L.take k) ++ (numB (L.getD k ByteArray.empty).size 1 ++ L.getD k ByteArray.empty) = catB (L.take (k + 1))) := HS2
      clear HS2
      generalize L.getD k ByteArray.empty = x at *
      have HNU : Hid (∀ W, Calls Tryd.prog 35 #[.int .i64 x.size, .int .i64 1] W fun e w' => e = .returned (.string (numB x.size 1)) ∧ Below W.heap.size W w') := fun W => number_any x.size 1 W (by omega) (by omega) (by omega)
      have hns : (numB x.size 1).size ≤ 1 := by rw [numB_size]; omega
      generalize numB x.size 1 = Y at *
      generalize catB (L.take k) = C at *
      have hd : decide ((k : Int) < (n : Int)) = true := by simp; omega
      have hi0 : (0 : Int) ≤ (k : Int) := by omega
      have hi1 : (k : Int) < (n : Int) := by omega
      have hi2 : ((k : Int)).toNat = k := by omega
      have hs1 : ¬ 9223372036854775807 < Y.size + x.size := by omega
      have hs2 : ¬ 9223372036854775807 < C.size + (Y ++ x).size := by rw [ByteArray.size_append]; omega
      have hs3 : ¬ 9223372036854775807 < C.size + (Y.size + x.size) := by omega
      have HNUd : Hid (Calls Tryd.prog 35 #[.int .i64 x.size, .int .i64 1] wr.drew fun e w' => e = .returned (.string Y) ∧ w'.cell? ⟨g, k, none⟩ = some (.string x) ∧ Hid (Below w1.heap.size w1 w')) := (show Calls _ _ _ _ _ by
        refine (HNU.out wr.drew).mono ?_
        rintro e w5 ⟨rfl, hb5⟩
        exact ⟨rfl, (hb5.cell (p := ⟨g, k, none⟩) hg).trans hc, HBR.out.drew.trans (hb5.mono hszr)⟩)
      clear HNU
      go_wp2_with fail
      go_region_held3 (fun w' => w'.cell? ⟨g, k, none⟩ = some (.string x)) (go_keep) (first | (go_at_call 35; refine HNUd.out.mono ?_; rintro e w5 ⟨rfl, hc5, HB5⟩) | fail)
      go_wp2_with fail
      exact ⟨⟨k + 1, by omega, by rw [HS3.out], by go_num, HB5⟩, by simp [intOf]; omega⟩
    · have hkn : k = n := by omega
      have HF : Hid (catB (L.take k) ++ numB 0 1 = nmB s) := (show _ = _ by rw [hkn, HALL.out]; exact HEND.out)
      have HNU : Hid (∀ W, Calls Tryd.prog 35 #[.int .i64 0, .int .i64 1] W fun e w' => e = .returned (.string (numB 0 1)) ∧ Below W.heap.size W w') := fun W => number_any 0 1 W (by omega) (by omega) (by omega)
      have hns : (numB 0 1).size ≤ 1 := by rw [numB_size]; omega
      generalize numB 0 1 = Y at *
      generalize catB (L.take k) = C at *
      have hd : decide ((k : Int) < (n : Int)) = false := by simp; omega
      have hs1 : ¬ 9223372036854775807 < C.size + Y.size := by omega
      clear hkn
      go_wp2_with fail
      refine (HNU.out _).mono ?_
      rintro e w2 ⟨rfl, hb2⟩
      have HB2 : Hid (Below w.heap.size w w2) := HB1.out.trans ((HBR.out.trans (hb2.mono hszr)).mono HB1.out.size)
      clear hb2
      go_wp2_with fail
      go_ret
      exact ⟨by rw [← HF.out]; rfl, HB2.out⟩

end Go.Proofs.YtogmkdhljifbpaaDoor

/- The document's MessageBytes. -/
namespace Go.Proofs.YtogmkdhljifbpaaDoor
open Go.RowKit

/-- What stands ahead of the records. -/
def headB (id code typ : Int) (ans cut : Bool) (name : ByteArray) (n : Nat) : ByteArray :=
  numB id 2 ++ numB (flg ans cut) 1 ++ numB code 1 ++ numB 1 2 ++ numB n 2 ++ numB 0 4 ++ nmB name ++ numB typ 2 ++ numB 1 2
def datB (r : Rc.Rec) : ByteArray :=
  if r.typ = 1 then numB r.addr 4
  else if r.typ = 16 then numB r.text.size 1 ++ r.text
  else if r.typ = 33 then numB 0 4 ++ numB r.port 2 ++ nmB r.target
  else ⟨#[]⟩
def recB (r : Rc.Rec) : ByteArray := nmB r.name ++ numB r.typ 2 ++ numB 1 2 ++ numB r.lasts 4 ++ numB (datB r).size 2 ++ datB r

theorem zero4 : nbl 0 4 = nbl 0 2 ++ nbl 0 2 := by kernel_rfl
theorem headB_is (id code typ : Int) (ans cut : Bool) (name : ByteArray) (n : Nat) : headB id code typ ans cut name n = ⟨(wheadL id code typ ans cut name n).toArray⟩ := by
  apply ba_ext
  simp [headB, numB, nmB, wheadL, zero4]
theorem datB_is (r : Rc.Rec) : datB r = ⟨(wdatL r).toArray⟩ := by
  unfold datB wdatL
  split
  · rfl
  split
  · apply ba_ext; simp [numB]
  split
  · apply ba_ext; simp [numB, nmB, zero4]
  · rfl
theorem recB_is (r : Rc.Rec) : recB r = ⟨(wrecL r).toArray⟩ := by
  have h : (⟨(wdatL r).toArray⟩ : ByteArray).size = (wdatL r).length := by simp [ByteArray.size]
  apply ba_ext
  unfold recB wrecL
  rw [datB_is, h]
  simp [numB, nmB]
def recsB (rs : List Rc.Rec) : ByteArray := ⟨(rs.flatMap wrecL).toArray⟩
theorem recsB_step (B : ByteArray) (rs : List Rc.Rec) (k : Nat) (h : k < rs.length) : (B ++ recsB (rs.take k)) ++ recB (rs.getD k Rc.dm) = B ++ recsB (rs.take (k + 1)) := by
  have e : (rs.take (k + 1)).flatMap wrecL = (rs.take k).flatMap wrecL ++ wrecL rs[k] := by
    rw [List.take_succ_eq_append_getElem h, List.flatMap_append]
    simp
  apply ba_ext
  rw [recB_is]
  unfold recsB
  rw [e]
  simp [List.getD, h]
theorem allB_is (id code typ : Int) (ans cut : Bool) (name : ByteArray) (rs : List Rc.Rec) : headB id code typ ans cut name rs.length ++ recsB rs = ⟨(wallL id code typ ans cut name rs).toArray⟩ := by
  apply ba_ext
  rw [headB_is]
  simp [recsB, wallL]

end Go.Proofs.YtogmkdhljifbpaaDoor

/- The document's MessageBytes: the walk. -/
namespace Go.Proofs.YtogmkdhljifbpaaDoor
open Go.RowKit

theorem msgFacts {id code typ : Int} {name : ByteArray} {rs : List Rc.Rec} (h : chkMsg id code typ name rs = 0) : (0 ≤ id ∧ id ≤ 65535) ∧ (0 ≤ code ∧ code ≤ 15) ∧ (0 ≤ typ ∧ typ ≤ 33) := by
  unfold chkMsg at h
  split at h
  · omega
  rename_i h1
  split at h
  · omega
  split at h
  · omega
  split at h
  · omega
  rename_i h4
  have h1' : (within id 0 65535 && within code 0 15) = true := by simpa using h1
  have h4' : typB typ = true := by simpa using h4
  simp only [within, Bool.and_eq_true, decide_eq_true_eq] at h1'
  simp only [typB, Bool.or_eq_true, decide_eq_true_eq] at h4'
  exact ⟨h1'.1, h1'.2, by omega, by omega⟩
theorem recFacts {r : Rc.Rec} (h : chkRec r = 0) : (0 ≤ r.lasts ∧ r.lasts ≤ 2147483647) ∧ (0 ≤ r.addr ∧ r.addr ≤ 4294967295) ∧ (0 ≤ r.port ∧ r.port ≤ 65535) := by
  unfold chkRec at h
  split at h
  · omega
  split at h
  · omega
  split at h
  · omega
  rename_i h3
  split at h
  · omega
  split at h
  · omega
  rename_i h5
  have h3' : within r.lasts 0 2147483647 = true := by simpa using h3
  have h5' : (within r.addr 0 4294967295 && within r.port 0 65535) = true := by simpa using h5
  simp only [within, Bool.and_eq_true, decide_eq_true_eq] at h3' h5'
  exact ⟨h3', h5'.1, h5'.2⟩
theorem app_nil (b : ByteArray) : b ++ recsB [] = b := by
  apply ba_ext
  simp [recsB]
theorem nmB_size {s : ByteArray} (h : chkN s = 0) : (nmB s).size ≤ 249 := by
  have h1 := wname_len h
  rw [wname_cells, Lib.byteCells_length] at h1
  have : (nmB s).size = (wnameL s).length := by simp [nmB, ByteArray.size]
  omega

end Go.Proofs.YtogmkdhljifbpaaDoor

