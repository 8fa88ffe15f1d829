/- FK, FL, GH, GM, GI, ShelfM, ML0 -/
import Derived.Test.YtogmkdhljifbpaaDoorY16
import Derived.Test.YtogmkdhljifbpaaDoorY4
import Derived.Test.YtogmkdhljifbpaaDoorY7
import Derived.Test.YtogmkdhljifbpaaDoorY3
import Derived.Test.YtogmkdhljifbpaaDoorY13
import Derived.Test.YtogmkdhljifbpaaDoorY8
import Derived.Test.YtogmkdhljifbpaaDoorY14
import Derived.Test.YtogmkdhljifbpaaDoorY15
import Derived.Test.YtogmkdhljifbpaaDoorY5
import Derived.Test.YtogmkdhljifbpaaDoorRows
import Derived.Deep.Slices
import Derived.Lib.SmallJoins
import Derived.ProofKit
import Derived.OpenShut
import Derived.Handed
import Derived.Shelf.Strings.Builder1
import Derived.Shelf.Strings.Builder2
import Derived.Shelf.Strings.OnBuilder
import Derived.Shelf.LaysM
import Derived.Shelf.Strconv.Clone
import Derived.Shelf.Strings.Search1
import Derived.Shelf.Strings.Search2
import Derived.Shelf.Strings.Search3
import Derived.Shelf.Strings.Cut
import Derived.Shelf.Strings.Count
import Derived.Shelf.Strings.Shaped
import Derived.Shelf.Strings.Split
import Derived.Shelf.Strings.SplitShaped
import Derived.Shelf.Unicode.DecodeSlow
import Derived.Test.YtogmkdhljifbpaaDoorProg
import Derived.Test.YtogmkdhljifbpaaDoorY2
/- Read, of a message without records. -/
namespace Go.Proofs.YtogmkdhljifbpaaDoor
open Go.RowKit Go.Lib

/-- A message without records, as it is read. -/
structure Reads (t : ByteArray) (id code typ : Nat) (R : ByteArray) : Prop where
  go : ∀ (g : Nat) (w : World), IsR g t 0 w → Calls Tryd.prog 38 #[.pointer (some ⟨g, 0, none⟩)] w fun e w' => e = .returned (msgV id code typ false false R) ∧ Hid (Rd g w w')

theorem frozenAt {W : World} {g : Nat} {cs : Array Value} {T : TypeId} (h : W.heap[g]? = some (.cells cs T (0, 0))) (i : Nat) : W.frozen? ⟨g, i, none⟩ = false := by simp [World.frozen?, h]
theorem Rd.here {g : Nat} {w W : World} (h : Rd g w W) (i : Nat) (v : Value) : Rd g w (W.setCell ⟨g, i, none⟩ v) :=
  ⟨h.os, h.tape, h.output, by simpa using h.size, fun k hk hg => (Below.heap_setCell W _ v k (by simpa using hg)).trans (h.block k hk hg)⟩

set_option maxHeartbeats 1600000 in
set_option maxRecDepth 100000 in
theorem read1_ok (gs gm id code typ : Nat) (R t : ByteArray) (w : World) (hr : Reads t id code typ R) (hgs : w.heap[gs]? = some (.cells #[.string t] 9 (0, 0))) (hgm : w.heap[gm]? = some (.cells zmsg 30 (0, 0))) (h1 : within (id : Int) 0 65535 = true) (h2 : within (code : Int) 0 15 = true) (hs : R.size ≤ maxLen) (hn : chkN R = 0) (ht : (decide ((typ : Int) = 1) || decide ((typ : Int) = 16) || decide ((typ : Int) = 33)) = true) :
    Calls Tryd.prog 37 #[.pointer (some ⟨gs, 0, none⟩), .pointer (some ⟨gm, 0, none⟩)] w fun r w' => r = .returned (.tuple #[]) ∧ Hid (Rd gm w w') ∧ Hid (w'.heap[gm]? = some (.cells #[.int .i64 id, .bool false, .bool false, .int .i64 code, .string R, .int .i64 typ, .slice none 0 0] 30 (0, 0))) := by
  have HC : Hid (∀ W, Calls Tryd.prog 30 #[.agg #[.int .i64 id, .bool false, .bool false, .int .i64 code, .string R, .int .i64 typ, .slice none 0 0]] W fun r w' => r = .returned (.tuple #[]) ∧ Below W.heap.size W w') := fun W => check_none id code typ false false R W h1 h2 hs hn ht
  have HR : Hid (Reads t id code typ R) := hr
  have cs : w.cell? ⟨gs, 0, none⟩ = some (.string t) := cellsAt hgs 0
  clear h1 h2 hs hn ht hr hgs
  have hlt : gm < w.heap.size := (Array.getElem?_eq_some_iff.1 hgm).1
  have HGM : Hid (w.heap[gm]? = some (.cells zmsg 30 (0, 0))) := hgm
  clear hgm
  go_enter Tryd.func37, Tryd.ntmps37
  go_wp2_with fail
  have hx0 : w.Extends (w.alloc (.cells #[.string t, .int .i64 0] 58)) := (World.Extends.refl w).alloc _
  have hr0 : (w.alloc (.cells #[.string t, .int .i64 0] 58)).heap[w.heap.size]? = some (.cells #[.string t, .int .i64 0] 58 (0, 0)) := heap_alloc_new w _
  refine (HR.out.go w.heap.size _ ⟨cellsAt hr0 0, cellsAt hr0 1, frozenAt hr0 1, by simp⟩).mono ?_
  rintro e w1 ⟨rfl, h2⟩
  have hb1 : Below w.heap.size w w1 := ((Below.refl _ _).alloc (Nat.le_refl _) _).trans (h2.out.below (Nat.le_refl _) (by simp))
  have HD1 : Hid (Rd gm w w1) := Rd.of_below hb1 (Nat.le_refl _)
  have hg1 : w1.heap[gm]? = some (.cells zmsg 30 (0, 0)) := (hb1.block gm hlt).trans HGM.out
  have hl1 : gm < w1.heap.size := (Array.getElem?_eq_some_iff.1 hg1).1
  have c0 : w1.cell? ⟨gm, 0, none⟩ = some (.int .i64 0) := cellsAt hg1 0
  have z0 : w1.frozen? ⟨gm, 0, none⟩ = false := by simp [World.frozen?, hg1]
  have c1 : w1.cell? ⟨gm, 1, none⟩ = some (.bool false) := cellsAt hg1 1
  have z1 : w1.frozen? ⟨gm, 1, none⟩ = false := by simp [World.frozen?, hg1]
  have c2 : w1.cell? ⟨gm, 2, none⟩ = some (.bool false) := cellsAt hg1 2
  have z2 : w1.frozen? ⟨gm, 2, none⟩ = false := by simp [World.frozen?, hg1]
  have c3 : w1.cell? ⟨gm, 3, none⟩ = some (.int .i64 0) := cellsAt hg1 3
  have z3 : w1.frozen? ⟨gm, 3, none⟩ = false := by simp [World.frozen?, hg1]
  have c4 : w1.cell? ⟨gm, 4, none⟩ = some (.string ⟨#[]⟩) := cellsAt hg1 4
  have z4 : w1.frozen? ⟨gm, 4, none⟩ = false := by simp [World.frozen?, hg1]
  have c5 : w1.cell? ⟨gm, 5, none⟩ = some (.int .i64 0) := cellsAt hg1 5
  have z5 : w1.frozen? ⟨gm, 5, none⟩ = false := by simp [World.frozen?, hg1]
  have c6 : w1.cell? ⟨gm, 6, none⟩ = some (.slice none 0 0) := cellsAt hg1 6
  have z6 : w1.frozen? ⟨gm, 6, none⟩ = false := by simp [World.frozen?, hg1]
  have HG2 : Hid ((((((((w1.setCell ⟨gm, 0, none⟩ (.int .i64 id)).setCell ⟨gm, 1, none⟩ (.bool false)).setCell ⟨gm, 2, none⟩ (.bool false)).setCell ⟨gm, 3, none⟩ (.int .i64 code)).setCell ⟨gm, 4, none⟩ (.string R)).setCell ⟨gm, 5, none⟩ (.int .i64 typ)).setCell ⟨gm, 6, none⟩ (.slice none 0 0)).heap[gm]? = some (.cells #[.int .i64 id, .bool false, .bool false, .int .i64 code, .string R, .int .i64 typ, .slice none 0 0] 30 (0, 0))) := (Joins.block_setCell (i := 6) (Joins.block_setCell (i := 5) (Joins.block_setCell (i := 4) (Joins.block_setCell (i := 3) (Joins.block_setCell (i := 2) (Joins.block_setCell (i := 1) (Joins.block_setCell (i := 0) hg1 (.int .i64 id)) (.bool false)) (.bool false)) (.int .i64 code)) (.string R)) (.int .i64 typ)) (.slice none 0 0))
  have HD2 : Hid (Rd gm w (((((((w1.setCell ⟨gm, 0, none⟩ (.int .i64 id)).setCell ⟨gm, 1, none⟩ (.bool false)).setCell ⟨gm, 2, none⟩ (.bool false)).setCell ⟨gm, 3, none⟩ (.int .i64 code)).setCell ⟨gm, 4, none⟩ (.string R)).setCell ⟨gm, 5, none⟩ (.int .i64 typ)).setCell ⟨gm, 6, none⟩ (.slice none 0 0))) := ((((((((HD1.out).here 0 _).here 1 _).here 2 _).here 3 _).here 4 _).here 5 _).here 6 _)
  clear h2 hb1 hx0 hr0 hg1 HD1
  go_wp2_with fail
  refine (HC.out _).mono ?_
  rintro e w2 ⟨rfl, hb2⟩
  have HB2 : Hid (Below (((((((w1.setCell ⟨gm, 0, none⟩ (.int .i64 id)).setCell ⟨gm, 1, none⟩ (.bool false)).setCell ⟨gm, 2, none⟩ (.bool false)).setCell ⟨gm, 3, none⟩ (.int .i64 code)).setCell ⟨gm, 4, none⟩ (.string R)).setCell ⟨gm, 5, none⟩ (.int .i64 typ)).setCell ⟨gm, 6, none⟩ (.slice none 0 0)).heap.size (((((((w1.setCell ⟨gm, 0, none⟩ (.int .i64 id)).setCell ⟨gm, 1, none⟩ (.bool false)).setCell ⟨gm, 2, none⟩ (.bool false)).setCell ⟨gm, 3, none⟩ (.int .i64 code)).setCell ⟨gm, 4, none⟩ (.string R)).setCell ⟨gm, 5, none⟩ (.int .i64 typ)).setCell ⟨gm, 6, none⟩ (.slice none 0 0)) w2) := hb2
  clear hb2
  go_wp2_with fail
  simp [bodyPost, results, Tryd.results37]
  refine ⟨HD2.out.trans (Rd.of_below HB2.out (Nat.le_refl _)), ?_⟩
  exact (HB2.out.block gm (by simp; exact hl1)).trans HG2.out

set_option maxHeartbeats 1600000 in
set_option maxRecDepth 100000 in
theorem read_none (id code typ : Nat) (R t : ByteArray) (w : World) (hr : Reads t id code typ R) (hl : t.size ≤ 512) (h1 : within (id : Int) 0 65535 = true) (h2 : within (code : Int) 0 15 = true) (hs : R.size ≤ maxLen) (hn : chkN R = 0) (ht : (decide ((typ : Int) = 1) || decide ((typ : Int) = 16) || decide ((typ : Int) = 33)) = true) :
    Calls Tryd.prog 16 #[.string t] w fun e w' => e = .returned (.tuple #[msgV id code typ false false R, .int .i64 0]) ∧ Below w.heap.size w w' := by
  have HW1 : Hid (∀ (gs gm : Nat) (W : World), W.heap[gs]? = some (.cells #[.string t] 9 (0, 0)) → W.heap[gm]? = some (.cells zmsg 30 (0, 0)) → Calls Tryd.prog 37 #[.pointer (some ⟨gs, 0, none⟩), .pointer (some ⟨gm, 0, none⟩)] W fun r w' => r = .returned (.tuple #[]) ∧ Hid (Rd gm W w') ∧ Hid (w'.heap[gm]? = some (.cells #[.int .i64 id, .bool false, .bool false, .int .i64 code, .string R, .int .i64 typ, .slice none 0 0] 30 (0, 0)))) := fun gs gm W hgs hgm => read1_ok gs gm id code typ R t W hr hgs hgm h1 h2 hs hn ht
  have ef : ∀ args W, (callFunc 37 args).run Tryd.prog W = .ok (.enter 37 args) W := enters_of Tryd.func37 (by kernel_rfl) rfl
  have hcmp : decide (512 < (t.size : Int)) = false := by simp; omega
  clear h1 h2 hs hn ht hl hr
  go_enter Tryd.func16, Tryd.ntmps16
  go_wp2_with fail
  obtain ⟨w0, hw0⟩ : ∃ w0, w0 = ((w.alloc (.cells #[.string t] 9)).alloc (.cells zmsg 30)).alloc (.cells zmsg 30) := ⟨_, rfl⟩
  rw [← hw0]
  have hn0 : w0.heap.size = w.heap.size + 1 + 1 + 1 := by rw [hw0]; simp
  have HB0 : Hid (Below w.heap.size w w0) := (show Below _ _ _ by rw [hw0]; exact (((Below.refl _ _).alloc (Nat.le_refl _) _).alloc (by simp) _).alloc (by simp; omega) _)
  have hgs : w0.heap[w.heap.size]? = some (.cells #[.string t] 9 (0, 0)) := by
    rw [hw0]
    exact (Lib.alloc_old _ _ _ (by simp; omega)).trans ((Lib.alloc_old _ _ _ (by simp)).trans (heap_alloc_new w _))
  have hgq : w0.heap[w.heap.size + 1]? = some (.cells zmsg 30 (0, 0)) := by
    rw [hw0]
    have h := heap_alloc_new (w.alloc (.cells #[.string t] 9)) (.cells zmsg 30)
    exact (Lib.alloc_old _ _ _ (by simp)).trans (by simpa using h)
  have hgm : w0.heap[w.heap.size + 1 + 1]? = some (.cells zmsg 30 (0, 0)) := by
    rw [hw0]
    have h := heap_alloc_new ((w.alloc (.cells #[.string t] 9)).alloc (.cells zmsg 30)) (.cells zmsg 30)
    simpa using h
  clear hw0
  have hge : (w0.alloc (.cells #[.int .i64 0] 23)).heap[w0.heap.size]? = some (.cells #[.int .i64 0] 23 (0, 0)) := heap_alloc_new w0 _
  have HAT : Hid (Calls Tryd.prog 28 #[.func (.func 37) #[] #[.pointer (some ⟨w.heap.size, 0, none⟩), .pointer (some ⟨w.heap.size + 1 + 1, 0, none⟩)]] w0 fun r w' => r = .returned (.int .i64 0) ∧ Hid (Rd (w.heap.size + 1 + 1) w0 w') ∧ Hid (w'.heap[w.heap.size + 1 + 1]? = some (.cells #[.int .i64 id, .bool false, .bool false, .int .i64 code, .string R, .int .i64 typ, .slice none 0 0] 30 (0, 0)))) := (show Calls _ _ _ _ _ by
    refine (attempt_ok 37 #[.pointer (some ⟨w.heap.size, 0, none⟩), .pointer (some ⟨w.heap.size + 1 + 1, 0, none⟩)] w0 (fun W => Rd (w.heap.size + 1 + 1) (w0.alloc (.cells #[.int .i64 0] 23)) W ∧ W.heap[w.heap.size + 1 + 1]? = some (.cells #[.int .i64 id, .bool false, .bool false, .int .i64 code, .string R, .int .i64 typ, .slice none 0 0] 30 (0, 0))) ef ?_).mono ?_
    · refine (HW1.out w.heap.size (w.heap.size + 1 + 1) _ ((Lib.alloc_old w0 _ _ (by omega)).trans hgs) ((Lib.alloc_old w0 _ _ (by omega)).trans hgm)).mono ?_
      rintro r w' ⟨rfl, hb, hk2⟩
      have hk : w'.heap[w0.heap.size]? = some (.cells #[.int .i64 0] 23 (0, 0)) := (hb.out.block _ (by simp) (by omega)).trans hge
      exact ⟨rfl, ⟨hb.out, hk2.out⟩, cellsAt hk 0, frozenAt hk 0, (Array.getElem?_eq_some_iff.1 hk).1⟩
    · rintro r w' ⟨rfl, w1, ⟨hR, hk⟩, _, rfl⟩
      refine ⟨rfl, (Rd.trans (Rd.ext ((World.Extends.refl w0).alloc _)) hR).put 0 _ (Nat.le_refl _), ?_⟩
      exact (Below.heap_setCell w1 _ _ _ (by simp; omega)).trans hk)
  clear hge hgs hgm HW1 ef
  refine HAT.out.mono ?_
  rintro e w1 ⟨rfl, HD1, HG1⟩
  have HB1 : Hid (Below w.heap.size w w1) := HB0.out.trans (HD1.out.below (by omega) (by omega))
  have hq1 : w1.heap[w.heap.size + 1]? = some (.cells zmsg 30 (0, 0)) := (HD1.out.block _ (by omega) (by omega)).trans hgq
  have c0 : w1.cell? ⟨w.heap.size + 1 + 1, 0, none⟩ = some (.int .i64 id) := cellsAt HG1.out 0
  have q0 : w1.cell? ⟨w.heap.size + 1, 0, none⟩ = some (.int .i64 0) := cellsAt hq1 0
  have y0 : w1.frozen? ⟨w.heap.size + 1, 0, none⟩ = false := frozenAt hq1 0
  have c1 : w1.cell? ⟨w.heap.size + 1 + 1, 1, none⟩ = some (.bool false) := cellsAt HG1.out 1
  have q1 : w1.cell? ⟨w.heap.size + 1, 1, none⟩ = some (.bool false) := cellsAt hq1 1
  have y1 : w1.frozen? ⟨w.heap.size + 1, 1, none⟩ = false := frozenAt hq1 1
  have c2 : w1.cell? ⟨w.heap.size + 1 + 1, 2, none⟩ = some (.bool false) := cellsAt HG1.out 2
  have q2 : w1.cell? ⟨w.heap.size + 1, 2, none⟩ = some (.bool false) := cellsAt hq1 2
  have y2 : w1.frozen? ⟨w.heap.size + 1, 2, none⟩ = false := frozenAt hq1 2
  have c3 : w1.cell? ⟨w.heap.size + 1 + 1, 3, none⟩ = some (.int .i64 code) := cellsAt HG1.out 3
  have q3 : w1.cell? ⟨w.heap.size + 1, 3, none⟩ = some (.int .i64 0) := cellsAt hq1 3
  have y3 : w1.frozen? ⟨w.heap.size + 1, 3, none⟩ = false := frozenAt hq1 3
  have c4 : w1.cell? ⟨w.heap.size + 1 + 1, 4, none⟩ = some (.string R) := cellsAt HG1.out 4
  have q4 : w1.cell? ⟨w.heap.size + 1, 4, none⟩ = some (.string ⟨#[]⟩) := cellsAt hq1 4
  have y4 : w1.frozen? ⟨w.heap.size + 1, 4, none⟩ = false := frozenAt hq1 4
  have c5 : w1.cell? ⟨w.heap.size + 1 + 1, 5, none⟩ = some (.int .i64 typ) := cellsAt HG1.out 5
  have q5 : w1.cell? ⟨w.heap.size + 1, 5, none⟩ = some (.int .i64 0) := cellsAt hq1 5
  have y5 : w1.frozen? ⟨w.heap.size + 1, 5, none⟩ = false := frozenAt hq1 5
  have c6 : w1.cell? ⟨w.heap.size + 1 + 1, 6, none⟩ = some (.slice none 0 0) := cellsAt HG1.out 6
  have q6 : w1.cell? ⟨w.heap.size + 1, 6, none⟩ = some (.slice none 0 0) := cellsAt hq1 6
  have y6 : w1.frozen? ⟨w.heap.size + 1, 6, none⟩ = false := frozenAt hq1 6
  clear HAT HB0 HD1 HG1 hq1 hgq
  go_wp2_with fail
  refine bodyPost_ret (v := .tuple #[msgV id code typ false false R, .int .i64 0]) ?_ rfl ⟨rfl, ?_⟩
  · simp [results, Tryd.results16, go_sem, q0, q1, q2, q3, q4, q5, q6]
  · exact (((((((HB1.out.setCell (p := ⟨w.heap.size + 1, 0, none⟩) (by simp) _).setCell (p := ⟨w.heap.size + 1, 1, none⟩) (by simp) _).setCell (p := ⟨w.heap.size + 1, 2, none⟩) (by simp) _).setCell (p := ⟨w.heap.size + 1, 3, none⟩) (by simp) _).setCell (p := ⟨w.heap.size + 1, 4, none⟩) (by simp) _).setCell (p := ⟨w.heap.size + 1, 5, none⟩) (by simp) _).setCell (p := ⟨w.heap.size + 1, 6, none⟩) (by simp) _)

end Go.Proofs.YtogmkdhljifbpaaDoor

/- What must be in any case; DnsChecks. -/
namespace Go.Proofs.YtogmkdhljifbpaaDoor
open Go.RowKit Go.Lib

abbrev nameAB : ByteArray := ⟨#[97, 46, 98]⟩
abbrev textAB : ByteArray := ⟨#[1, 2, 0, 0, 0, 1, 0, 0, 0, 0, 0, 0, 1, 97, 1, 98, 0, 0, 1, 0, 1]⟩
theorem textAB_is : (⟨(wmsgL 258 0 1 false false nameAB).toArray⟩ : ByteArray) = textAB := by kernel_rfl
theorem chkAB : chkN nameAB = 0 := by kernel_rfl
theorem lenAB : (wmsgL 258 0 1 false false nameAB).length = 21 := by kernel_rfl

theorem readsAB : Reads textAB 258 0 1 nameAB := ⟨fun g w h => by
  have h := rmessage_none g 258 0 1 17 [⟨#[97]⟩, ⟨#[98]⟩] textAB w h (by decide) (by kernel_rfl) (by kernel_rfl) (by kernel_rfl) (by kernel_rfl) (by kernel_rfl) (by kernel_rfl) (by kernel_rfl)
    ⟨by kernel_rfl, by decide, by kernel_rfl, by kernel_rfl, by decide, by kernel_rfl, by decide, by kernel_rfl⟩ (by simp) (fun l hl => by
      simp only [List.mem_cons, List.not_mem_nil, or_false] at hl
      rcases hl with rfl | rfl <;> kernel_rfl) (by decide) (by decide) (by kernel_rfl) (by kernel_rfl) (by kernel_rfl) (by decide) (by kernel_rfl)
  exact h⟩

set_option maxHeartbeats 1600000 in
set_option maxRecDepth 100000 in
theorem dnsBegun_any (w : World) (hm : ML w) :
    Calls Tryd.prog 9 #[] w fun e w' => e = .returned (.bool true) ∧ Below w.heap.size w w' := by
  have HW : Hid (Calls Tryd.prog 12 #[msgV 258 0 1 false false nameAB] w fun e w' => e = .returned (.tuple #[.string textAB, .int .i64 0]) ∧ Below w.heap.size w w') := (show Calls _ _ _ _ _ by
    have h := write_none 258 0 1 false false nameAB w hm (by decide) (by decide) (by decide) chkAB (by decide) (by rw [lenAB]; omega)
    rw [textAB_is] at h
    exact h)
  have HR : Hid (∀ W, Calls Tryd.prog 16 #[.string textAB] W fun e w' => e = .returned (.tuple #[msgV 258 0 1 false false nameAB, .int .i64 0]) ∧ Below W.heap.size W w') := fun W => read_none 258 0 1 nameAB textAB W readsAB (by decide) (by decide) (by decide) (by decide) chkAB (by decide)
  have hsz : textAB.size = 21 := by kernel_rfl
  clear hm
  generalize textAB = T at *
  go_enter Tryd.func9, Tryd.ntmps9
  go_wp2_with fail
  refine HW.out.mono ?_
  rintro e w1 ⟨rfl, hb1⟩
  have HB1 : Hid (Below w.heap.size w w1) := hb1
  have hl1 := hb1.size
  clear hb1
  go_wp2_with fail
  refine (HR.out _).mono ?_
  rintro e w2 ⟨rfl, hb2⟩
  have HB2 : Hid (Below w.heap.size w w2) := HB1.out.trans (hb2.mono hl1)
  have hl2 := HB2.out.size
  clear hb2 HB1
  have h21 : ((T.size : Int) == 21) = true := by rw [hsz]; rfl
  go_wp2_with fail
  simp [bodyPost, results, Tryd.results9]
  exact HB2.out.alloc hl2 _

set_option maxHeartbeats 1600000 in
set_option maxRecDepth 100000 in
theorem dnsChecks_walk (s : ByteArray) (w : World) (hm : ML w) (hs : s.size ≤ 2000000) :
    Calls Tryd.prog 3 #[.string s] w fun e w' => e = .returned (.bool true) ∧ Below w.heap.size w w' := by
  have HB : Hid (Calls Tryd.prog 9 #[] w fun e w' => e = .returned (.bool true) ∧ Below w.heap.size w w') := dnsBegun_any w hm
  have HC : Hid (∀ W, Calls Tryd.prog 10 #[.string s] W fun e w' => e = .returned (.int .i64 (chkN s)) ∧ Below W.heap.size W w') := fun W => dnsCheck_any s W (by unfold maxLen; omega)
  have HR : Hid (∀ W, Calls Tryd.prog 11 #[.string s] W fun e w' => e = .returned (.int .i64 (chkN s)) ∧ Below W.heap.size W w') := fun W => rCheckName_any s W hs
  generalize chkN s = E at *
  clear hm hs
  go_enter Tryd.func3, Tryd.ntmps3
  go_wp2_with fail
  refine HB.out.mono ?_
  rintro e w1 ⟨rfl, hb1⟩
  have HB1 : Hid (Below w.heap.size w w1) := hb1
  have hl1 := hb1.size
  clear hb1
  go_wp2_with fail
  refine (HC.out _).mono ?_
  rintro e w2 ⟨rfl, hb2⟩
  have HB2 : Hid (Below w.heap.size w w2) := HB1.out.trans (hb2.mono hl1)
  have hl2 := HB2.out.size
  clear hb2 HB1
  go_wp2_with fail
  refine (HR.out _).mono ?_
  rintro e w3 ⟨rfl, hb3⟩
  have HB3 : Hid (Below w.heap.size w w3) := HB2.out.trans (hb3.mono hl2)
  clear hb3 HB2
  go_wp2_with fail
  go_ret
  exact ⟨rfl, HB3.out⟩

end Go.Proofs.YtogmkdhljifbpaaDoor

/- DnsWrites. -/
namespace Go.Proofs.YtogmkdhljifbpaaDoor
open Go.RowKit

set_option maxHeartbeats 800000 in
set_option maxRecDepth 100000 in
theorem textIs_bad (E : Int) (want : ByteArray) (w : World) (h : E ≠ 0) :
    Calls Tryd.prog 15 #[.string ⟨#[]⟩, .int .i64 E, .int .i64 E, .string want] w fun e w' => e = .returned (.bool true) ∧ w' = w := by
  have h1 : (E != 0) = true := by simpa using h
  go_enter Tryd.func15, Tryd.ntmps15
  go_wp2_with fail
  go_ret
  exact ⟨rfl, rfl⟩
set_option maxHeartbeats 800000 in
set_option maxRecDepth 100000 in
theorem textIs_ok (want : ByteArray) (w : World) :
    Calls Tryd.prog 15 #[.string want, .int .i64 0, .int .i64 0, .string want] w fun e w' => e = .returned (.bool true) ∧ w' = w := by
  go_enter Tryd.func15, Tryd.ntmps15
  go_wp2_with fail
  go_ret
  exact ⟨rfl, rfl⟩

set_option maxHeartbeats 1600000 in
set_option maxRecDepth 100000 in
theorem dnsWrites_walk (id code typ : Int) (ans cut : Bool) (name : ByteArray) (rs : List Rc.Rec) (v : Value) (w : World) (hm : ML w) (hs : name.size ≤ 2000000) (hrs : ∀ r ∈ rs, r.name.size ≤ 2000000 ∧ r.target.size ≤ 2000000) (hv : Rc.Sl w v rs) :
    Calls Tryd.prog 4 #[.agg #[.int .i64 id, .bool ans, .bool cut, .int .i64 code, .string name, .int .i64 typ, v]] w fun e w' => e = .returned (.bool true) ∧ Below w.heap.size w w' := by
  have HW : Hid (∀ W, Below w.heap.size w W → Calls Tryd.prog 12 #[.agg #[.int .i64 id, .bool ans, .bool cut, .int .i64 code, .string name, .int .i64 typ, v]] W fun e w' => e = .returned (.tuple #[.string (wrT id code typ ans cut name rs), .int .i64 (wrE id code typ ans cut name rs)]) ∧ Below W.heap.size W w') := fun W hW => write_any id code typ ans cut name rs v W (hm.below hW) (by unfold maxLen; omega) (hv.below hW)
  have HC : Hid (∀ W, Below w.heap.size w W → Calls Tryd.prog 13 #[.agg #[.int .i64 id, .bool ans, .bool cut, .int .i64 code, .string name, .int .i64 typ, v]] W fun e w' => e = .returned (.int .i64 (chkMsg id code typ name rs)) ∧ Below W.heap.size W w') := fun W hW => refMsg_any id code typ ans cut name rs v W hs hrs (hv.below hW)
  have HM : Hid (chkMsg id code typ name rs = 0 → ∀ W, Below w.heap.size w W → Calls Tryd.prog 14 #[.agg #[.int .i64 id, .bool ans, .bool cut, .int .i64 code, .string name, .int .i64 typ, v]] W fun e w' => e = .returned (.string ⟨(wallL id code typ ans cut name rs).toArray⟩) ∧ Below W.heap.size W w') := fun h0 W hW => msgBytes_any id code typ ans cut name rs v W h0 (hv.below hW)
  have HBG : Hid (∀ W, Below w.heap.size w W → Calls Tryd.prog 9 #[] W fun e w' => e = .returned (.bool true) ∧ Below W.heap.size W w') := fun W hW => dnsBegun_any W (hm.below hW)
  have hWL : (⟨(wallL id code typ ans cut name rs).toArray⟩ : ByteArray).size = (wallL id code typ ans cut name rs).length := by simp [ByteArray.size]
  have HR1 : Hid (chkMsg id code typ name rs = 0 → ¬ 512 < (⟨(wallL id code typ ans cut name rs).toArray⟩ : ByteArray).size → wrT id code typ ans cut name rs = ⟨(wallL id code typ ans cut name rs).toArray⟩ ∧ wrE id code typ ans cut name rs = 0) := fun h1 h2 => by
    rw [hWL] at h2
    unfold wrT wrE
    rw [if_pos h1, if_pos h1, if_neg h2, if_neg h2]
    exact ⟨rfl, rfl⟩
  have HR2 : Hid (chkMsg id code typ name rs = 0 → 512 < (⟨(wallL id code typ ans cut name rs).toArray⟩ : ByteArray).size → wrT id code typ ans cut name rs = ⟨#[]⟩ ∧ wrE id code typ ans cut name rs = 2) := fun h1 h2 => by
    rw [hWL] at h2
    unfold wrT wrE
    rw [if_pos h1, if_pos h1, if_pos h2, if_pos h2]
    exact ⟨rfl, rfl⟩
  have HR3 : Hid (chkMsg id code typ name rs ≠ 0 → wrT id code typ ans cut name rs = ⟨#[]⟩ ∧ wrE id code typ ans cut name rs = chkMsg id code typ name rs) := fun h1 => by
    unfold wrT wrE
    rw [if_neg h1, if_neg h1]
    exact ⟨rfl, rfl⟩
  obtain ⟨pa, cap, hvv, _, _⟩ := hv
  clear hm hs hrs hWL
  generalize chkMsg id code typ name rs = E at *
  generalize (⟨(wallL id code typ ans cut name rs).toArray⟩ : ByteArray) = T at *
  generalize wrT id code typ ans cut name rs = RT at *
  generalize wrE id code typ ans cut name rs = RE at *
  subst hvv
  generalize rs.length = n at *
  go_enter Tryd.func4, Tryd.ntmps4
  go_wp2_with fail
  obtain ⟨w0, hw0⟩ : ∃ w0, w0 = w.alloc (.cells #[.int .i64 id, .bool ans, .bool cut, .int .i64 code, .string name, .int .i64 typ, .slice pa n cap] 30) := ⟨_, rfl⟩
  have hg0 : w0.heap[w.heap.size]? = some (.cells #[.int .i64 id, .bool ans, .bool cut, .int .i64 code, .string name, .int .i64 typ, .slice pa n cap] 30 (0, 0)) := by rw [hw0]; exact heap_alloc_new w _
  have HB0 : Hid (Below w.heap.size w w0) := (show Below _ _ _ by rw [hw0]; exact (Below.refl _ _).alloc (Nat.le_refl _) _)
  have hl0 : w.heap.size < w0.heap.size := (Array.getElem?_eq_some_iff.1 hg0).1
  rw [← hw0]
  clear hw0
  refine (HW.out w0 HB0.out).mono ?_
  rintro e w1 ⟨rfl, hb1⟩
  have HB1 : Hid (Below w.heap.size w w1) := HB0.out.trans (hb1.mono HB0.out.size)
  have hg1 := (hb1.block _ hl0).trans hg0
  have hl1 : w.heap.size < w1.heap.size := (Array.getElem?_eq_some_iff.1 hg1).1
  clear hb1 hg0
  have c0 : w1.cell? ⟨w.heap.size, 0, none⟩ = some (.int .i64 id) := cellsAt hg1 0
  have c1 : w1.cell? ⟨w.heap.size, 1, none⟩ = some (.bool ans) := cellsAt hg1 1
  have c2 : w1.cell? ⟨w.heap.size, 2, none⟩ = some (.bool cut) := cellsAt hg1 2
  have c3 : w1.cell? ⟨w.heap.size, 3, none⟩ = some (.int .i64 code) := cellsAt hg1 3
  have c4 : w1.cell? ⟨w.heap.size, 4, none⟩ = some (.string name) := cellsAt hg1 4
  have c5 : w1.cell? ⟨w.heap.size, 5, none⟩ = some (.int .i64 typ) := cellsAt hg1 5
  have c6 : w1.cell? ⟨w.heap.size, 6, none⟩ = some (.slice pa n cap) := cellsAt hg1 6
  go_wp2_with fail
  refine (HC.out w1 HB1.out).mono ?_
  rintro e w2 ⟨rfl, hb2⟩
  have HB2 : Hid (Below w.heap.size w w2) := HB1.out.trans (hb2.mono HB1.out.size)
  have hg2 := (hb2.block _ hl1).trans hg1
  clear hb2 hg1 c0 c1 c2 c3 c4 c5 c6
  by_cases h0 : E = 0
  · have hEq : (E == 0) = true := by simpa using h0
    have HM2 := HM.out h0 w2 HB2.out
    have HM3 : Hid (Calls Tryd.prog 14 #[.agg #[.int .i64 id, .bool ans, .bool cut, .int .i64 code, .string name, .int .i64 typ, .slice pa n cap]] w2 fun e w' => e = .returned (.string T) ∧ Below w2.heap.size w2 w') := HM2
    have K1 : Hid (¬ 512 < T.size → RT = T ∧ RE = 0) := HR1.out h0
    have K2 : Hid (512 < T.size → RT = ⟨#[]⟩ ∧ RE = 2) := HR2.out h0
    clear HM2 HM HR1 HR2 HR3 hEq
    subst h0
    have c0 : w2.cell? ⟨w.heap.size, 0, none⟩ = some (.int .i64 id) := cellsAt hg2 0
    have c1 : w2.cell? ⟨w.heap.size, 1, none⟩ = some (.bool ans) := cellsAt hg2 1
    have c2 : w2.cell? ⟨w.heap.size, 2, none⟩ = some (.bool cut) := cellsAt hg2 2
    have c3 : w2.cell? ⟨w.heap.size, 3, none⟩ = some (.int .i64 code) := cellsAt hg2 3
    have c4 : w2.cell? ⟨w.heap.size, 4, none⟩ = some (.string name) := cellsAt hg2 4
    have c5 : w2.cell? ⟨w.heap.size, 5, none⟩ = some (.int .i64 typ) := cellsAt hg2 5
    have c6 : w2.cell? ⟨w.heap.size, 6, none⟩ = some (.slice pa n cap) := cellsAt hg2 6
    go_wp2_with fail
    refine HM3.out.mono ?_
    rintro e w3 ⟨rfl, hb3⟩
    have HB3 : Hid (Below w.heap.size w w3) := HB2.out.trans (hb3.mono HB2.out.size)
    clear hb3 c0 c1 c2 c3 c4 c5 c6
    by_cases hT : 512 < T.size
    · obtain ⟨e1, e2⟩ := K2.out hT
      subst e1
      subst e2
      have hcmp : decide (512 < (T.size : Int)) = true := by simp; omega
      go_wp2_with fail
      refine (HBG.out w3 HB3.out).mono ?_
      rintro e w4 ⟨rfl, hb4⟩
      have HB4 : Hid (Below w.heap.size w w4) := HB3.out.trans (hb4.mono HB3.out.size)
      clear hb4
      go_wp2_with fail
      refine (textIs_bad 2 T w4 (by decide)).mono ?_
      rintro e w5 ⟨rfl, hw5⟩
      subst hw5
      go_wp2_with fail
      go_ret
      exact ⟨rfl, HB4.out⟩
    · obtain ⟨e1, e2⟩ := K1.out hT
      subst e1
      subst e2
      have hcmp : decide (512 < (RT.size : Int)) = false := by simp; omega
      go_wp2_with fail
      refine (HBG.out w3 HB3.out).mono ?_
      rintro e w4 ⟨rfl, hb4⟩
      have HB4 : Hid (Below w.heap.size w w4) := HB3.out.trans (hb4.mono HB3.out.size)
      clear hb4
      go_wp2_with fail
      refine (textIs_ok RT w4).mono ?_
      rintro e w5 ⟨rfl, hw5⟩
      subst hw5
      go_wp2_with fail
      go_ret
      exact ⟨rfl, HB4.out⟩
  · have hEq : (E == 0) = false := by simpa using h0
    obtain ⟨e1, e2⟩ := HR3.out h0
    subst e1
    subst e2
    have H0 : Hid (¬ RE = 0) := h0
    go_wp2_with fail
    refine (HBG.out w2 HB2.out).mono ?_
    rintro e w4 ⟨rfl, hb4⟩
    have HB4 : Hid (Below w.heap.size w w4) := HB2.out.trans (hb4.mono HB2.out.size)
    clear hb4
    go_wp2_with fail
    refine (textIs_bad RE ⟨#[]⟩ w4 H0.out).mono ?_
    rintro e w5 ⟨rfl, hw5⟩
    subst hw5
    go_wp2_with fail
    go_ret
    exact ⟨rfl, HB4.out⟩

end Go.Proofs.YtogmkdhljifbpaaDoor

/- DnsFits. -/
namespace Go.Proofs.YtogmkdhljifbpaaDoor
open Go.RowKit

theorem fit_empty {id code typ size : Int} {ans cut : Bool} {name : ByteArray} {rs : List Rc.Rec} (h : fitE id code typ ans cut name rs size ≠ 0) : fitT id code typ ans cut name rs size = ⟨#[]⟩ := by
  unfold fitE at h
  unfold fitT
  split at h
  · rename_i h1; rw [if_pos h1]
  · rename_i h1
    rw [if_neg h1]
    split at h
    · rename_i h2
      rw [if_pos h2]
      split at h
      · exact absurd rfl h
      · rename_i h3
        simp at h3
        rw [h3]
        rfl
    · rename_i h2; rw [if_neg h2]

set_option maxHeartbeats 1600000 in
set_option maxRecDepth 100000 in
theorem dnsFits_walk (id code typ size : Int) (ans cut : Bool) (name : ByteArray) (rs : List Rc.Rec) (pa : Option Addr) (cap : Nat) (w : World) (hm : ML w) (hs : name.size ≤ 2000000) (hrs : ∀ r ∈ rs, r.name.size ≤ 2000000 ∧ r.target.size ≤ 2000000) (hv : Rc.Sl w (.slice pa rs.length cap) rs) (hcap : rs.length ≤ cap) :
    Calls Tryd.prog 6 #[.agg #[.int .i64 id, .bool ans, .bool cut, .int .i64 code, .string name, .int .i64 typ, .slice pa rs.length cap], .int .i64 size] w fun e w' => e = .returned (.bool true) ∧ Below w.heap.size w w' := by
  have HW : Hid (∀ W, Below w.heap.size w W → Calls Tryd.prog 19 #[.agg #[.int .i64 id, .bool ans, .bool cut, .int .i64 code, .string name, .int .i64 typ, .slice pa rs.length cap], .int .i64 size] W fun e w' => e = .returned (.tuple #[.string (fitT id code typ ans cut name rs size), .int .i64 (fitE id code typ ans cut name rs size)]) ∧ Below W.heap.size W w') := fun W hW => fit_any id code typ size ans cut name rs pa cap W (hm.below hW) (by unfold maxLen; omega) (hv.below hW) hcap
  have HC : Hid (∀ W, Below w.heap.size w W → Calls Tryd.prog 20 #[.agg #[.int .i64 id, .bool ans, .bool cut, .int .i64 code, .string name, .int .i64 typ, .slice pa rs.length cap], .int .i64 size] W fun e w' => e = .returned (.tuple #[.string (fitT id code typ ans cut name rs size), .int .i64 (fitE id code typ ans cut name rs size)]) ∧ Below W.heap.size W w') := fun W hW => fitOf_any id code typ size ans cut name rs pa cap W hs hrs (hv.below hW) hcap
  have HBG : Hid (∀ W, Below w.heap.size w W → Calls Tryd.prog 9 #[] W fun e w' => e = .returned (.bool true) ∧ Below W.heap.size W w') := fun W hW => dnsBegun_any W (hm.below hW)
  have HT : Hid (∀ W, Calls Tryd.prog 15 #[.string (fitT id code typ ans cut name rs size), .int .i64 (fitE id code typ ans cut name rs size), .int .i64 (fitE id code typ ans cut name rs size), .string (fitT id code typ ans cut name rs size)] W fun e w' => e = .returned (.bool true) ∧ w' = W) := fun W => by
    by_cases h : fitE id code typ ans cut name rs size = 0
    · rw [h]; exact textIs_ok _ W
    · rw [fit_empty h]; exact textIs_bad _ _ W h
  clear hm hs hrs hv
  generalize fitT id code typ ans cut name rs size = RT at *
  generalize fitE id code typ ans cut name rs size = RE at *
  generalize rs.length = n at *
  go_enter Tryd.func6, Tryd.ntmps6
  go_wp2_with fail
  obtain ⟨w0, hw0⟩ : ∃ w0, w0 = w.alloc (.cells #[.int .i64 id, .bool ans, .bool cut, .int .i64 code, .string name, .int .i64 typ, .slice pa n cap] 30) := ⟨_, rfl⟩
  have hg0 : w0.heap[w.heap.size]? = some (.cells #[.int .i64 id, .bool ans, .bool cut, .int .i64 code, .string name, .int .i64 typ, .slice pa n cap] 30 (0, 0)) := by rw [hw0]; exact heap_alloc_new w _
  have HB0 : Hid (Below w.heap.size w w0) := (show Below _ _ _ by rw [hw0]; exact (Below.refl _ _).alloc (Nat.le_refl _) _)
  have hl0 : w.heap.size < w0.heap.size := (Array.getElem?_eq_some_iff.1 hg0).1
  rw [← hw0]
  clear hw0
  refine (HW.out w0 HB0.out).mono ?_
  rintro e w1 ⟨rfl, hb1⟩
  have HB1 : Hid (Below w.heap.size w w1) := HB0.out.trans (hb1.mono HB0.out.size)
  have hg1 := (hb1.block _ hl0).trans hg0
  clear hb1 hg0
  have c0 : w1.cell? ⟨w.heap.size, 0, none⟩ = some (.int .i64 id) := cellsAt hg1 0
  have c1 : w1.cell? ⟨w.heap.size, 1, none⟩ = some (.bool ans) := cellsAt hg1 1
  have c2 : w1.cell? ⟨w.heap.size, 2, none⟩ = some (.bool cut) := cellsAt hg1 2
  have c3 : w1.cell? ⟨w.heap.size, 3, none⟩ = some (.int .i64 code) := cellsAt hg1 3
  have c4 : w1.cell? ⟨w.heap.size, 4, none⟩ = some (.string name) := cellsAt hg1 4
  have c5 : w1.cell? ⟨w.heap.size, 5, none⟩ = some (.int .i64 typ) := cellsAt hg1 5
  have c6 : w1.cell? ⟨w.heap.size, 6, none⟩ = some (.slice pa n cap) := cellsAt hg1 6
  go_wp2_with fail
  refine (HC.out w1 HB1.out).mono ?_
  rintro e w2 ⟨rfl, hb2⟩
  have HB2 : Hid (Below w.heap.size w w2) := HB1.out.trans (hb2.mono HB1.out.size)
  clear hb2 hg1 c0 c1 c2 c3 c4 c5 c6
  go_wp2_with fail
  refine (HBG.out w2 HB2.out).mono ?_
  rintro e w4 ⟨rfl, hb4⟩
  have HB4 : Hid (Below w.heap.size w w4) := HB2.out.trans (hb4.mono HB2.out.size)
  clear hb4
  go_wp2_with fail
  refine (HT.out w4).mono ?_
  rintro e w5 ⟨rfl, hw5⟩
  subst hw5
  go_wp2_with fail
  go_ret
  exact ⟨rfl, HB4.out⟩

end Go.Proofs.YtogmkdhljifbpaaDoor

/- What the laws of messages are handed: a message, read out of memory, and its bulk. -/
namespace Go.Proofs.YtogmkdhljifbpaaDoor
open Go.ChangeShapes Go.WideShapes Go.ChangeAt Go.RowKit

section
variable {H : Type} {enc : TypeId × Value → H} {w : World} {base : Nat} {spare : Nat → Bool} {held : Bool}

theorem Tryd.cellsRec : Tryd.prog.cellsOf 54 = 7 := by kernel_rfl
theorem Tryd.cellsQue : Tryd.prog.cellsOf 27 = 2 := by kernel_rfl
theorem Tryd.cellsMsg : Tryd.prog.cellsOf 30 = 7 := by kernel_rfl
theorem Tryd.cellsRecs : Tryd.prog.cellsOf 28 = 1 := by kernel_rfl
theorem Tryd.cellsC9 : Tryd.prog.cellsOf 9 = 1 := by kernel_rfl
theorem Tryd.cellsC3 : Tryd.prog.cellsOf 3 = 1 := by kernel_rfl
theorem Tryd.cellsC4 : Tryd.prog.cellsOf 4 = 1 := by kernel_rfl

set_option maxRecDepth 100000 in
theorem rec_of_trod {fuel : Nat} {cs : List Value} {x : DataW H × List MemPlace} (h : DataW.trod enc Tryd.prog w base spare held fuel 54 cs = some x) :
    ∃ m : Rc.Rec, cs = m.cs ∧ m.ok ∧ m.name.size + m.text.size + m.target.size ≤ Rows.uptoBulk x.1 := by
  obtain ⟨xs, n, _, hx, hl, hlen, hf⟩ := DataW.trod_struct Tryd.underlying54 h
  rw [Tryd.cellsRec] at hl
  match cs, hl with
  | [c0, c1, c2, c3, c4, c5, c6], _ =>
    match xs, hlen with
    | [y0, y1, y2, y3, y4, y5, y6], _ =>
      have h0 := hf 0 _ rfl
      have h1 := hf 1 _ rfl
      have h2 := hf 2 _ rfl
      have h3 := hf 3 _ rfl
      have h4 := hf 4 _ rfl
      have h5 := hf 5 _ rfl
      have h6 := hf 6 _ rfl
      simp [Tryd.cellsC9] at h0
      simp [Tryd.cellsC3] at h1
      simp [Tryd.cellsC3] at h2
      simp [Tryd.cellsC3] at h3
      simp [Tryd.cellsC9] at h4
      simp [Tryd.cellsC3] at h5
      simp [Tryd.cellsC9] at h6
      obtain ⟨a0, e0, d0, w0⟩ := DataW.trod_string Tryd.underlying9 h0
      obtain ⟨a1, e1, _⟩ := DataW.trod_int Tryd.underlying3 h1
      obtain ⟨a2, e2, _⟩ := DataW.trod_int Tryd.underlying3 h2
      obtain ⟨a3, e3, _⟩ := DataW.trod_int Tryd.underlying3 h3
      obtain ⟨a4, e4, d4, w4⟩ := DataW.trod_string Tryd.underlying9 h4
      obtain ⟨a5, e5, _⟩ := DataW.trod_int Tryd.underlying3 h5
      obtain ⟨a6, e6, d6, w6⟩ := DataW.trod_string Tryd.underlying9 h6
      simp only [List.cons.injEq, and_true] at e0 e1 e2 e3 e4 e5 e6
      subst e0 e1 e2 e3 e4 e5 e6
      refine ⟨⟨a0, a1, a2, a3, a4, a5, a6⟩, rfl, ⟨w0, w4, w6⟩, ?_⟩
      have z0 : a0.data.toList.length = a0.size := by simp
      have z4 : a4.data.toList.length = a4.size := by simp
      have z6 : a6.data.toList.length = a6.size := by simp
      rw [hx, d0, d4, d6]
      simp only [List.map_cons, List.map_nil, Rows.uptoBulk, Rows.uptoBulkAll, z0, z4, z6]
      omega

theorem bulk_mem : ∀ (l : List (DataW H)) (d : DataW H), d ∈ l → Rows.uptoBulk d ≤ Rows.uptoBulkAll l
  | [], _, h => by cases h
  | x :: r, d, h => by
    rcases List.mem_cons.1 h with rfl | h
    · simp only [Rows.uptoBulkAll]; omega
    · have := bulk_mem r d h
      simp only [Rows.uptoBulkAll]; omega

theorem recs_of_trod {fuel : Nat} {cs : List Value} {x : DataW H × List MemPlace} (h : DataW.trod enc Tryd.prog w base spare held fuel 28 cs = some x) :
    ∃ (v : Value) (ms : List Rc.Rec), cs = [v] ∧ Rc.Sl w v ms ∧ (∃ pa cap, v = .slice pa ms.length cap ∧ ms.length ≤ cap) ∧ ∀ r ∈ ms, r.name.size + r.text.size + r.target.size ≤ Rows.uptoBulk x.1 := by
  rcases Go.Deep.open_slice Tryd.underlying28 h with ⟨hcs, _⟩ | ⟨x0, len, cap, m, n, D, Pl, hcs, hb, hl, hm, hmm, hx1, hx⟩
  · exact ⟨_, [], hcs, ⟨none, 0, rfl, Rc.ns_get (by simp), .inl rfl⟩, ⟨none, 0, rfl, by simp⟩, by simp⟩
  · have hlm : len ≤ m := by rw [hmm]; split <;> omega
    have hall : ∀ i, i < len → ∃ q : Rc.Rec, (∀ t, t < 7 → w.cell? (x0.add (i * 7 + t)) = q.cs[t]?) ∧ q.ok ∧ q.name.size + q.text.size + q.target.size ≤ Rows.uptoBulk (D i) := fun i hi => by
      obtain ⟨cs', h1, h2⟩ := hx i (by omega)
      obtain ⟨q, hq, hs, hz⟩ := rec_of_trod h2
      rw [Tryd.cellsRec] at h1
      obtain ⟨_, _, h3⟩ := World.cells?_some h1
      refine ⟨q, fun t ht => ?_, hs, hz⟩
      rw [← Go.Deep.add_add, h3 t ht, hq]
    have hinh : Inhabited Rc.Rec := ⟨Rc.dm⟩
    obtain ⟨F, hF⟩ := Go.Deep.choose_lt (α := Rc.Rec) (p := fun i q => (∀ t, t < 7 → w.cell? (x0.add (i * 7 + t)) = q.cs[t]?) ∧ q.ok ∧ q.name.size + q.text.size + q.target.size ≤ Rows.uptoBulk (D i)) hall
    have hget : ∀ j, j < len → ((List.range len).map F).getD j Rc.dm = F j := fun j hj => by simp [List.getD, hj]
    refine ⟨_, (List.range len).map F, hcs, ⟨some x0, cap, by simp, Rc.ns_get (fun q hq => ?_), ?_⟩, ⟨some x0, cap, by simp, by simpa using hl⟩, fun q hq => ?_⟩
    · obtain ⟨j, hj, rfl⟩ := List.mem_map.1 hq
      exact (hF j (List.mem_range.1 hj)).2.1
    · by_cases h0 : len = 0
      · left; simp [h0]
      · right
        obtain ⟨b, off, spot⟩ := x0
        have hc0 := (hF 0 (by omega)).1 0 (by omega)
        have hspot : spot = none := by simpa [Addr.add] using World.cell?_spot hc0
        subst hspot
        have hcell : ∀ j, j < len → ∀ t, t < 7 → w.cell? ⟨b, off + j * 7 + t, none⟩ = (F j).cs[t]? := fun j hj t ht => by
          have := (hF j hj).1 t ht
          rwa [Go.WideShapes.add_plain, ← Nat.add_assoc] at this
        refine ⟨b, off, rfl, World.block_lt_of_cell? w ⟨b, off + 0 * 7 + 0, none⟩ (hcell 0 (by omega) 0 (by omega)), fun j hj => ?_⟩
        have hj' : j < len := by simpa using hj
        rw [hget j hj']
        exact ⟨hcell j hj' 0 (by omega), hcell j hj' 1 (by omega), hcell j hj' 2 (by omega), hcell j hj' 3 (by omega), hcell j hj' 4 (by omega), hcell j hj' 5 (by omega), hcell j hj' 6 (by omega)⟩
    · obtain ⟨j, hj, rfl⟩ := List.mem_map.1 hq
      have hj2 := List.mem_range.1 hj
      have h1 := (hF j hj2).2.2
      have h2 := bulk_mem ((List.range len).map D) (D j) (List.mem_map.2 ⟨j, hj, rfl⟩)
      rw [hx1]
      simp only [Rows.uptoBulk]
      omega

set_option maxRecDepth 100000 in
theorem msg_of_trod {fuel : Nat} {cs : List Value} {x : DataW H × List MemPlace} (h : DataW.trod enc Tryd.prog w base spare held fuel 30 cs = some x) :
    ∃ (id code typ : Int) (ans cut : Bool) (name : ByteArray) (v : Value) (rs : List Rc.Rec), cs = [.int .i64 id, .bool ans, .bool cut, .int .i64 code, .string name, .int .i64 typ, v] ∧ name.size ≤ maxLen ∧ Rc.Sl w v rs ∧ (∃ pa cap, v = .slice pa rs.length cap ∧ rs.length ≤ cap) ∧ name.size ≤ Rows.uptoBulk x.1 ∧ ∀ r ∈ rs, r.name.size + r.text.size + r.target.size ≤ Rows.uptoBulk x.1 := by
  obtain ⟨xs, n, _, hx, hl, hlen, hf⟩ := DataW.trod_struct Tryd.underlying30 h
  rw [Tryd.cellsMsg] at hl
  match cs, hl with
  | [c0, c1, c2, c3, c4, c5, c6], _ =>
    match xs, hlen with
    | [y0, y1, y2, y3, y4, y5], _ =>
      have h0 := hf 0 _ rfl
      have h1 := hf 1 _ rfl
      have h2 := hf 2 _ rfl
      have h3 := hf 3 _ rfl
      have h4 := hf 4 _ rfl
      have h5 := hf 5 _ rfl
      simp [Tryd.cellsC3] at h0
      simp [Tryd.cellsC4] at h1
      simp [Tryd.cellsC4] at h2
      simp [Tryd.cellsC3] at h3
      simp [Tryd.cellsQue] at h4
      simp [Tryd.cellsRecs] at h5
      obtain ⟨a0, e0, _⟩ := DataW.trod_int Tryd.underlying3 h0
      obtain ⟨a1, e1, _⟩ := DataW.trod_bool Tryd.underlying4 h1
      obtain ⟨a2, e2, _⟩ := DataW.trod_bool Tryd.underlying4 h2
      obtain ⟨a3, e3, _⟩ := DataW.trod_int Tryd.underlying3 h3
      obtain ⟨v, rs, e5, hsl, hcp, hbk⟩ := recs_of_trod h5
      obtain ⟨zs, n2, _, hx2, hl2, hlen2, hf2⟩ := DataW.trod_struct Tryd.underlying27 h4
      match zs, hlen2 with
      | [u0, u1], _ =>
        have g0 := hf2 0 _ rfl
        have g1 := hf2 1 _ rfl
        simp [Tryd.cellsC9] at g0
        simp [Tryd.cellsC3] at g1
        obtain ⟨a4, e4, d4, w4⟩ := DataW.trod_string Tryd.underlying9 g0
        obtain ⟨a5, e6, _⟩ := DataW.trod_int Tryd.underlying3 g1
        simp only [List.cons.injEq, and_true] at e0 e1 e2 e3 e4 e5 e6
        subst e0 e1 e2 e3 e4 e5 e6
        have z4 : a4.data.toList.length = a4.size := by simp
        have hz : a4.size ≤ Rows.uptoBulk x.1 ∧ Rows.uptoBulk y5.1 ≤ Rows.uptoBulk x.1 := by
          rw [hx]
          simp only [List.map_cons, List.map_nil, Rows.uptoBulk, Rows.uptoBulkAll, hx2, d4, z4]
          omega
        exact ⟨a0, a3, a5, a1, a2, a4, _, rs, rfl, w4, hsl, hcp, hz.1, fun r hr => Nat.le_trans (hbk r hr) hz.2⟩

set_option maxRecDepth 100000 in
theorem open_msgc {r : Reach} {b0 : Nat} {v : Value} {d : DataW H} {p : List MemPlace} (hv : Value.okWide Tryd.prog w r b0 30 v) (h : DataW.Trod enc Tryd.prog w base spare held 30 v d p) :
    ∃ (id code typ : Int) (ans cut : Bool) (name : ByteArray) (u : Value) (rs : List Rc.Rec), v = .agg #[.int .i64 id, .bool ans, .bool cut, .int .i64 code, .string name, .int .i64 typ, u] ∧ name.size ≤ maxLen ∧ Rc.Sl w u rs ∧ (∃ pa cap, u = .slice pa rs.length cap ∧ rs.length ≤ cap) ∧ name.size ≤ Rows.uptoBulk d ∧ ∀ r ∈ rs, r.name.size + r.text.size + r.target.size ≤ Rows.uptoBulk d := by
  obtain ⟨cs, rfl, hsz⟩ := okWide_struct Tryd.underlying30 hv
  obtain ⟨fuel, hf⟩ := h
  obtain ⟨id, code, typ, ans, cut, name, u, rs, hm, h1, h2, hc, h3, h4⟩ := msg_of_trod hf
  refine ⟨id, code, typ, ans, cut, name, u, rs, ?_, h1, h2, hc, h3, h4⟩
  simp only [Value.cells] at hm
  congr 1
  apply Array.ext'
  exact hm

set_option maxRecDepth 100000 in
theorem open_msg {r : Reach} {b0 : Nat} {v : Value} {d : DataW H} {p : List MemPlace} (hv : Value.okWide Tryd.prog w r b0 30 v) (h : DataW.Trod enc Tryd.prog w base spare held 30 v d p) :
    ∃ (id code typ : Int) (ans cut : Bool) (name : ByteArray) (u : Value) (rs : List Rc.Rec), v = .agg #[.int .i64 id, .bool ans, .bool cut, .int .i64 code, .string name, .int .i64 typ, u] ∧ name.size ≤ maxLen ∧ Rc.Sl w u rs ∧ name.size ≤ Rows.uptoBulk d ∧ ∀ r ∈ rs, r.name.size + r.text.size + r.target.size ≤ Rows.uptoBulk d := by
  obtain ⟨id, code, typ, ans, cut, name, u, rs, hm, h1, h2, _, h3, h4⟩ := open_msgc hv h
  exact ⟨id, code, typ, ans, cut, name, u, rs, hm, h1, h2, h3, h4⟩

end

end Go.Proofs.YtogmkdhljifbpaaDoor

/- Contracts of the library, laid at this program. -/
namespace Go.Proofs
open Go.Shelf
def Tryd.laysM146_ren : Go.Shelf.Ren := ⟨fun | 146 => 80 | 221 => 90 | 268 => 94 | 138 => 25 | 143 => 47 | 195 => 45 | 197 => 96 | 218 => 46 | 219 => 63 | 260 => 97 | 217 => 75 | 225 => 76 | 224 => 77 | 267 => 78 | 266 => 87 | 314 => 88 | n => n, fun | 9 => 9 | 31 => 46 | 3 => 3 | 4 => 4 | 0 => 0 | 105 => 112 | 21 => 21 | 5 => 5 | 46 => 91 | 119 => 114 | 139 => 117 | 138 => 116 | 146 => 105 | 51 => 104 | n => n, fun | 1 => 0 | 3 => 1 | 4 => 2 | n => n⟩
theorem Tryd.laysM146 : Go.Proofs.LaysM.n146 Tryd.prog Tryd.laysM146_ren := {
  mixed := by kernel_rfl
  f138 := Tryd.func25.trans (congrArg some (by kernel_rfl))
  f143 := Tryd.func47.trans (congrArg some (by kernel_rfl))
  f146 := Tryd.func80.trans (congrArg some (by kernel_rfl))
  f195 := Tryd.func45.trans (congrArg some (by kernel_rfl))
  f197 := Tryd.func96.trans (congrArg some (by kernel_rfl))
  f217 := Tryd.func75.trans (congrArg some (by kernel_rfl))
  f218 := Tryd.func46.trans (congrArg some (by kernel_rfl))
  f219 := Tryd.func63.trans (congrArg some (by kernel_rfl))
  f221 := Tryd.func90.trans (congrArg some (by kernel_rfl))
  f224 := Tryd.func77.trans (congrArg some (by kernel_rfl))
  f225 := Tryd.func76.trans (congrArg some (by kernel_rfl))
  f260 := Tryd.func97.trans (congrArg some (by kernel_rfl))
  f266 := Tryd.func87.trans (congrArg some (by kernel_rfl))
  f267 := Tryd.func78.trans (congrArg some (by kernel_rfl))
  f268 := Tryd.func94.trans (congrArg some (by kernel_rfl))
  f314 := Tryd.func88.trans (congrArg some (by kernel_rfl))
  t0 := Tryd.underlying0
  a0 := Tryd.isAgg0
  z0 := Tryd.sizeOf0
  v0 := Tryd.zeroValue0
  t3 := Tryd.underlying3
  a3 := Tryd.isAgg3
  z3 := Tryd.sizeOf3
  v3 := Tryd.zeroValue3
  t4 := Tryd.underlying4
  a4 := Tryd.isAgg4
  z4 := Tryd.sizeOf4
  v4 := Tryd.zeroValue4
  t5 := Tryd.underlying5
  a5 := Tryd.isAgg5
  z5 := Tryd.sizeOf5
  v5 := Tryd.zeroValue5
  t9 := Tryd.underlying9
  a9 := Tryd.isAgg9
  z9 := Tryd.sizeOf9
  v9 := Tryd.zeroValue9
  t21 := Tryd.underlying21
  a21 := Tryd.isAgg21
  z21 := Tryd.sizeOf21
  v21 := Tryd.zeroValue21
  t31 := Tryd.underlying46
  a31 := Tryd.isAgg46
  z31 := Tryd.sizeOf46
  v31 := Tryd.zeroValue46
  t46 := Tryd.underlying91
  a46 := Tryd.isAgg91
  z46 := Tryd.sizeOf91
  v46 := Tryd.zeroValue91
  t51 := Tryd.underlying104
  a51 := Tryd.isAgg104
  z51 := Tryd.sizeOf104
  v51 := Tryd.zeroValue104
  t105 := Tryd.underlying112
  a105 := Tryd.isAgg112
  z105 := Tryd.sizeOf112
  v105 := Tryd.zeroValue112
  t119 := Tryd.underlying114
  a119 := Tryd.isAgg114
  z119 := Tryd.sizeOf114
  t138 := Tryd.underlying116
  a138 := Tryd.isAgg116
  z138 := Tryd.sizeOf116
  v138 := Tryd.zeroValue116
  t139 := Tryd.underlying117
  a139 := Tryd.isAgg117
  z139 := Tryd.sizeOf117
  v139 := Tryd.zeroValue117
  t146 := Tryd.underlying105
  a146 := Tryd.isAgg105
  z146 := Tryd.sizeOf105
  v146 := Tryd.zeroValue105
  g1 := by kernel_rfl
  g3 := by kernel_rfl
  g4 := by kernel_rfl
  i0 := by kernel_rfl
  i3 := by kernel_rfl
  i4 := by kernel_rfl
  i5 := by kernel_rfl
  i9 := by kernel_rfl
  i21 := by kernel_rfl
  i31 := by kernel_rfl
  i46 := by kernel_rfl
  i51 := by kernel_rfl
  i105 := by kernel_rfl
  i138 := by kernel_rfl
  i139 := by kernel_rfl
  i146 := by kernel_rfl
  m1 := by kernel_rfl
  s1_3 := fun w h => Go.Proofs.cell_of_shapedOpen_int (zero := #[.int .i64 0]) (t := 3) h (of_decide_eq_true (by kernel_rfl)) (by kernel_rfl) rfl (by kernel_rfl) (by kernel_rfl) Tryd.underlying3
  m3 := by kernel_rfl
  m4 := by kernel_rfl }
open Go.RowKit Go.Lib in
theorem Tryd.strings_Split_shaped (s sep : ByteArray) (w : World) (h : w.ShapedOpen Tryd.prog) (hs : s.size < 4294967281) (h1 : 1 ≤ sep.size) :
    Calls Tryd.prog 80 #[.string s, .string sep] w fun e w' =>
      e = .returned (.slice (some ⟨w.heap.size, 0, none⟩) (Lib.countB s sep + 1) (Lib.countB s sep + 1)) ∧ w' = w.alloc (.cells ((Lib.splitB sep 0 (Lib.countB s sep) s).map Value.string).toArray 9) := Any.strings_Split_shaped Tryd.laysM146 s sep w h hs h1
end Go.Proofs

/- MaxLen's cell, in a world that is as worlds are. -/
namespace Go.Proofs.YtogmkdhljifbpaaDoor
open Go.ChangeShapes Go.WideShapes Go.ChangeAt Go.RowKit

theorem ml_of {W : World} (h : W.ShapedOpen Tryd.prog) : ML W := by
  obtain ⟨m, hm⟩ := Tryd.laysM146.s1_3 W h
  have hm2 : W.cell? ⟨0, 0, none⟩ = some (.int .i64 m) := hm
  exact ⟨World.block_lt_of_cell? W ⟨0, 0, none⟩ hm2, m, hm2⟩

end Go.Proofs.YtogmkdhljifbpaaDoor

