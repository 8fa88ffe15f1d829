/- The reader: what it holds (IsR), expect, counted. -/
import Derived.Test.YtogmkdhljifbpaaDoorFD
import Derived.Deep.RegionHeld3
import Derived.StillTactics
namespace Go.Proofs.YtogmkdhljifbpaaDoor
open Go.RowKit

/-- At g lies a reader of t that is at a. -/
structure IsR (g : Nat) (t : ByteArray) (a : Nat) (w : World) : Prop where
  c0 : w.cell? ⟨g, 0, none⟩ = some (.string t)
  c1 : w.cell? ⟨g, 1, none⟩ = some (.int .i64 a)
  hz : w.frozen? ⟨g, 1, none⟩ = false
  hg : g < w.heap.size

theorem IsR.move {g a b : Nat} {t : ByteArray} {w w' : World} (h : IsR g t a w) (hx : (w.setCell ⟨g, 1, none⟩ (.int .i64 (b : Int))).Extends w') : IsR g t b w' where
  c0 := by
    refine hx.cell_of ?_
    have := h.c0
    exact (World.cell?_setCell_other _ _ _ _ (by simp)).trans this
  c1 := hx.cell_of (World.cell?_setCell_same _ _ _ h.c1)
  hz := by rw [hx.frozen _ (by simp; exact h.hg)]; simpa using h.hz
  hg := by have := hx.size; simp at this; have := h.hg; omega

set_option maxHeartbeats 1600000 in
set_option maxRecDepth 100000 in
theorem expect_ok (g a n : Nat) (t : ByteArray) (w : World) (h : IsR g t a w) (hs : t.size ≤ 1000) (han : a + n ≤ t.size) (hn : n ≤ 4) :
    Calls Tryd.prog 58 #[.pointer (some ⟨g, 0, none⟩), .int .i64 n, .int .i64 (rnum t a n)] w fun e w' => e = .returned (.tuple #[]) ∧ (w.setCell ⟨g, 1, none⟩ (.int .i64 ((a + n : Nat) : Int))).Extends w' := by
  have HT : Hid (Calls Tryd.prog 56 #[.pointer (some ⟨g, 0, none⟩), .int .i64 n] w fun e w' => e = .returned (.int .i64 (rnum t a n)) ∧ (w.setCell ⟨g, 1, none⟩ (.int .i64 ((a : Int) + (n : Int)))).Extends w') := rnumber_ok g a n t w h.c0 h.c1 h.hz hs han hn
  go_enter Tryd.func58, Tryd.ntmps58
  go_wp2_with fail
  refine HT.out.mono ?_
  rintro e w1 ⟨rfl, hx⟩
  have hX : Hid ((w.setCell ⟨g, 1, none⟩ (.int .i64 ((a + n : Nat) : Int))).Extends w1) := by
    rw [Int.natCast_add]
    exact hx
  clear hx
  go_wp2_with fail
  refine (need_ok _ _).mono ?_
  rintro e w5 ⟨rfl, rfl⟩
  go_wp2_with fail
  simp [bodyPost, results, Tryd.results58]
  simpa using hX.out

set_option maxHeartbeats 1600000 in
set_option maxRecDepth 100000 in
theorem counted_ok (g a : Nat) (t : ByteArray) (w : World) (h : IsR g t a w) (hs : t.size ≤ 1000) (han : a + 1 + rnum t a 1 ≤ t.size) :
    Calls Tryd.prog 73 #[.pointer (some ⟨g, 0, none⟩)] w fun e w' => e = .returned (.string (t.extract (a + 1) (a + 1 + rnum t a 1))) ∧ ∃ w1, (w.setCell ⟨g, 1, none⟩ (.int .i64 ((a + 1 : Nat) : Int))).Extends w1 ∧ (w1.setCell ⟨g, 1, none⟩ (.int .i64 ((a + 1 + rnum t a 1 : Nat) : Int))).Extends w' := by
  have HT : Hid (Calls Tryd.prog 56 #[.pointer (some ⟨g, 0, none⟩), .int .i64 1] w fun e w' => e = .returned (.int .i64 (rnum t a 1)) ∧ (w.setCell ⟨g, 1, none⟩ (.int .i64 ((a : Int) + ((1 : Nat) : Int)))).Extends w') := rnumber_ok g a 1 t w h.c0 h.c1 h.hz hs (by omega) (by omega)
  go_enter Tryd.func73, Tryd.ntmps73
  go_wp2_with fail
  refine HT.out.mono ?_
  rintro e w1 ⟨rfl, hx⟩
  have hX : Hid ((w.setCell ⟨g, 1, none⟩ (.int .i64 ((a + 1 : Nat) : Int))).Extends w1) := by
    rw [Int.natCast_add]
    exact hx
  clear hx
  have h1 := h.move hX.out
  have HT2 : Hid (Calls Tryd.prog 69 #[.pointer (some ⟨g, 0, none⟩), .int .i64 (rnum t a 1 : Nat)] w1 fun e w' => e = .returned (.string (t.extract (a + 1) (a + 1 + rnum t a 1))) ∧ ∃ m, w' = (w1.setCell ⟨g, 1, none⟩ (.int .i64 (((a + 1 : Nat) : Int) + ((rnum t a 1 : Nat) : Int)))).drew.drewN m) := take_ok g (a + 1) (rnum t a 1) t w1 h1.c0 h1.c1 h1.hz hs han
  go_wp2_with fail
  refine HT2.out.mono ?_
  rintro e w2 ⟨rfl, m, rfl⟩
  go_wp2_with fail
  simp [bodyPost, results, Tryd.results73]
  refine ⟨w1, by simpa using hX.out, ?_⟩
  exact ⟨rfl, rfl, rfl, Nat.le_refl _, fun _ _ => rfl, fun _ _ => rfl, fun _ _ => rfl⟩

end Go.Proofs.YtogmkdhljifbpaaDoor
