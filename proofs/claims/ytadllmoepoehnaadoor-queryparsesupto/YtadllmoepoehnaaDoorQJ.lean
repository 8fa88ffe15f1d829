/- QueryParses. -/
import Derived.Test.YtadllmoepoehnaaDoorQI
namespace Go.Proofs.YtadllmoepoehnaaDoor
open Go.RowKit

set_option maxHeartbeats 3200000 in
set_option maxRecDepth 100000 in
theorem queryParses_walk (s : ByteArray) (w : World) (hm : ML w) (hs : s.size ≤ 2000000) :
    Calls Tryd.prog 4 #[.string s] w fun e w' => e = .returned (.bool true) ∧ Below w.heap.size w w' := by
  have HP : Hid (∀ W, Below w.heap.size w W → Calls Tryd.prog 12 #[.string s] W fun e w' => e = .returned (.tuple #[.agg #[.string (prsQ s).service, .string (prsQ s).tag, .string (prsQ s).node, .string (prsQ s).centre], .int .i64 (prsE s)]) ∧ Below W.heap.size W w') := fun W hW => parse_any s W (hm.below hW) (by unfold maxLen; omega)
  have HR : Hid (∀ W, Calls Tryd.prog 13 #[.string s] W fun e w' => e = .returned (.tuple #[.agg #[.string (prsQ s).service, .string (prsQ s).tag, .string (prsQ s).node, .string (prsQ s).centre], .int .i64 (prsE s)]) ∧ Below W.heap.size W w') := fun W => parseOf_any s W hs
  have HB : Hid (∀ W, Below w.heap.size w W → Calls Tryd.prog 8 #[] W fun e w' => e = .returned (.bool true) ∧ Below W.heap.size W w') := fun W hW => queryBegun_any W (hm.below hW)
  generalize prsE s = E at *
  generalize prsQ s = Q at *
  obtain ⟨qs, qt, qn, qc⟩ := Q
  simp only at HP HR
  clear hm hs
  go_enter Tryd.func4, Tryd.ntmps4
  go_wp2_with fail
  refine (HP.out _ (Below.refl _ _)).mono ?_
  rintro e w1 ⟨rfl, hb1⟩
  have HB1 : Hid (Below w.heap.size w w1) := hb1
  clear hb1
  go_wp2_with fail
  refine (HR.out _).mono ?_
  rintro e w2 ⟨rfl, hb2⟩
  obtain ⟨f0, f1, f2, f3, HB2, hl2⟩ := qbox hb2
  clear hb2
  obtain ⟨w3, hw3⟩ : ∃ w3, w3 = w2.alloc (.cells #[.string qs, .string qt, .string qn, .string qc] 23) := ⟨_, rfl⟩
  have hgx : w3.heap[w2.heap.size]? = some (.cells #[.string qs, .string qt, .string qn, .string qc] 23 (0, 0)) := by rw [hw3]; exact heap_alloc_new w2 _
  have HB23 : Hid (Below w2.heap.size w2 w3) := (show Below _ _ _ by rw [hw3]; exact (Below.refl _ _).alloc (Nat.le_refl _) _)
  have hz1 : w.heap.size ≤ w1.heap.size := HB1.out.size
  have HB3 : Hid (Below w.heap.size w w3) := (HB1.out.trans (HB2.out.mono hz1)).trans (HB23.out.mono (by omega))
  have g0 := (HB23.out.cell (p := ⟨w1.heap.size, 0, none⟩) hl2).trans f0
  have g1 := (HB23.out.cell (p := ⟨w1.heap.size, 1, none⟩) hl2).trans f1
  have g2 := (HB23.out.cell (p := ⟨w1.heap.size, 2, none⟩) hl2).trans f2
  have g3 := (HB23.out.cell (p := ⟨w1.heap.size, 3, none⟩) hl2).trans f3
  have hz3 := HB3.out.size
  have x0 : w3.cell? ⟨w2.heap.size, 0, none⟩ = some (.string qs) := cellsAt hgx 0
  have x1 : w3.cell? ⟨w2.heap.size, 1, none⟩ = some (.string qt) := cellsAt hgx 1
  have x2 : w3.cell? ⟨w2.heap.size, 2, none⟩ = some (.string qn) := cellsAt hgx 2
  have x3 : w3.cell? ⟨w2.heap.size, 3, none⟩ = some (.string qc) := cellsAt hgx 3
  have hx : w2.heap.size < w3.heap.size := (Array.getElem?_eq_some_iff.1 hgx).1
  have hy : w1.heap.size < w3.heap.size := Nat.lt_trans hl2 hx
  clear HP HR f0 f1 f2 f3 hgx
  go_wp2_with fail
  rw [← hw3]
  clear hw3
  refine (HB.out _ HB3.out).mono ?_
  rintro e w4 ⟨rfl, hb4⟩
  have a0 := (hb4.cell (p := ⟨w1.heap.size, 0, none⟩) hy).trans g0
  have a1 := (hb4.cell (p := ⟨w1.heap.size, 1, none⟩) hy).trans g1
  have a2 := (hb4.cell (p := ⟨w1.heap.size, 2, none⟩) hy).trans g2
  have a3 := (hb4.cell (p := ⟨w1.heap.size, 3, none⟩) hy).trans g3
  have b0 := (hb4.cell (p := ⟨w2.heap.size, 0, none⟩) hx).trans x0
  have b1 := (hb4.cell (p := ⟨w2.heap.size, 1, none⟩) hx).trans x1
  have b2 := (hb4.cell (p := ⟨w2.heap.size, 2, none⟩) hx).trans x2
  have b3 := (hb4.cell (p := ⟨w2.heap.size, 3, none⟩) hx).trans x3
  have HB4 : Hid (Below w.heap.size w w4) := HB3.out.trans (hb4.mono hz3)
  clear hb4 g0 g1 g2 g3 x0 x1 x2 x3 HB
  go_wp2_with fail
  go_ret
  exact ⟨rfl, HB4.out⟩

end Go.Proofs.YtadllmoepoehnaaDoor
