/- The law CatalogNewer. -/
import Derived.Test.YtjpcngkddejdjaeSKS6
import Derived.Test.YtjpcngkddejdjaeSKS9
namespace Go.Proofs.Ytjpcngkddejdjae
namespace Sv
open Go.RowKit

theorem chkTwo_one (a b : Svc) : chkTwo [a] [b] = if a.e = 0 then b.e else a.e := by rw [chkTwo, chk_one, chk_one]

set_option maxHeartbeats 6400000 in
set_option maxRecDepth 100000 in
theorem catalogNewer_bad1 (a b : Svc) (w : World) (ha : a.ok) (hb : b.ok) (h1 : a.e ≠ 0) :
    Calls Try.prog 4 #[.agg #[.string a.node, .string a.idn, .string a.name, .string a.tag, .int .i64 a.addr, .int .i64 a.port, .bool a.passing, .int .i64 a.version, .bool a.gone], .agg #[.string b.node, .string b.idn, .string b.name, .string b.tag, .int .i64 b.addr, .int .i64 b.port, .bool b.passing, .int .i64 b.version, .bool b.gone]] w fun e w' => e = .returned (.bool true) ∧ Below w.heap.size w w' := by
  have HB0 : Hid (Below w.heap.size w ((w.alloc (.cells #[.string a.node, .string a.idn, .string a.name, .string a.tag, .int .i64 a.addr, .int .i64 a.port, .bool a.passing, .int .i64 a.version, .bool a.gone] 28)).alloc (.cells #[.string b.node, .string b.idn, .string b.name, .string b.tag, .int .i64 b.addr, .int .i64 b.port, .bool b.passing, .int .i64 b.version, .bool b.gone] 28))) := ((Below.refl _ _).alloc (Nat.le_refl _) _).alloc (by simp) _
  have HNW : Hid (∀ W, Calls Try.prog 12 #[.agg #[.string a.node, .string a.idn, .string a.name, .string a.tag, .int .i64 a.addr, .int .i64 a.port, .bool a.passing, .int .i64 a.version, .bool a.gone], .agg #[.string b.node, .string b.idn, .string b.name, .string b.tag, .int .i64 b.addr, .int .i64 b.port, .bool b.passing, .int .i64 b.version, .bool b.gone]] W fun e w' => e = .returned (.tuple #[.bool (nerr a b == 0 && newE a b), .int .i64 (nerr a b)]) ∧ Below W.heap.size W w') := fun W => newer2_any a b W ha hb
  have HA : Hid (∀ W, Calls Try.prog 13 #[.agg #[.string a.node, .string a.idn, .string a.name, .string a.tag, .int .i64 a.addr, .int .i64 a.port, .bool a.passing, .int .i64 a.version, .bool a.gone]] W fun e w' => e = .returned (.int .i64 a.e) ∧ Below W.heap.size W w') := fun W => refOne_any a W ha
  have HBB : Hid (∀ W, Calls Try.prog 13 #[.agg #[.string b.node, .string b.idn, .string b.name, .string b.tag, .int .i64 b.addr, .int .i64 b.port, .bool b.passing, .int .i64 b.version, .bool b.gone]] W fun e w' => e = .returned (.int .i64 b.e) ∧ Below W.heap.size W w') := fun W => refOne_any b W hb
  have HR : Hid (∀ W, Calls Try.prog 14 #[.agg #[.string a.node, .string a.idn, .string a.name, .string a.tag, .int .i64 a.addr, .int .i64 a.port, .bool a.passing, .int .i64 a.version, .bool a.gone], .agg #[.string b.node, .string b.idn, .string b.name, .string b.tag, .int .i64 b.addr, .int .i64 b.port, .bool b.passing, .int .i64 b.version, .bool b.gone]] W fun e w' => e = .returned (.bool (newE a b)) ∧ Below W.heap.size W w') := fun W => newerR_any a b W
  clear ha hb
  have hE : nerr a b = a.e := by
    have h : chkTwo [a] [b] = a.e := by rw [chkTwo_one, if_neg h1]
    rw [nerr, h, if_neg h1]
  rw [hE] at HNW
  have he : (a.e == 0) = false := by simpa using h1
  clear hE h1
  generalize a.e = ae at *
  generalize newE a b = nw at *
  go_enter Try.func4, Try.ntmps4
  go_wp2_with fail
  obtain ⟨W, hW⟩ : ∃ W, W = (w.alloc (.cells #[.string a.node, .string a.idn, .string a.name, .string a.tag, .int .i64 a.addr, .int .i64 a.port, .bool a.passing, .int .i64 a.version, .bool a.gone] 28)).alloc (.cells #[.string b.node, .string b.idn, .string b.name, .string b.tag, .int .i64 b.addr, .int .i64 b.port, .bool b.passing, .int .i64 b.version, .bool b.gone] 28) := ⟨_, rfl⟩
  rw [← hW]
  have hga : W.heap[w.heap.size]? = some (.cells #[.string a.node, .string a.idn, .string a.name, .string a.tag, .int .i64 a.addr, .int .i64 a.port, .bool a.passing, .int .i64 a.version, .bool a.gone] 28 (0, 0)) := by
    rw [hW, Below.heap_alloc _ _ _ (by simp)]; exact heap_alloc_new w _
  have hgb : W.heap[w.heap.size + 1]? = some (.cells #[.string b.node, .string b.idn, .string b.name, .string b.tag, .int .i64 b.addr, .int .i64 b.port, .bool b.passing, .int .i64 b.version, .bool b.gone] 28 (0, 0)) := by
    have h := heap_alloc_new (w.alloc (.cells #[.string a.node, .string a.idn, .string a.name, .string a.tag, .int .i64 a.addr, .int .i64 a.port, .bool a.passing, .int .i64 a.version, .bool a.gone] 28)) (.cells #[.string b.node, .string b.idn, .string b.name, .string b.tag, .int .i64 b.addr, .int .i64 b.port, .bool b.passing, .int .i64 b.version, .bool b.gone] 28)
    rw [hW]; simpa using h
  have hsW : w.heap.size + 1 + 1 ≤ W.heap.size := by rw [hW]; simp
  have HBW : Hid (Below w.heap.size w W) := by rw [hW]; exact HB0.out
  have n0_0 : W.cell? ⟨w.heap.size, 0, none⟩ = some (.string a.node) := cellsAt hga 0
  have n0_1 : W.cell? ⟨w.heap.size, 1, none⟩ = some (.string a.idn) := cellsAt hga 1
  have n0_2 : W.cell? ⟨w.heap.size, 2, none⟩ = some (.string a.name) := cellsAt hga 2
  have n0_3 : W.cell? ⟨w.heap.size, 3, none⟩ = some (.string a.tag) := cellsAt hga 3
  have n0_4 : W.cell? ⟨w.heap.size, 4, none⟩ = some (.int .i64 a.addr) := cellsAt hga 4
  have n0_5 : W.cell? ⟨w.heap.size, 5, none⟩ = some (.int .i64 a.port) := cellsAt hga 5
  have n0_6 : W.cell? ⟨w.heap.size, 6, none⟩ = some (.bool a.passing) := cellsAt hga 6
  have n0_7 : W.cell? ⟨w.heap.size, 7, none⟩ = some (.int .i64 a.version) := cellsAt hga 7
  have n0_8 : W.cell? ⟨w.heap.size, 8, none⟩ = some (.bool a.gone) := cellsAt hga 8
  have m0_0 : W.cell? ⟨w.heap.size + 1, 0, none⟩ = some (.string b.node) := cellsAt hgb 0
  have m0_1 : W.cell? ⟨w.heap.size + 1, 1, none⟩ = some (.string b.idn) := cellsAt hgb 1
  have m0_2 : W.cell? ⟨w.heap.size + 1, 2, none⟩ = some (.string b.name) := cellsAt hgb 2
  have m0_3 : W.cell? ⟨w.heap.size + 1, 3, none⟩ = some (.string b.tag) := cellsAt hgb 3
  have m0_4 : W.cell? ⟨w.heap.size + 1, 4, none⟩ = some (.int .i64 b.addr) := cellsAt hgb 4
  have m0_5 : W.cell? ⟨w.heap.size + 1, 5, none⟩ = some (.int .i64 b.port) := cellsAt hgb 5
  have m0_6 : W.cell? ⟨w.heap.size + 1, 6, none⟩ = some (.bool b.passing) := cellsAt hgb 6
  have m0_7 : W.cell? ⟨w.heap.size + 1, 7, none⟩ = some (.int .i64 b.version) := cellsAt hgb 7
  have m0_8 : W.cell? ⟨w.heap.size + 1, 8, none⟩ = some (.bool b.gone) := cellsAt hgb 8
  clear hga hgb hW
  refine (HNW.out _).mono ?_
  rintro e w1 ⟨rfl, hb1⟩
  have HBW1 : Hid (Below w.heap.size w w1) := HBW.out.trans (hb1.mono HBW.out.size)
  have hs1 : w.heap.size + 1 + 1 ≤ w1.heap.size := by have := hb1.size; omega
  have n1_0 : w1.cell? ⟨w.heap.size, 0, none⟩ = some (.string a.node) := (hb1.cell (p := ⟨w.heap.size, 0, none⟩) (by show w.heap.size < W.heap.size; omega)).trans n0_0
  have n1_1 : w1.cell? ⟨w.heap.size, 1, none⟩ = some (.string a.idn) := (hb1.cell (p := ⟨w.heap.size, 1, none⟩) (by show w.heap.size < W.heap.size; omega)).trans n0_1
  have n1_2 : w1.cell? ⟨w.heap.size, 2, none⟩ = some (.string a.name) := (hb1.cell (p := ⟨w.heap.size, 2, none⟩) (by show w.heap.size < W.heap.size; omega)).trans n0_2
  have n1_3 : w1.cell? ⟨w.heap.size, 3, none⟩ = some (.string a.tag) := (hb1.cell (p := ⟨w.heap.size, 3, none⟩) (by show w.heap.size < W.heap.size; omega)).trans n0_3
  have n1_4 : w1.cell? ⟨w.heap.size, 4, none⟩ = some (.int .i64 a.addr) := (hb1.cell (p := ⟨w.heap.size, 4, none⟩) (by show w.heap.size < W.heap.size; omega)).trans n0_4
  have n1_5 : w1.cell? ⟨w.heap.size, 5, none⟩ = some (.int .i64 a.port) := (hb1.cell (p := ⟨w.heap.size, 5, none⟩) (by show w.heap.size < W.heap.size; omega)).trans n0_5
  have n1_6 : w1.cell? ⟨w.heap.size, 6, none⟩ = some (.bool a.passing) := (hb1.cell (p := ⟨w.heap.size, 6, none⟩) (by show w.heap.size < W.heap.size; omega)).trans n0_6
  have n1_7 : w1.cell? ⟨w.heap.size, 7, none⟩ = some (.int .i64 a.version) := (hb1.cell (p := ⟨w.heap.size, 7, none⟩) (by show w.heap.size < W.heap.size; omega)).trans n0_7
  have n1_8 : w1.cell? ⟨w.heap.size, 8, none⟩ = some (.bool a.gone) := (hb1.cell (p := ⟨w.heap.size, 8, none⟩) (by show w.heap.size < W.heap.size; omega)).trans n0_8
  have m1_0 : w1.cell? ⟨w.heap.size + 1, 0, none⟩ = some (.string b.node) := (hb1.cell (p := ⟨w.heap.size + 1, 0, none⟩) (by show w.heap.size + 1 < W.heap.size; omega)).trans m0_0
  have m1_1 : w1.cell? ⟨w.heap.size + 1, 1, none⟩ = some (.string b.idn) := (hb1.cell (p := ⟨w.heap.size + 1, 1, none⟩) (by show w.heap.size + 1 < W.heap.size; omega)).trans m0_1
  have m1_2 : w1.cell? ⟨w.heap.size + 1, 2, none⟩ = some (.string b.name) := (hb1.cell (p := ⟨w.heap.size + 1, 2, none⟩) (by show w.heap.size + 1 < W.heap.size; omega)).trans m0_2
  have m1_3 : w1.cell? ⟨w.heap.size + 1, 3, none⟩ = some (.string b.tag) := (hb1.cell (p := ⟨w.heap.size + 1, 3, none⟩) (by show w.heap.size + 1 < W.heap.size; omega)).trans m0_3
  have m1_4 : w1.cell? ⟨w.heap.size + 1, 4, none⟩ = some (.int .i64 b.addr) := (hb1.cell (p := ⟨w.heap.size + 1, 4, none⟩) (by show w.heap.size + 1 < W.heap.size; omega)).trans m0_4
  have m1_5 : w1.cell? ⟨w.heap.size + 1, 5, none⟩ = some (.int .i64 b.port) := (hb1.cell (p := ⟨w.heap.size + 1, 5, none⟩) (by show w.heap.size + 1 < W.heap.size; omega)).trans m0_5
  have m1_6 : w1.cell? ⟨w.heap.size + 1, 6, none⟩ = some (.bool b.passing) := (hb1.cell (p := ⟨w.heap.size + 1, 6, none⟩) (by show w.heap.size + 1 < W.heap.size; omega)).trans m0_6
  have m1_7 : w1.cell? ⟨w.heap.size + 1, 7, none⟩ = some (.int .i64 b.version) := (hb1.cell (p := ⟨w.heap.size + 1, 7, none⟩) (by show w.heap.size + 1 < W.heap.size; omega)).trans m0_7
  have m1_8 : w1.cell? ⟨w.heap.size + 1, 8, none⟩ = some (.bool b.gone) := (hb1.cell (p := ⟨w.heap.size + 1, 8, none⟩) (by show w.heap.size + 1 < W.heap.size; omega)).trans m0_8
  clear hb1 n0_0 n0_1 n0_2 n0_3 n0_4 n0_5 n0_6 n0_7 n0_8 m0_0 m0_1 m0_2 m0_3 m0_4 m0_5 m0_6 m0_7 m0_8
  go_wp2_with fail
  refine (HA.out _).mono ?_
  rintro e w2 ⟨rfl, hb2⟩
  have HBW2 : Hid (Below w.heap.size w w2) := HBW1.out.trans (hb2.mono HBW1.out.size)
  have hs2 : w.heap.size + 1 + 1 ≤ w2.heap.size := by have := hb2.size; omega
  have n2_0 : w2.cell? ⟨w.heap.size, 0, none⟩ = some (.string a.node) := (hb2.cell (p := ⟨w.heap.size, 0, none⟩) (by show w.heap.size < w1.heap.size; omega)).trans n1_0
  have n2_1 : w2.cell? ⟨w.heap.size, 1, none⟩ = some (.string a.idn) := (hb2.cell (p := ⟨w.heap.size, 1, none⟩) (by show w.heap.size < w1.heap.size; omega)).trans n1_1
  have n2_2 : w2.cell? ⟨w.heap.size, 2, none⟩ = some (.string a.name) := (hb2.cell (p := ⟨w.heap.size, 2, none⟩) (by show w.heap.size < w1.heap.size; omega)).trans n1_2
  have n2_3 : w2.cell? ⟨w.heap.size, 3, none⟩ = some (.string a.tag) := (hb2.cell (p := ⟨w.heap.size, 3, none⟩) (by show w.heap.size < w1.heap.size; omega)).trans n1_3
  have n2_4 : w2.cell? ⟨w.heap.size, 4, none⟩ = some (.int .i64 a.addr) := (hb2.cell (p := ⟨w.heap.size, 4, none⟩) (by show w.heap.size < w1.heap.size; omega)).trans n1_4
  have n2_5 : w2.cell? ⟨w.heap.size, 5, none⟩ = some (.int .i64 a.port) := (hb2.cell (p := ⟨w.heap.size, 5, none⟩) (by show w.heap.size < w1.heap.size; omega)).trans n1_5
  have n2_6 : w2.cell? ⟨w.heap.size, 6, none⟩ = some (.bool a.passing) := (hb2.cell (p := ⟨w.heap.size, 6, none⟩) (by show w.heap.size < w1.heap.size; omega)).trans n1_6
  have n2_7 : w2.cell? ⟨w.heap.size, 7, none⟩ = some (.int .i64 a.version) := (hb2.cell (p := ⟨w.heap.size, 7, none⟩) (by show w.heap.size < w1.heap.size; omega)).trans n1_7
  have n2_8 : w2.cell? ⟨w.heap.size, 8, none⟩ = some (.bool a.gone) := (hb2.cell (p := ⟨w.heap.size, 8, none⟩) (by show w.heap.size < w1.heap.size; omega)).trans n1_8
  have m2_0 : w2.cell? ⟨w.heap.size + 1, 0, none⟩ = some (.string b.node) := (hb2.cell (p := ⟨w.heap.size + 1, 0, none⟩) (by show w.heap.size + 1 < w1.heap.size; omega)).trans m1_0
  have m2_1 : w2.cell? ⟨w.heap.size + 1, 1, none⟩ = some (.string b.idn) := (hb2.cell (p := ⟨w.heap.size + 1, 1, none⟩) (by show w.heap.size + 1 < w1.heap.size; omega)).trans m1_1
  have m2_2 : w2.cell? ⟨w.heap.size + 1, 2, none⟩ = some (.string b.name) := (hb2.cell (p := ⟨w.heap.size + 1, 2, none⟩) (by show w.heap.size + 1 < w1.heap.size; omega)).trans m1_2
  have m2_3 : w2.cell? ⟨w.heap.size + 1, 3, none⟩ = some (.string b.tag) := (hb2.cell (p := ⟨w.heap.size + 1, 3, none⟩) (by show w.heap.size + 1 < w1.heap.size; omega)).trans m1_3
  have m2_4 : w2.cell? ⟨w.heap.size + 1, 4, none⟩ = some (.int .i64 b.addr) := (hb2.cell (p := ⟨w.heap.size + 1, 4, none⟩) (by show w.heap.size + 1 < w1.heap.size; omega)).trans m1_4
  have m2_5 : w2.cell? ⟨w.heap.size + 1, 5, none⟩ = some (.int .i64 b.port) := (hb2.cell (p := ⟨w.heap.size + 1, 5, none⟩) (by show w.heap.size + 1 < w1.heap.size; omega)).trans m1_5
  have m2_6 : w2.cell? ⟨w.heap.size + 1, 6, none⟩ = some (.bool b.passing) := (hb2.cell (p := ⟨w.heap.size + 1, 6, none⟩) (by show w.heap.size + 1 < w1.heap.size; omega)).trans m1_6
  have m2_7 : w2.cell? ⟨w.heap.size + 1, 7, none⟩ = some (.int .i64 b.version) := (hb2.cell (p := ⟨w.heap.size + 1, 7, none⟩) (by show w.heap.size + 1 < w1.heap.size; omega)).trans m1_7
  have m2_8 : w2.cell? ⟨w.heap.size + 1, 8, none⟩ = some (.bool b.gone) := (hb2.cell (p := ⟨w.heap.size + 1, 8, none⟩) (by show w.heap.size + 1 < w1.heap.size; omega)).trans m1_8
  clear hb2 n1_0 n1_1 n1_2 n1_3 n1_4 n1_5 n1_6 n1_7 n1_8 m1_0 m1_1 m1_2 m1_3 m1_4 m1_5 m1_6 m1_7 m1_8
  go_wp2_with fail
  refine (begun_any _).mono ?_
  rintro e w3 ⟨rfl, hb3⟩
  have HBW3 : Hid (Below w.heap.size w w3) := HBW2.out.trans (hb3.mono HBW2.out.size)
  have hs3 : w.heap.size + 1 + 1 ≤ w3.heap.size := by have := hb3.size; omega
  have n3_0 : w3.cell? ⟨w.heap.size, 0, none⟩ = some (.string a.node) := (hb3.cell (p := ⟨w.heap.size, 0, none⟩) (by show w.heap.size < w2.heap.size; omega)).trans n2_0
  have n3_1 : w3.cell? ⟨w.heap.size, 1, none⟩ = some (.string a.idn) := (hb3.cell (p := ⟨w.heap.size, 1, none⟩) (by show w.heap.size < w2.heap.size; omega)).trans n2_1
  have n3_2 : w3.cell? ⟨w.heap.size, 2, none⟩ = some (.string a.name) := (hb3.cell (p := ⟨w.heap.size, 2, none⟩) (by show w.heap.size < w2.heap.size; omega)).trans n2_2
  have n3_3 : w3.cell? ⟨w.heap.size, 3, none⟩ = some (.string a.tag) := (hb3.cell (p := ⟨w.heap.size, 3, none⟩) (by show w.heap.size < w2.heap.size; omega)).trans n2_3
  have n3_4 : w3.cell? ⟨w.heap.size, 4, none⟩ = some (.int .i64 a.addr) := (hb3.cell (p := ⟨w.heap.size, 4, none⟩) (by show w.heap.size < w2.heap.size; omega)).trans n2_4
  have n3_5 : w3.cell? ⟨w.heap.size, 5, none⟩ = some (.int .i64 a.port) := (hb3.cell (p := ⟨w.heap.size, 5, none⟩) (by show w.heap.size < w2.heap.size; omega)).trans n2_5
  have n3_6 : w3.cell? ⟨w.heap.size, 6, none⟩ = some (.bool a.passing) := (hb3.cell (p := ⟨w.heap.size, 6, none⟩) (by show w.heap.size < w2.heap.size; omega)).trans n2_6
  have n3_7 : w3.cell? ⟨w.heap.size, 7, none⟩ = some (.int .i64 a.version) := (hb3.cell (p := ⟨w.heap.size, 7, none⟩) (by show w.heap.size < w2.heap.size; omega)).trans n2_7
  have n3_8 : w3.cell? ⟨w.heap.size, 8, none⟩ = some (.bool a.gone) := (hb3.cell (p := ⟨w.heap.size, 8, none⟩) (by show w.heap.size < w2.heap.size; omega)).trans n2_8
  have m3_0 : w3.cell? ⟨w.heap.size + 1, 0, none⟩ = some (.string b.node) := (hb3.cell (p := ⟨w.heap.size + 1, 0, none⟩) (by show w.heap.size + 1 < w2.heap.size; omega)).trans m2_0
  have m3_1 : w3.cell? ⟨w.heap.size + 1, 1, none⟩ = some (.string b.idn) := (hb3.cell (p := ⟨w.heap.size + 1, 1, none⟩) (by show w.heap.size + 1 < w2.heap.size; omega)).trans m2_1
  have m3_2 : w3.cell? ⟨w.heap.size + 1, 2, none⟩ = some (.string b.name) := (hb3.cell (p := ⟨w.heap.size + 1, 2, none⟩) (by show w.heap.size + 1 < w2.heap.size; omega)).trans m2_2
  have m3_3 : w3.cell? ⟨w.heap.size + 1, 3, none⟩ = some (.string b.tag) := (hb3.cell (p := ⟨w.heap.size + 1, 3, none⟩) (by show w.heap.size + 1 < w2.heap.size; omega)).trans m2_3
  have m3_4 : w3.cell? ⟨w.heap.size + 1, 4, none⟩ = some (.int .i64 b.addr) := (hb3.cell (p := ⟨w.heap.size + 1, 4, none⟩) (by show w.heap.size + 1 < w2.heap.size; omega)).trans m2_4
  have m3_5 : w3.cell? ⟨w.heap.size + 1, 5, none⟩ = some (.int .i64 b.port) := (hb3.cell (p := ⟨w.heap.size + 1, 5, none⟩) (by show w.heap.size + 1 < w2.heap.size; omega)).trans m2_5
  have m3_6 : w3.cell? ⟨w.heap.size + 1, 6, none⟩ = some (.bool b.passing) := (hb3.cell (p := ⟨w.heap.size + 1, 6, none⟩) (by show w.heap.size + 1 < w2.heap.size; omega)).trans m2_6
  have m3_7 : w3.cell? ⟨w.heap.size + 1, 7, none⟩ = some (.int .i64 b.version) := (hb3.cell (p := ⟨w.heap.size + 1, 7, none⟩) (by show w.heap.size + 1 < w2.heap.size; omega)).trans m2_7
  have m3_8 : w3.cell? ⟨w.heap.size + 1, 8, none⟩ = some (.bool b.gone) := (hb3.cell (p := ⟨w.heap.size + 1, 8, none⟩) (by show w.heap.size + 1 < w2.heap.size; omega)).trans m2_8
  clear hb3 n2_0 n2_1 n2_2 n2_3 n2_4 n2_5 n2_6 n2_7 n2_8 m2_0 m2_1 m2_2 m2_3 m2_4 m2_5 m2_6 m2_7 m2_8
  go_wp2_with fail
  go_ret
  exact ⟨ret_bool (by simp), HBW3.out⟩

set_option maxHeartbeats 6400000 in
set_option maxRecDepth 100000 in
theorem catalogNewer_bad2 (a b : Svc) (w : World) (ha : a.ok) (hb : b.ok) (h1 : a.e = 0) (h2 : b.e ≠ 0) :
    Calls Try.prog 4 #[.agg #[.string a.node, .string a.idn, .string a.name, .string a.tag, .int .i64 a.addr, .int .i64 a.port, .bool a.passing, .int .i64 a.version, .bool a.gone], .agg #[.string b.node, .string b.idn, .string b.name, .string b.tag, .int .i64 b.addr, .int .i64 b.port, .bool b.passing, .int .i64 b.version, .bool b.gone]] w fun e w' => e = .returned (.bool true) ∧ Below w.heap.size w w' := by
  have HB0 : Hid (Below w.heap.size w ((w.alloc (.cells #[.string a.node, .string a.idn, .string a.name, .string a.tag, .int .i64 a.addr, .int .i64 a.port, .bool a.passing, .int .i64 a.version, .bool a.gone] 28)).alloc (.cells #[.string b.node, .string b.idn, .string b.name, .string b.tag, .int .i64 b.addr, .int .i64 b.port, .bool b.passing, .int .i64 b.version, .bool b.gone] 28))) := ((Below.refl _ _).alloc (Nat.le_refl _) _).alloc (by simp) _
  have HNW : Hid (∀ W, Calls Try.prog 12 #[.agg #[.string a.node, .string a.idn, .string a.name, .string a.tag, .int .i64 a.addr, .int .i64 a.port, .bool a.passing, .int .i64 a.version, .bool a.gone], .agg #[.string b.node, .string b.idn, .string b.name, .string b.tag, .int .i64 b.addr, .int .i64 b.port, .bool b.passing, .int .i64 b.version, .bool b.gone]] W fun e w' => e = .returned (.tuple #[.bool (nerr a b == 0 && newE a b), .int .i64 (nerr a b)]) ∧ Below W.heap.size W w') := fun W => newer2_any a b W ha hb
  have HA : Hid (∀ W, Calls Try.prog 13 #[.agg #[.string a.node, .string a.idn, .string a.name, .string a.tag, .int .i64 a.addr, .int .i64 a.port, .bool a.passing, .int .i64 a.version, .bool a.gone]] W fun e w' => e = .returned (.int .i64 a.e) ∧ Below W.heap.size W w') := fun W => refOne_any a W ha
  have HBB : Hid (∀ W, Calls Try.prog 13 #[.agg #[.string b.node, .string b.idn, .string b.name, .string b.tag, .int .i64 b.addr, .int .i64 b.port, .bool b.passing, .int .i64 b.version, .bool b.gone]] W fun e w' => e = .returned (.int .i64 b.e) ∧ Below W.heap.size W w') := fun W => refOne_any b W hb
  have HR : Hid (∀ W, Calls Try.prog 14 #[.agg #[.string a.node, .string a.idn, .string a.name, .string a.tag, .int .i64 a.addr, .int .i64 a.port, .bool a.passing, .int .i64 a.version, .bool a.gone], .agg #[.string b.node, .string b.idn, .string b.name, .string b.tag, .int .i64 b.addr, .int .i64 b.port, .bool b.passing, .int .i64 b.version, .bool b.gone]] W fun e w' => e = .returned (.bool (newE a b)) ∧ Below W.heap.size W w') := fun W => newerR_any a b W
  clear ha hb
  have hE : nerr a b = b.e := by
    have h : chkTwo [a] [b] = b.e := by rw [chkTwo_one, if_pos h1]
    rw [nerr, h, if_neg h2]
  rw [hE] at HNW
  have he2 : (b.e == 0) = false := by simpa using h2
  rw [h1] at HA
  clear hE h1 h2
  generalize b.e = be at *
  generalize newE a b = nw at *
  go_enter Try.func4, Try.ntmps4
  go_wp2_with fail
  obtain ⟨W, hW⟩ : ∃ W, W = (w.alloc (.cells #[.string a.node, .string a.idn, .string a.name, .string a.tag, .int .i64 a.addr, .int .i64 a.port, .bool a.passing, .int .i64 a.version, .bool a.gone] 28)).alloc (.cells #[.string b.node, .string b.idn, .string b.name, .string b.tag, .int .i64 b.addr, .int .i64 b.port, .bool b.passing, .int .i64 b.version, .bool b.gone] 28) := ⟨_, rfl⟩
  rw [← hW]
  have hga : W.heap[w.heap.size]? = some (.cells #[.string a.node, .string a.idn, .string a.name, .string a.tag, .int .i64 a.addr, .int .i64 a.port, .bool a.passing, .int .i64 a.version, .bool a.gone] 28 (0, 0)) := by
    rw [hW, Below.heap_alloc _ _ _ (by simp)]; exact heap_alloc_new w _
  have hgb : W.heap[w.heap.size + 1]? = some (.cells #[.string b.node, .string b.idn, .string b.name, .string b.tag, .int .i64 b.addr, .int .i64 b.port, .bool b.passing, .int .i64 b.version, .bool b.gone] 28 (0, 0)) := by
    have h := heap_alloc_new (w.alloc (.cells #[.string a.node, .string a.idn, .string a.name, .string a.tag, .int .i64 a.addr, .int .i64 a.port, .bool a.passing, .int .i64 a.version, .bool a.gone] 28)) (.cells #[.string b.node, .string b.idn, .string b.name, .string b.tag, .int .i64 b.addr, .int .i64 b.port, .bool b.passing, .int .i64 b.version, .bool b.gone] 28)
    rw [hW]; simpa using h
  have hsW : w.heap.size + 1 + 1 ≤ W.heap.size := by rw [hW]; simp
  have HBW : Hid (Below w.heap.size w W) := by rw [hW]; exact HB0.out
  have n0_0 : W.cell? ⟨w.heap.size, 0, none⟩ = some (.string a.node) := cellsAt hga 0
  have n0_1 : W.cell? ⟨w.heap.size, 1, none⟩ = some (.string a.idn) := cellsAt hga 1
  have n0_2 : W.cell? ⟨w.heap.size, 2, none⟩ = some (.string a.name) := cellsAt hga 2
  have n0_3 : W.cell? ⟨w.heap.size, 3, none⟩ = some (.string a.tag) := cellsAt hga 3
  have n0_4 : W.cell? ⟨w.heap.size, 4, none⟩ = some (.int .i64 a.addr) := cellsAt hga 4
  have n0_5 : W.cell? ⟨w.heap.size, 5, none⟩ = some (.int .i64 a.port) := cellsAt hga 5
  have n0_6 : W.cell? ⟨w.heap.size, 6, none⟩ = some (.bool a.passing) := cellsAt hga 6
  have n0_7 : W.cell? ⟨w.heap.size, 7, none⟩ = some (.int .i64 a.version) := cellsAt hga 7
  have n0_8 : W.cell? ⟨w.heap.size, 8, none⟩ = some (.bool a.gone) := cellsAt hga 8
  have m0_0 : W.cell? ⟨w.heap.size + 1, 0, none⟩ = some (.string b.node) := cellsAt hgb 0
  have m0_1 : W.cell? ⟨w.heap.size + 1, 1, none⟩ = some (.string b.idn) := cellsAt hgb 1
  have m0_2 : W.cell? ⟨w.heap.size + 1, 2, none⟩ = some (.string b.name) := cellsAt hgb 2
  have m0_3 : W.cell? ⟨w.heap.size + 1, 3, none⟩ = some (.string b.tag) := cellsAt hgb 3
  have m0_4 : W.cell? ⟨w.heap.size + 1, 4, none⟩ = some (.int .i64 b.addr) := cellsAt hgb 4
  have m0_5 : W.cell? ⟨w.heap.size + 1, 5, none⟩ = some (.int .i64 b.port) := cellsAt hgb 5
  have m0_6 : W.cell? ⟨w.heap.size + 1, 6, none⟩ = some (.bool b.passing) := cellsAt hgb 6
  have m0_7 : W.cell? ⟨w.heap.size + 1, 7, none⟩ = some (.int .i64 b.version) := cellsAt hgb 7
  have m0_8 : W.cell? ⟨w.heap.size + 1, 8, none⟩ = some (.bool b.gone) := cellsAt hgb 8
  clear hga hgb hW
  refine (HNW.out _).mono ?_
  rintro e w1 ⟨rfl, hb1⟩
  have HBW1 : Hid (Below w.heap.size w w1) := HBW.out.trans (hb1.mono HBW.out.size)
  have hs1 : w.heap.size + 1 + 1 ≤ w1.heap.size := by have := hb1.size; omega
  have n1_0 : w1.cell? ⟨w.heap.size, 0, none⟩ = some (.string a.node) := (hb1.cell (p := ⟨w.heap.size, 0, none⟩) (by show w.heap.size < W.heap.size; omega)).trans n0_0
  have n1_1 : w1.cell? ⟨w.heap.size, 1, none⟩ = some (.string a.idn) := (hb1.cell (p := ⟨w.heap.size, 1, none⟩) (by show w.heap.size < W.heap.size; omega)).trans n0_1
  have n1_2 : w1.cell? ⟨w.heap.size, 2, none⟩ = some (.string a.name) := (hb1.cell (p := ⟨w.heap.size, 2, none⟩) (by show w.heap.size < W.heap.size; omega)).trans n0_2
  have n1_3 : w1.cell? ⟨w.heap.size, 3, none⟩ = some (.string a.tag) := (hb1.cell (p := ⟨w.heap.size, 3, none⟩) (by show w.heap.size < W.heap.size; omega)).trans n0_3
  have n1_4 : w1.cell? ⟨w.heap.size, 4, none⟩ = some (.int .i64 a.addr) := (hb1.cell (p := ⟨w.heap.size, 4, none⟩) (by show w.heap.size < W.heap.size; omega)).trans n0_4
  have n1_5 : w1.cell? ⟨w.heap.size, 5, none⟩ = some (.int .i64 a.port) := (hb1.cell (p := ⟨w.heap.size, 5, none⟩) (by show w.heap.size < W.heap.size; omega)).trans n0_5
  have n1_6 : w1.cell? ⟨w.heap.size, 6, none⟩ = some (.bool a.passing) := (hb1.cell (p := ⟨w.heap.size, 6, none⟩) (by show w.heap.size < W.heap.size; omega)).trans n0_6
  have n1_7 : w1.cell? ⟨w.heap.size, 7, none⟩ = some (.int .i64 a.version) := (hb1.cell (p := ⟨w.heap.size, 7, none⟩) (by show w.heap.size < W.heap.size; omega)).trans n0_7
  have n1_8 : w1.cell? ⟨w.heap.size, 8, none⟩ = some (.bool a.gone) := (hb1.cell (p := ⟨w.heap.size, 8, none⟩) (by show w.heap.size < W.heap.size; omega)).trans n0_8
  have m1_0 : w1.cell? ⟨w.heap.size + 1, 0, none⟩ = some (.string b.node) := (hb1.cell (p := ⟨w.heap.size + 1, 0, none⟩) (by show w.heap.size + 1 < W.heap.size; omega)).trans m0_0
  have m1_1 : w1.cell? ⟨w.heap.size + 1, 1, none⟩ = some (.string b.idn) := (hb1.cell (p := ⟨w.heap.size + 1, 1, none⟩) (by show w.heap.size + 1 < W.heap.size; omega)).trans m0_1
  have m1_2 : w1.cell? ⟨w.heap.size + 1, 2, none⟩ = some (.string b.name) := (hb1.cell (p := ⟨w.heap.size + 1, 2, none⟩) (by show w.heap.size + 1 < W.heap.size; omega)).trans m0_2
  have m1_3 : w1.cell? ⟨w.heap.size + 1, 3, none⟩ = some (.string b.tag) := (hb1.cell (p := ⟨w.heap.size + 1, 3, none⟩) (by show w.heap.size + 1 < W.heap.size; omega)).trans m0_3
  have m1_4 : w1.cell? ⟨w.heap.size + 1, 4, none⟩ = some (.int .i64 b.addr) := (hb1.cell (p := ⟨w.heap.size + 1, 4, none⟩) (by show w.heap.size + 1 < W.heap.size; omega)).trans m0_4
  have m1_5 : w1.cell? ⟨w.heap.size + 1, 5, none⟩ = some (.int .i64 b.port) := (hb1.cell (p := ⟨w.heap.size + 1, 5, none⟩) (by show w.heap.size + 1 < W.heap.size; omega)).trans m0_5
  have m1_6 : w1.cell? ⟨w.heap.size + 1, 6, none⟩ = some (.bool b.passing) := (hb1.cell (p := ⟨w.heap.size + 1, 6, none⟩) (by show w.heap.size + 1 < W.heap.size; omega)).trans m0_6
  have m1_7 : w1.cell? ⟨w.heap.size + 1, 7, none⟩ = some (.int .i64 b.version) := (hb1.cell (p := ⟨w.heap.size + 1, 7, none⟩) (by show w.heap.size + 1 < W.heap.size; omega)).trans m0_7
  have m1_8 : w1.cell? ⟨w.heap.size + 1, 8, none⟩ = some (.bool b.gone) := (hb1.cell (p := ⟨w.heap.size + 1, 8, none⟩) (by show w.heap.size + 1 < W.heap.size; omega)).trans m0_8
  clear hb1 n0_0 n0_1 n0_2 n0_3 n0_4 n0_5 n0_6 n0_7 n0_8 m0_0 m0_1 m0_2 m0_3 m0_4 m0_5 m0_6 m0_7 m0_8
  go_wp2_with fail
  refine (HA.out _).mono ?_
  rintro e w2 ⟨rfl, hb2⟩
  have HBW2 : Hid (Below w.heap.size w w2) := HBW1.out.trans (hb2.mono HBW1.out.size)
  have hs2 : w.heap.size + 1 + 1 ≤ w2.heap.size := by have := hb2.size; omega
  have n2_0 : w2.cell? ⟨w.heap.size, 0, none⟩ = some (.string a.node) := (hb2.cell (p := ⟨w.heap.size, 0, none⟩) (by show w.heap.size < w1.heap.size; omega)).trans n1_0
  have n2_1 : w2.cell? ⟨w.heap.size, 1, none⟩ = some (.string a.idn) := (hb2.cell (p := ⟨w.heap.size, 1, none⟩) (by show w.heap.size < w1.heap.size; omega)).trans n1_1
  have n2_2 : w2.cell? ⟨w.heap.size, 2, none⟩ = some (.string a.name) := (hb2.cell (p := ⟨w.heap.size, 2, none⟩) (by show w.heap.size < w1.heap.size; omega)).trans n1_2
  have n2_3 : w2.cell? ⟨w.heap.size, 3, none⟩ = some (.string a.tag) := (hb2.cell (p := ⟨w.heap.size, 3, none⟩) (by show w.heap.size < w1.heap.size; omega)).trans n1_3
  have n2_4 : w2.cell? ⟨w.heap.size, 4, none⟩ = some (.int .i64 a.addr) := (hb2.cell (p := ⟨w.heap.size, 4, none⟩) (by show w.heap.size < w1.heap.size; omega)).trans n1_4
  have n2_5 : w2.cell? ⟨w.heap.size, 5, none⟩ = some (.int .i64 a.port) := (hb2.cell (p := ⟨w.heap.size, 5, none⟩) (by show w.heap.size < w1.heap.size; omega)).trans n1_5
  have n2_6 : w2.cell? ⟨w.heap.size, 6, none⟩ = some (.bool a.passing) := (hb2.cell (p := ⟨w.heap.size, 6, none⟩) (by show w.heap.size < w1.heap.size; omega)).trans n1_6
  have n2_7 : w2.cell? ⟨w.heap.size, 7, none⟩ = some (.int .i64 a.version) := (hb2.cell (p := ⟨w.heap.size, 7, none⟩) (by show w.heap.size < w1.heap.size; omega)).trans n1_7
  have n2_8 : w2.cell? ⟨w.heap.size, 8, none⟩ = some (.bool a.gone) := (hb2.cell (p := ⟨w.heap.size, 8, none⟩) (by show w.heap.size < w1.heap.size; omega)).trans n1_8
  have m2_0 : w2.cell? ⟨w.heap.size + 1, 0, none⟩ = some (.string b.node) := (hb2.cell (p := ⟨w.heap.size + 1, 0, none⟩) (by show w.heap.size + 1 < w1.heap.size; omega)).trans m1_0
  have m2_1 : w2.cell? ⟨w.heap.size + 1, 1, none⟩ = some (.string b.idn) := (hb2.cell (p := ⟨w.heap.size + 1, 1, none⟩) (by show w.heap.size + 1 < w1.heap.size; omega)).trans m1_1
  have m2_2 : w2.cell? ⟨w.heap.size + 1, 2, none⟩ = some (.string b.name) := (hb2.cell (p := ⟨w.heap.size + 1, 2, none⟩) (by show w.heap.size + 1 < w1.heap.size; omega)).trans m1_2
  have m2_3 : w2.cell? ⟨w.heap.size + 1, 3, none⟩ = some (.string b.tag) := (hb2.cell (p := ⟨w.heap.size + 1, 3, none⟩) (by show w.heap.size + 1 < w1.heap.size; omega)).trans m1_3
  have m2_4 : w2.cell? ⟨w.heap.size + 1, 4, none⟩ = some (.int .i64 b.addr) := (hb2.cell (p := ⟨w.heap.size + 1, 4, none⟩) (by show w.heap.size + 1 < w1.heap.size; omega)).trans m1_4
  have m2_5 : w2.cell? ⟨w.heap.size + 1, 5, none⟩ = some (.int .i64 b.port) := (hb2.cell (p := ⟨w.heap.size + 1, 5, none⟩) (by show w.heap.size + 1 < w1.heap.size; omega)).trans m1_5
  have m2_6 : w2.cell? ⟨w.heap.size + 1, 6, none⟩ = some (.bool b.passing) := (hb2.cell (p := ⟨w.heap.size + 1, 6, none⟩) (by show w.heap.size + 1 < w1.heap.size; omega)).trans m1_6
  have m2_7 : w2.cell? ⟨w.heap.size + 1, 7, none⟩ = some (.int .i64 b.version) := (hb2.cell (p := ⟨w.heap.size + 1, 7, none⟩) (by show w.heap.size + 1 < w1.heap.size; omega)).trans m1_7
  have m2_8 : w2.cell? ⟨w.heap.size + 1, 8, none⟩ = some (.bool b.gone) := (hb2.cell (p := ⟨w.heap.size + 1, 8, none⟩) (by show w.heap.size + 1 < w1.heap.size; omega)).trans m1_8
  clear hb2 n1_0 n1_1 n1_2 n1_3 n1_4 n1_5 n1_6 n1_7 n1_8 m1_0 m1_1 m1_2 m1_3 m1_4 m1_5 m1_6 m1_7 m1_8
  go_wp2_with fail
  refine (HBB.out _).mono ?_
  rintro e w3 ⟨rfl, hb3⟩
  have HBW3 : Hid (Below w.heap.size w w3) := HBW2.out.trans (hb3.mono HBW2.out.size)
  have hs3 : w.heap.size + 1 + 1 ≤ w3.heap.size := by have := hb3.size; omega
  have n3_0 : w3.cell? ⟨w.heap.size, 0, none⟩ = some (.string a.node) := (hb3.cell (p := ⟨w.heap.size, 0, none⟩) (by show w.heap.size < w2.heap.size; omega)).trans n2_0
  have n3_1 : w3.cell? ⟨w.heap.size, 1, none⟩ = some (.string a.idn) := (hb3.cell (p := ⟨w.heap.size, 1, none⟩) (by show w.heap.size < w2.heap.size; omega)).trans n2_1
  have n3_2 : w3.cell? ⟨w.heap.size, 2, none⟩ = some (.string a.name) := (hb3.cell (p := ⟨w.heap.size, 2, none⟩) (by show w.heap.size < w2.heap.size; omega)).trans n2_2
  have n3_3 : w3.cell? ⟨w.heap.size, 3, none⟩ = some (.string a.tag) := (hb3.cell (p := ⟨w.heap.size, 3, none⟩) (by show w.heap.size < w2.heap.size; omega)).trans n2_3
  have n3_4 : w3.cell? ⟨w.heap.size, 4, none⟩ = some (.int .i64 a.addr) := (hb3.cell (p := ⟨w.heap.size, 4, none⟩) (by show w.heap.size < w2.heap.size; omega)).trans n2_4
  have n3_5 : w3.cell? ⟨w.heap.size, 5, none⟩ = some (.int .i64 a.port) := (hb3.cell (p := ⟨w.heap.size, 5, none⟩) (by show w.heap.size < w2.heap.size; omega)).trans n2_5
  have n3_6 : w3.cell? ⟨w.heap.size, 6, none⟩ = some (.bool a.passing) := (hb3.cell (p := ⟨w.heap.size, 6, none⟩) (by show w.heap.size < w2.heap.size; omega)).trans n2_6
  have n3_7 : w3.cell? ⟨w.heap.size, 7, none⟩ = some (.int .i64 a.version) := (hb3.cell (p := ⟨w.heap.size, 7, none⟩) (by show w.heap.size < w2.heap.size; omega)).trans n2_7
  have n3_8 : w3.cell? ⟨w.heap.size, 8, none⟩ = some (.bool a.gone) := (hb3.cell (p := ⟨w.heap.size, 8, none⟩) (by show w.heap.size < w2.heap.size; omega)).trans n2_8
  have m3_0 : w3.cell? ⟨w.heap.size + 1, 0, none⟩ = some (.string b.node) := (hb3.cell (p := ⟨w.heap.size + 1, 0, none⟩) (by show w.heap.size + 1 < w2.heap.size; omega)).trans m2_0
  have m3_1 : w3.cell? ⟨w.heap.size + 1, 1, none⟩ = some (.string b.idn) := (hb3.cell (p := ⟨w.heap.size + 1, 1, none⟩) (by show w.heap.size + 1 < w2.heap.size; omega)).trans m2_1
  have m3_2 : w3.cell? ⟨w.heap.size + 1, 2, none⟩ = some (.string b.name) := (hb3.cell (p := ⟨w.heap.size + 1, 2, none⟩) (by show w.heap.size + 1 < w2.heap.size; omega)).trans m2_2
  have m3_3 : w3.cell? ⟨w.heap.size + 1, 3, none⟩ = some (.string b.tag) := (hb3.cell (p := ⟨w.heap.size + 1, 3, none⟩) (by show w.heap.size + 1 < w2.heap.size; omega)).trans m2_3
  have m3_4 : w3.cell? ⟨w.heap.size + 1, 4, none⟩ = some (.int .i64 b.addr) := (hb3.cell (p := ⟨w.heap.size + 1, 4, none⟩) (by show w.heap.size + 1 < w2.heap.size; omega)).trans m2_4
  have m3_5 : w3.cell? ⟨w.heap.size + 1, 5, none⟩ = some (.int .i64 b.port) := (hb3.cell (p := ⟨w.heap.size + 1, 5, none⟩) (by show w.heap.size + 1 < w2.heap.size; omega)).trans m2_5
  have m3_6 : w3.cell? ⟨w.heap.size + 1, 6, none⟩ = some (.bool b.passing) := (hb3.cell (p := ⟨w.heap.size + 1, 6, none⟩) (by show w.heap.size + 1 < w2.heap.size; omega)).trans m2_6
  have m3_7 : w3.cell? ⟨w.heap.size + 1, 7, none⟩ = some (.int .i64 b.version) := (hb3.cell (p := ⟨w.heap.size + 1, 7, none⟩) (by show w.heap.size + 1 < w2.heap.size; omega)).trans m2_7
  have m3_8 : w3.cell? ⟨w.heap.size + 1, 8, none⟩ = some (.bool b.gone) := (hb3.cell (p := ⟨w.heap.size + 1, 8, none⟩) (by show w.heap.size + 1 < w2.heap.size; omega)).trans m2_8
  clear hb3 n2_0 n2_1 n2_2 n2_3 n2_4 n2_5 n2_6 n2_7 n2_8 m2_0 m2_1 m2_2 m2_3 m2_4 m2_5 m2_6 m2_7 m2_8
  go_wp2_with fail
  refine (begun_any _).mono ?_
  rintro e w4 ⟨rfl, hb4⟩
  have HBW4 : Hid (Below w.heap.size w w4) := HBW3.out.trans (hb4.mono HBW3.out.size)
  have hs4 : w.heap.size + 1 + 1 ≤ w4.heap.size := by have := hb4.size; omega
  have n4_0 : w4.cell? ⟨w.heap.size, 0, none⟩ = some (.string a.node) := (hb4.cell (p := ⟨w.heap.size, 0, none⟩) (by show w.heap.size < w3.heap.size; omega)).trans n3_0
  have n4_1 : w4.cell? ⟨w.heap.size, 1, none⟩ = some (.string a.idn) := (hb4.cell (p := ⟨w.heap.size, 1, none⟩) (by show w.heap.size < w3.heap.size; omega)).trans n3_1
  have n4_2 : w4.cell? ⟨w.heap.size, 2, none⟩ = some (.string a.name) := (hb4.cell (p := ⟨w.heap.size, 2, none⟩) (by show w.heap.size < w3.heap.size; omega)).trans n3_2
  have n4_3 : w4.cell? ⟨w.heap.size, 3, none⟩ = some (.string a.tag) := (hb4.cell (p := ⟨w.heap.size, 3, none⟩) (by show w.heap.size < w3.heap.size; omega)).trans n3_3
  have n4_4 : w4.cell? ⟨w.heap.size, 4, none⟩ = some (.int .i64 a.addr) := (hb4.cell (p := ⟨w.heap.size, 4, none⟩) (by show w.heap.size < w3.heap.size; omega)).trans n3_4
  have n4_5 : w4.cell? ⟨w.heap.size, 5, none⟩ = some (.int .i64 a.port) := (hb4.cell (p := ⟨w.heap.size, 5, none⟩) (by show w.heap.size < w3.heap.size; omega)).trans n3_5
  have n4_6 : w4.cell? ⟨w.heap.size, 6, none⟩ = some (.bool a.passing) := (hb4.cell (p := ⟨w.heap.size, 6, none⟩) (by show w.heap.size < w3.heap.size; omega)).trans n3_6
  have n4_7 : w4.cell? ⟨w.heap.size, 7, none⟩ = some (.int .i64 a.version) := (hb4.cell (p := ⟨w.heap.size, 7, none⟩) (by show w.heap.size < w3.heap.size; omega)).trans n3_7
  have n4_8 : w4.cell? ⟨w.heap.size, 8, none⟩ = some (.bool a.gone) := (hb4.cell (p := ⟨w.heap.size, 8, none⟩) (by show w.heap.size < w3.heap.size; omega)).trans n3_8
  have m4_0 : w4.cell? ⟨w.heap.size + 1, 0, none⟩ = some (.string b.node) := (hb4.cell (p := ⟨w.heap.size + 1, 0, none⟩) (by show w.heap.size + 1 < w3.heap.size; omega)).trans m3_0
  have m4_1 : w4.cell? ⟨w.heap.size + 1, 1, none⟩ = some (.string b.idn) := (hb4.cell (p := ⟨w.heap.size + 1, 1, none⟩) (by show w.heap.size + 1 < w3.heap.size; omega)).trans m3_1
  have m4_2 : w4.cell? ⟨w.heap.size + 1, 2, none⟩ = some (.string b.name) := (hb4.cell (p := ⟨w.heap.size + 1, 2, none⟩) (by show w.heap.size + 1 < w3.heap.size; omega)).trans m3_2
  have m4_3 : w4.cell? ⟨w.heap.size + 1, 3, none⟩ = some (.string b.tag) := (hb4.cell (p := ⟨w.heap.size + 1, 3, none⟩) (by show w.heap.size + 1 < w3.heap.size; omega)).trans m3_3
  have m4_4 : w4.cell? ⟨w.heap.size + 1, 4, none⟩ = some (.int .i64 b.addr) := (hb4.cell (p := ⟨w.heap.size + 1, 4, none⟩) (by show w.heap.size + 1 < w3.heap.size; omega)).trans m3_4
  have m4_5 : w4.cell? ⟨w.heap.size + 1, 5, none⟩ = some (.int .i64 b.port) := (hb4.cell (p := ⟨w.heap.size + 1, 5, none⟩) (by show w.heap.size + 1 < w3.heap.size; omega)).trans m3_5
  have m4_6 : w4.cell? ⟨w.heap.size + 1, 6, none⟩ = some (.bool b.passing) := (hb4.cell (p := ⟨w.heap.size + 1, 6, none⟩) (by show w.heap.size + 1 < w3.heap.size; omega)).trans m3_6
  have m4_7 : w4.cell? ⟨w.heap.size + 1, 7, none⟩ = some (.int .i64 b.version) := (hb4.cell (p := ⟨w.heap.size + 1, 7, none⟩) (by show w.heap.size + 1 < w3.heap.size; omega)).trans m3_7
  have m4_8 : w4.cell? ⟨w.heap.size + 1, 8, none⟩ = some (.bool b.gone) := (hb4.cell (p := ⟨w.heap.size + 1, 8, none⟩) (by show w.heap.size + 1 < w3.heap.size; omega)).trans m3_8
  clear hb4 n3_0 n3_1 n3_2 n3_3 n3_4 n3_5 n3_6 n3_7 n3_8 m3_0 m3_1 m3_2 m3_3 m3_4 m3_5 m3_6 m3_7 m3_8
  go_wp2_with fail
  go_ret
  exact ⟨ret_bool (by simp), HBW4.out⟩

set_option maxHeartbeats 6400000 in
set_option maxRecDepth 100000 in
theorem catalogNewer_node (a b : Svc) (w : World) (ha : a.ok) (hb : b.ok) (h1 : a.e = 0) (h2 : b.e = 0) (hn : a.node ≠ b.node) :
    Calls Try.prog 4 #[.agg #[.string a.node, .string a.idn, .string a.name, .string a.tag, .int .i64 a.addr, .int .i64 a.port, .bool a.passing, .int .i64 a.version, .bool a.gone], .agg #[.string b.node, .string b.idn, .string b.name, .string b.tag, .int .i64 b.addr, .int .i64 b.port, .bool b.passing, .int .i64 b.version, .bool b.gone]] w fun e w' => e = .returned (.bool true) ∧ Below w.heap.size w w' := by
  have HB0 : Hid (Below w.heap.size w ((w.alloc (.cells #[.string a.node, .string a.idn, .string a.name, .string a.tag, .int .i64 a.addr, .int .i64 a.port, .bool a.passing, .int .i64 a.version, .bool a.gone] 28)).alloc (.cells #[.string b.node, .string b.idn, .string b.name, .string b.tag, .int .i64 b.addr, .int .i64 b.port, .bool b.passing, .int .i64 b.version, .bool b.gone] 28))) := ((Below.refl _ _).alloc (Nat.le_refl _) _).alloc (by simp) _
  have HNW : Hid (∀ W, Calls Try.prog 12 #[.agg #[.string a.node, .string a.idn, .string a.name, .string a.tag, .int .i64 a.addr, .int .i64 a.port, .bool a.passing, .int .i64 a.version, .bool a.gone], .agg #[.string b.node, .string b.idn, .string b.name, .string b.tag, .int .i64 b.addr, .int .i64 b.port, .bool b.passing, .int .i64 b.version, .bool b.gone]] W fun e w' => e = .returned (.tuple #[.bool (nerr a b == 0 && newE a b), .int .i64 (nerr a b)]) ∧ Below W.heap.size W w') := fun W => newer2_any a b W ha hb
  have HA : Hid (∀ W, Calls Try.prog 13 #[.agg #[.string a.node, .string a.idn, .string a.name, .string a.tag, .int .i64 a.addr, .int .i64 a.port, .bool a.passing, .int .i64 a.version, .bool a.gone]] W fun e w' => e = .returned (.int .i64 a.e) ∧ Below W.heap.size W w') := fun W => refOne_any a W ha
  have HBB : Hid (∀ W, Calls Try.prog 13 #[.agg #[.string b.node, .string b.idn, .string b.name, .string b.tag, .int .i64 b.addr, .int .i64 b.port, .bool b.passing, .int .i64 b.version, .bool b.gone]] W fun e w' => e = .returned (.int .i64 b.e) ∧ Below W.heap.size W w') := fun W => refOne_any b W hb
  have HR : Hid (∀ W, Calls Try.prog 14 #[.agg #[.string a.node, .string a.idn, .string a.name, .string a.tag, .int .i64 a.addr, .int .i64 a.port, .bool a.passing, .int .i64 a.version, .bool a.gone], .agg #[.string b.node, .string b.idn, .string b.name, .string b.tag, .int .i64 b.addr, .int .i64 b.port, .bool b.passing, .int .i64 b.version, .bool b.gone]] W fun e w' => e = .returned (.bool (newE a b)) ∧ Below W.heap.size W w') := fun W => newerR_any a b W
  clear ha hb
  have hE : nerr a b = 4 := by
    have h : chkTwo [a] [b] = 0 := by rw [chkTwo_one, if_pos h1]; exact h2
    rw [nerr, if_pos h, if_neg (fun h => hn (ord_zero.1 h).1)]
  rw [hE] at HNW
  rw [h1] at HA
  rw [h2] at HBB
  obtain ⟨hn1, hn2⟩ := beq_name hn
  clear hE h1 h2 hn
  generalize newE a b = nw at *
  go_enter Try.func4, Try.ntmps4
  go_wp2_with fail
  obtain ⟨W, hW⟩ : ∃ W, W = (w.alloc (.cells #[.string a.node, .string a.idn, .string a.name, .string a.tag, .int .i64 a.addr, .int .i64 a.port, .bool a.passing, .int .i64 a.version, .bool a.gone] 28)).alloc (.cells #[.string b.node, .string b.idn, .string b.name, .string b.tag, .int .i64 b.addr, .int .i64 b.port, .bool b.passing, .int .i64 b.version, .bool b.gone] 28) := ⟨_, rfl⟩
  rw [← hW]
  have hga : W.heap[w.heap.size]? = some (.cells #[.string a.node, .string a.idn, .string a.name, .string a.tag, .int .i64 a.addr, .int .i64 a.port, .bool a.passing, .int .i64 a.version, .bool a.gone] 28 (0, 0)) := by
    rw [hW, Below.heap_alloc _ _ _ (by simp)]; exact heap_alloc_new w _
  have hgb : W.heap[w.heap.size + 1]? = some (.cells #[.string b.node, .string b.idn, .string b.name, .string b.tag, .int .i64 b.addr, .int .i64 b.port, .bool b.passing, .int .i64 b.version, .bool b.gone] 28 (0, 0)) := by
    have h := heap_alloc_new (w.alloc (.cells #[.string a.node, .string a.idn, .string a.name, .string a.tag, .int .i64 a.addr, .int .i64 a.port, .bool a.passing, .int .i64 a.version, .bool a.gone] 28)) (.cells #[.string b.node, .string b.idn, .string b.name, .string b.tag, .int .i64 b.addr, .int .i64 b.port, .bool b.passing, .int .i64 b.version, .bool b.gone] 28)
    rw [hW]; simpa using h
  have hsW : w.heap.size + 1 + 1 ≤ W.heap.size := by rw [hW]; simp
  have HBW : Hid (Below w.heap.size w W) := by rw [hW]; exact HB0.out
  have n0_0 : W.cell? ⟨w.heap.size, 0, none⟩ = some (.string a.node) := cellsAt hga 0
  have n0_1 : W.cell? ⟨w.heap.size, 1, none⟩ = some (.string a.idn) := cellsAt hga 1
  have n0_2 : W.cell? ⟨w.heap.size, 2, none⟩ = some (.string a.name) := cellsAt hga 2
  have n0_3 : W.cell? ⟨w.heap.size, 3, none⟩ = some (.string a.tag) := cellsAt hga 3
  have n0_4 : W.cell? ⟨w.heap.size, 4, none⟩ = some (.int .i64 a.addr) := cellsAt hga 4
  have n0_5 : W.cell? ⟨w.heap.size, 5, none⟩ = some (.int .i64 a.port) := cellsAt hga 5
  have n0_6 : W.cell? ⟨w.heap.size, 6, none⟩ = some (.bool a.passing) := cellsAt hga 6
  have n0_7 : W.cell? ⟨w.heap.size, 7, none⟩ = some (.int .i64 a.version) := cellsAt hga 7
  have n0_8 : W.cell? ⟨w.heap.size, 8, none⟩ = some (.bool a.gone) := cellsAt hga 8
  have m0_0 : W.cell? ⟨w.heap.size + 1, 0, none⟩ = some (.string b.node) := cellsAt hgb 0
  have m0_1 : W.cell? ⟨w.heap.size + 1, 1, none⟩ = some (.string b.idn) := cellsAt hgb 1
  have m0_2 : W.cell? ⟨w.heap.size + 1, 2, none⟩ = some (.string b.name) := cellsAt hgb 2
  have m0_3 : W.cell? ⟨w.heap.size + 1, 3, none⟩ = some (.string b.tag) := cellsAt hgb 3
  have m0_4 : W.cell? ⟨w.heap.size + 1, 4, none⟩ = some (.int .i64 b.addr) := cellsAt hgb 4
  have m0_5 : W.cell? ⟨w.heap.size + 1, 5, none⟩ = some (.int .i64 b.port) := cellsAt hgb 5
  have m0_6 : W.cell? ⟨w.heap.size + 1, 6, none⟩ = some (.bool b.passing) := cellsAt hgb 6
  have m0_7 : W.cell? ⟨w.heap.size + 1, 7, none⟩ = some (.int .i64 b.version) := cellsAt hgb 7
  have m0_8 : W.cell? ⟨w.heap.size + 1, 8, none⟩ = some (.bool b.gone) := cellsAt hgb 8
  clear hga hgb hW
  refine (HNW.out _).mono ?_
  rintro e w1 ⟨rfl, hb1⟩
  have HBW1 : Hid (Below w.heap.size w w1) := HBW.out.trans (hb1.mono HBW.out.size)
  have hs1 : w.heap.size + 1 + 1 ≤ w1.heap.size := by have := hb1.size; omega
  have n1_0 : w1.cell? ⟨w.heap.size, 0, none⟩ = some (.string a.node) := (hb1.cell (p := ⟨w.heap.size, 0, none⟩) (by show w.heap.size < W.heap.size; omega)).trans n0_0
  have n1_1 : w1.cell? ⟨w.heap.size, 1, none⟩ = some (.string a.idn) := (hb1.cell (p := ⟨w.heap.size, 1, none⟩) (by show w.heap.size < W.heap.size; omega)).trans n0_1
  have n1_2 : w1.cell? ⟨w.heap.size, 2, none⟩ = some (.string a.name) := (hb1.cell (p := ⟨w.heap.size, 2, none⟩) (by show w.heap.size < W.heap.size; omega)).trans n0_2
  have n1_3 : w1.cell? ⟨w.heap.size, 3, none⟩ = some (.string a.tag) := (hb1.cell (p := ⟨w.heap.size, 3, none⟩) (by show w.heap.size < W.heap.size; omega)).trans n0_3
  have n1_4 : w1.cell? ⟨w.heap.size, 4, none⟩ = some (.int .i64 a.addr) := (hb1.cell (p := ⟨w.heap.size, 4, none⟩) (by show w.heap.size < W.heap.size; omega)).trans n0_4
  have n1_5 : w1.cell? ⟨w.heap.size, 5, none⟩ = some (.int .i64 a.port) := (hb1.cell (p := ⟨w.heap.size, 5, none⟩) (by show w.heap.size < W.heap.size; omega)).trans n0_5
  have n1_6 : w1.cell? ⟨w.heap.size, 6, none⟩ = some (.bool a.passing) := (hb1.cell (p := ⟨w.heap.size, 6, none⟩) (by show w.heap.size < W.heap.size; omega)).trans n0_6
  have n1_7 : w1.cell? ⟨w.heap.size, 7, none⟩ = some (.int .i64 a.version) := (hb1.cell (p := ⟨w.heap.size, 7, none⟩) (by show w.heap.size < W.heap.size; omega)).trans n0_7
  have n1_8 : w1.cell? ⟨w.heap.size, 8, none⟩ = some (.bool a.gone) := (hb1.cell (p := ⟨w.heap.size, 8, none⟩) (by show w.heap.size < W.heap.size; omega)).trans n0_8
  have m1_0 : w1.cell? ⟨w.heap.size + 1, 0, none⟩ = some (.string b.node) := (hb1.cell (p := ⟨w.heap.size + 1, 0, none⟩) (by show w.heap.size + 1 < W.heap.size; omega)).trans m0_0
  have m1_1 : w1.cell? ⟨w.heap.size + 1, 1, none⟩ = some (.string b.idn) := (hb1.cell (p := ⟨w.heap.size + 1, 1, none⟩) (by show w.heap.size + 1 < W.heap.size; omega)).trans m0_1
  have m1_2 : w1.cell? ⟨w.heap.size + 1, 2, none⟩ = some (.string b.name) := (hb1.cell (p := ⟨w.heap.size + 1, 2, none⟩) (by show w.heap.size + 1 < W.heap.size; omega)).trans m0_2
  have m1_3 : w1.cell? ⟨w.heap.size + 1, 3, none⟩ = some (.string b.tag) := (hb1.cell (p := ⟨w.heap.size + 1, 3, none⟩) (by show w.heap.size + 1 < W.heap.size; omega)).trans m0_3
  have m1_4 : w1.cell? ⟨w.heap.size + 1, 4, none⟩ = some (.int .i64 b.addr) := (hb1.cell (p := ⟨w.heap.size + 1, 4, none⟩) (by show w.heap.size + 1 < W.heap.size; omega)).trans m0_4
  have m1_5 : w1.cell? ⟨w.heap.size + 1, 5, none⟩ = some (.int .i64 b.port) := (hb1.cell (p := ⟨w.heap.size + 1, 5, none⟩) (by show w.heap.size + 1 < W.heap.size; omega)).trans m0_5
  have m1_6 : w1.cell? ⟨w.heap.size + 1, 6, none⟩ = some (.bool b.passing) := (hb1.cell (p := ⟨w.heap.size + 1, 6, none⟩) (by show w.heap.size + 1 < W.heap.size; omega)).trans m0_6
  have m1_7 : w1.cell? ⟨w.heap.size + 1, 7, none⟩ = some (.int .i64 b.version) := (hb1.cell (p := ⟨w.heap.size + 1, 7, none⟩) (by show w.heap.size + 1 < W.heap.size; omega)).trans m0_7
  have m1_8 : w1.cell? ⟨w.heap.size + 1, 8, none⟩ = some (.bool b.gone) := (hb1.cell (p := ⟨w.heap.size + 1, 8, none⟩) (by show w.heap.size + 1 < W.heap.size; omega)).trans m0_8
  clear hb1 n0_0 n0_1 n0_2 n0_3 n0_4 n0_5 n0_6 n0_7 n0_8 m0_0 m0_1 m0_2 m0_3 m0_4 m0_5 m0_6 m0_7 m0_8
  go_wp2_with fail
  refine (HA.out _).mono ?_
  rintro e w2 ⟨rfl, hb2⟩
  have HBW2 : Hid (Below w.heap.size w w2) := HBW1.out.trans (hb2.mono HBW1.out.size)
  have hs2 : w.heap.size + 1 + 1 ≤ w2.heap.size := by have := hb2.size; omega
  have n2_0 : w2.cell? ⟨w.heap.size, 0, none⟩ = some (.string a.node) := (hb2.cell (p := ⟨w.heap.size, 0, none⟩) (by show w.heap.size < w1.heap.size; omega)).trans n1_0
  have n2_1 : w2.cell? ⟨w.heap.size, 1, none⟩ = some (.string a.idn) := (hb2.cell (p := ⟨w.heap.size, 1, none⟩) (by show w.heap.size < w1.heap.size; omega)).trans n1_1
  have n2_2 : w2.cell? ⟨w.heap.size, 2, none⟩ = some (.string a.name) := (hb2.cell (p := ⟨w.heap.size, 2, none⟩) (by show w.heap.size < w1.heap.size; omega)).trans n1_2
  have n2_3 : w2.cell? ⟨w.heap.size, 3, none⟩ = some (.string a.tag) := (hb2.cell (p := ⟨w.heap.size, 3, none⟩) (by show w.heap.size < w1.heap.size; omega)).trans n1_3
  have n2_4 : w2.cell? ⟨w.heap.size, 4, none⟩ = some (.int .i64 a.addr) := (hb2.cell (p := ⟨w.heap.size, 4, none⟩) (by show w.heap.size < w1.heap.size; omega)).trans n1_4
  have n2_5 : w2.cell? ⟨w.heap.size, 5, none⟩ = some (.int .i64 a.port) := (hb2.cell (p := ⟨w.heap.size, 5, none⟩) (by show w.heap.size < w1.heap.size; omega)).trans n1_5
  have n2_6 : w2.cell? ⟨w.heap.size, 6, none⟩ = some (.bool a.passing) := (hb2.cell (p := ⟨w.heap.size, 6, none⟩) (by show w.heap.size < w1.heap.size; omega)).trans n1_6
  have n2_7 : w2.cell? ⟨w.heap.size, 7, none⟩ = some (.int .i64 a.version) := (hb2.cell (p := ⟨w.heap.size, 7, none⟩) (by show w.heap.size < w1.heap.size; omega)).trans n1_7
  have n2_8 : w2.cell? ⟨w.heap.size, 8, none⟩ = some (.bool a.gone) := (hb2.cell (p := ⟨w.heap.size, 8, none⟩) (by show w.heap.size < w1.heap.size; omega)).trans n1_8
  have m2_0 : w2.cell? ⟨w.heap.size + 1, 0, none⟩ = some (.string b.node) := (hb2.cell (p := ⟨w.heap.size + 1, 0, none⟩) (by show w.heap.size + 1 < w1.heap.size; omega)).trans m1_0
  have m2_1 : w2.cell? ⟨w.heap.size + 1, 1, none⟩ = some (.string b.idn) := (hb2.cell (p := ⟨w.heap.size + 1, 1, none⟩) (by show w.heap.size + 1 < w1.heap.size; omega)).trans m1_1
  have m2_2 : w2.cell? ⟨w.heap.size + 1, 2, none⟩ = some (.string b.name) := (hb2.cell (p := ⟨w.heap.size + 1, 2, none⟩) (by show w.heap.size + 1 < w1.heap.size; omega)).trans m1_2
  have m2_3 : w2.cell? ⟨w.heap.size + 1, 3, none⟩ = some (.string b.tag) := (hb2.cell (p := ⟨w.heap.size + 1, 3, none⟩) (by show w.heap.size + 1 < w1.heap.size; omega)).trans m1_3
  have m2_4 : w2.cell? ⟨w.heap.size + 1, 4, none⟩ = some (.int .i64 b.addr) := (hb2.cell (p := ⟨w.heap.size + 1, 4, none⟩) (by show w.heap.size + 1 < w1.heap.size; omega)).trans m1_4
  have m2_5 : w2.cell? ⟨w.heap.size + 1, 5, none⟩ = some (.int .i64 b.port) := (hb2.cell (p := ⟨w.heap.size + 1, 5, none⟩) (by show w.heap.size + 1 < w1.heap.size; omega)).trans m1_5
  have m2_6 : w2.cell? ⟨w.heap.size + 1, 6, none⟩ = some (.bool b.passing) := (hb2.cell (p := ⟨w.heap.size + 1, 6, none⟩) (by show w.heap.size + 1 < w1.heap.size; omega)).trans m1_6
  have m2_7 : w2.cell? ⟨w.heap.size + 1, 7, none⟩ = some (.int .i64 b.version) := (hb2.cell (p := ⟨w.heap.size + 1, 7, none⟩) (by show w.heap.size + 1 < w1.heap.size; omega)).trans m1_7
  have m2_8 : w2.cell? ⟨w.heap.size + 1, 8, none⟩ = some (.bool b.gone) := (hb2.cell (p := ⟨w.heap.size + 1, 8, none⟩) (by show w.heap.size + 1 < w1.heap.size; omega)).trans m1_8
  clear hb2 n1_0 n1_1 n1_2 n1_3 n1_4 n1_5 n1_6 n1_7 n1_8 m1_0 m1_1 m1_2 m1_3 m1_4 m1_5 m1_6 m1_7 m1_8
  go_wp2_with fail
  refine (HBB.out _).mono ?_
  rintro e w3 ⟨rfl, hb3⟩
  have HBW3 : Hid (Below w.heap.size w w3) := HBW2.out.trans (hb3.mono HBW2.out.size)
  have hs3 : w.heap.size + 1 + 1 ≤ w3.heap.size := by have := hb3.size; omega
  have n3_0 : w3.cell? ⟨w.heap.size, 0, none⟩ = some (.string a.node) := (hb3.cell (p := ⟨w.heap.size, 0, none⟩) (by show w.heap.size < w2.heap.size; omega)).trans n2_0
  have n3_1 : w3.cell? ⟨w.heap.size, 1, none⟩ = some (.string a.idn) := (hb3.cell (p := ⟨w.heap.size, 1, none⟩) (by show w.heap.size < w2.heap.size; omega)).trans n2_1
  have n3_2 : w3.cell? ⟨w.heap.size, 2, none⟩ = some (.string a.name) := (hb3.cell (p := ⟨w.heap.size, 2, none⟩) (by show w.heap.size < w2.heap.size; omega)).trans n2_2
  have n3_3 : w3.cell? ⟨w.heap.size, 3, none⟩ = some (.string a.tag) := (hb3.cell (p := ⟨w.heap.size, 3, none⟩) (by show w.heap.size < w2.heap.size; omega)).trans n2_3
  have n3_4 : w3.cell? ⟨w.heap.size, 4, none⟩ = some (.int .i64 a.addr) := (hb3.cell (p := ⟨w.heap.size, 4, none⟩) (by show w.heap.size < w2.heap.size; omega)).trans n2_4
  have n3_5 : w3.cell? ⟨w.heap.size, 5, none⟩ = some (.int .i64 a.port) := (hb3.cell (p := ⟨w.heap.size, 5, none⟩) (by show w.heap.size < w2.heap.size; omega)).trans n2_5
  have n3_6 : w3.cell? ⟨w.heap.size, 6, none⟩ = some (.bool a.passing) := (hb3.cell (p := ⟨w.heap.size, 6, none⟩) (by show w.heap.size < w2.heap.size; omega)).trans n2_6
  have n3_7 : w3.cell? ⟨w.heap.size, 7, none⟩ = some (.int .i64 a.version) := (hb3.cell (p := ⟨w.heap.size, 7, none⟩) (by show w.heap.size < w2.heap.size; omega)).trans n2_7
  have n3_8 : w3.cell? ⟨w.heap.size, 8, none⟩ = some (.bool a.gone) := (hb3.cell (p := ⟨w.heap.size, 8, none⟩) (by show w.heap.size < w2.heap.size; omega)).trans n2_8
  have m3_0 : w3.cell? ⟨w.heap.size + 1, 0, none⟩ = some (.string b.node) := (hb3.cell (p := ⟨w.heap.size + 1, 0, none⟩) (by show w.heap.size + 1 < w2.heap.size; omega)).trans m2_0
  have m3_1 : w3.cell? ⟨w.heap.size + 1, 1, none⟩ = some (.string b.idn) := (hb3.cell (p := ⟨w.heap.size + 1, 1, none⟩) (by show w.heap.size + 1 < w2.heap.size; omega)).trans m2_1
  have m3_2 : w3.cell? ⟨w.heap.size + 1, 2, none⟩ = some (.string b.name) := (hb3.cell (p := ⟨w.heap.size + 1, 2, none⟩) (by show w.heap.size + 1 < w2.heap.size; omega)).trans m2_2
  have m3_3 : w3.cell? ⟨w.heap.size + 1, 3, none⟩ = some (.string b.tag) := (hb3.cell (p := ⟨w.heap.size + 1, 3, none⟩) (by show w.heap.size + 1 < w2.heap.size; omega)).trans m2_3
  have m3_4 : w3.cell? ⟨w.heap.size + 1, 4, none⟩ = some (.int .i64 b.addr) := (hb3.cell (p := ⟨w.heap.size + 1, 4, none⟩) (by show w.heap.size + 1 < w2.heap.size; omega)).trans m2_4
  have m3_5 : w3.cell? ⟨w.heap.size + 1, 5, none⟩ = some (.int .i64 b.port) := (hb3.cell (p := ⟨w.heap.size + 1, 5, none⟩) (by show w.heap.size + 1 < w2.heap.size; omega)).trans m2_5
  have m3_6 : w3.cell? ⟨w.heap.size + 1, 6, none⟩ = some (.bool b.passing) := (hb3.cell (p := ⟨w.heap.size + 1, 6, none⟩) (by show w.heap.size + 1 < w2.heap.size; omega)).trans m2_6
  have m3_7 : w3.cell? ⟨w.heap.size + 1, 7, none⟩ = some (.int .i64 b.version) := (hb3.cell (p := ⟨w.heap.size + 1, 7, none⟩) (by show w.heap.size + 1 < w2.heap.size; omega)).trans m2_7
  have m3_8 : w3.cell? ⟨w.heap.size + 1, 8, none⟩ = some (.bool b.gone) := (hb3.cell (p := ⟨w.heap.size + 1, 8, none⟩) (by show w.heap.size + 1 < w2.heap.size; omega)).trans m2_8
  clear hb3 n2_0 n2_1 n2_2 n2_3 n2_4 n2_5 n2_6 n2_7 n2_8 m2_0 m2_1 m2_2 m2_3 m2_4 m2_5 m2_6 m2_7 m2_8
  go_wp2_with fail
  refine (begun_any _).mono ?_
  rintro e w4 ⟨rfl, hb4⟩
  have HBW4 : Hid (Below w.heap.size w w4) := HBW3.out.trans (hb4.mono HBW3.out.size)
  have hs4 : w.heap.size + 1 + 1 ≤ w4.heap.size := by have := hb4.size; omega
  have n4_0 : w4.cell? ⟨w.heap.size, 0, none⟩ = some (.string a.node) := (hb4.cell (p := ⟨w.heap.size, 0, none⟩) (by show w.heap.size < w3.heap.size; omega)).trans n3_0
  have n4_1 : w4.cell? ⟨w.heap.size, 1, none⟩ = some (.string a.idn) := (hb4.cell (p := ⟨w.heap.size, 1, none⟩) (by show w.heap.size < w3.heap.size; omega)).trans n3_1
  have n4_2 : w4.cell? ⟨w.heap.size, 2, none⟩ = some (.string a.name) := (hb4.cell (p := ⟨w.heap.size, 2, none⟩) (by show w.heap.size < w3.heap.size; omega)).trans n3_2
  have n4_3 : w4.cell? ⟨w.heap.size, 3, none⟩ = some (.string a.tag) := (hb4.cell (p := ⟨w.heap.size, 3, none⟩) (by show w.heap.size < w3.heap.size; omega)).trans n3_3
  have n4_4 : w4.cell? ⟨w.heap.size, 4, none⟩ = some (.int .i64 a.addr) := (hb4.cell (p := ⟨w.heap.size, 4, none⟩) (by show w.heap.size < w3.heap.size; omega)).trans n3_4
  have n4_5 : w4.cell? ⟨w.heap.size, 5, none⟩ = some (.int .i64 a.port) := (hb4.cell (p := ⟨w.heap.size, 5, none⟩) (by show w.heap.size < w3.heap.size; omega)).trans n3_5
  have n4_6 : w4.cell? ⟨w.heap.size, 6, none⟩ = some (.bool a.passing) := (hb4.cell (p := ⟨w.heap.size, 6, none⟩) (by show w.heap.size < w3.heap.size; omega)).trans n3_6
  have n4_7 : w4.cell? ⟨w.heap.size, 7, none⟩ = some (.int .i64 a.version) := (hb4.cell (p := ⟨w.heap.size, 7, none⟩) (by show w.heap.size < w3.heap.size; omega)).trans n3_7
  have n4_8 : w4.cell? ⟨w.heap.size, 8, none⟩ = some (.bool a.gone) := (hb4.cell (p := ⟨w.heap.size, 8, none⟩) (by show w.heap.size < w3.heap.size; omega)).trans n3_8
  have m4_0 : w4.cell? ⟨w.heap.size + 1, 0, none⟩ = some (.string b.node) := (hb4.cell (p := ⟨w.heap.size + 1, 0, none⟩) (by show w.heap.size + 1 < w3.heap.size; omega)).trans m3_0
  have m4_1 : w4.cell? ⟨w.heap.size + 1, 1, none⟩ = some (.string b.idn) := (hb4.cell (p := ⟨w.heap.size + 1, 1, none⟩) (by show w.heap.size + 1 < w3.heap.size; omega)).trans m3_1
  have m4_2 : w4.cell? ⟨w.heap.size + 1, 2, none⟩ = some (.string b.name) := (hb4.cell (p := ⟨w.heap.size + 1, 2, none⟩) (by show w.heap.size + 1 < w3.heap.size; omega)).trans m3_2
  have m4_3 : w4.cell? ⟨w.heap.size + 1, 3, none⟩ = some (.string b.tag) := (hb4.cell (p := ⟨w.heap.size + 1, 3, none⟩) (by show w.heap.size + 1 < w3.heap.size; omega)).trans m3_3
  have m4_4 : w4.cell? ⟨w.heap.size + 1, 4, none⟩ = some (.int .i64 b.addr) := (hb4.cell (p := ⟨w.heap.size + 1, 4, none⟩) (by show w.heap.size + 1 < w3.heap.size; omega)).trans m3_4
  have m4_5 : w4.cell? ⟨w.heap.size + 1, 5, none⟩ = some (.int .i64 b.port) := (hb4.cell (p := ⟨w.heap.size + 1, 5, none⟩) (by show w.heap.size + 1 < w3.heap.size; omega)).trans m3_5
  have m4_6 : w4.cell? ⟨w.heap.size + 1, 6, none⟩ = some (.bool b.passing) := (hb4.cell (p := ⟨w.heap.size + 1, 6, none⟩) (by show w.heap.size + 1 < w3.heap.size; omega)).trans m3_6
  have m4_7 : w4.cell? ⟨w.heap.size + 1, 7, none⟩ = some (.int .i64 b.version) := (hb4.cell (p := ⟨w.heap.size + 1, 7, none⟩) (by show w.heap.size + 1 < w3.heap.size; omega)).trans m3_7
  have m4_8 : w4.cell? ⟨w.heap.size + 1, 8, none⟩ = some (.bool b.gone) := (hb4.cell (p := ⟨w.heap.size + 1, 8, none⟩) (by show w.heap.size + 1 < w3.heap.size; omega)).trans m3_8
  clear hb4 n3_0 n3_1 n3_2 n3_3 n3_4 n3_5 n3_6 n3_7 n3_8 m3_0 m3_1 m3_2 m3_3 m3_4 m3_5 m3_6 m3_7 m3_8
  go_wp2_with fail
  go_ret
  exact ⟨ret_bool (by simp), HBW4.out⟩

set_option maxHeartbeats 6400000 in
set_option maxRecDepth 100000 in
theorem catalogNewer_idn (a b : Svc) (w : World) (ha : a.ok) (hb : b.ok) (h1 : a.e = 0) (h2 : b.e = 0) (hn : a.node = b.node) (hi : a.idn ≠ b.idn) :
    Calls Try.prog 4 #[.agg #[.string a.node, .string a.idn, .string a.name, .string a.tag, .int .i64 a.addr, .int .i64 a.port, .bool a.passing, .int .i64 a.version, .bool a.gone], .agg #[.string b.node, .string b.idn, .string b.name, .string b.tag, .int .i64 b.addr, .int .i64 b.port, .bool b.passing, .int .i64 b.version, .bool b.gone]] w fun e w' => e = .returned (.bool true) ∧ Below w.heap.size w w' := by
  have HB0 : Hid (Below w.heap.size w ((w.alloc (.cells #[.string a.node, .string a.idn, .string a.name, .string a.tag, .int .i64 a.addr, .int .i64 a.port, .bool a.passing, .int .i64 a.version, .bool a.gone] 28)).alloc (.cells #[.string b.node, .string b.idn, .string b.name, .string b.tag, .int .i64 b.addr, .int .i64 b.port, .bool b.passing, .int .i64 b.version, .bool b.gone] 28))) := ((Below.refl _ _).alloc (Nat.le_refl _) _).alloc (by simp) _
  have HNW : Hid (∀ W, Calls Try.prog 12 #[.agg #[.string a.node, .string a.idn, .string a.name, .string a.tag, .int .i64 a.addr, .int .i64 a.port, .bool a.passing, .int .i64 a.version, .bool a.gone], .agg #[.string b.node, .string b.idn, .string b.name, .string b.tag, .int .i64 b.addr, .int .i64 b.port, .bool b.passing, .int .i64 b.version, .bool b.gone]] W fun e w' => e = .returned (.tuple #[.bool (nerr a b == 0 && newE a b), .int .i64 (nerr a b)]) ∧ Below W.heap.size W w') := fun W => newer2_any a b W ha hb
  have HA : Hid (∀ W, Calls Try.prog 13 #[.agg #[.string a.node, .string a.idn, .string a.name, .string a.tag, .int .i64 a.addr, .int .i64 a.port, .bool a.passing, .int .i64 a.version, .bool a.gone]] W fun e w' => e = .returned (.int .i64 a.e) ∧ Below W.heap.size W w') := fun W => refOne_any a W ha
  have HBB : Hid (∀ W, Calls Try.prog 13 #[.agg #[.string b.node, .string b.idn, .string b.name, .string b.tag, .int .i64 b.addr, .int .i64 b.port, .bool b.passing, .int .i64 b.version, .bool b.gone]] W fun e w' => e = .returned (.int .i64 b.e) ∧ Below W.heap.size W w') := fun W => refOne_any b W hb
  have HR : Hid (∀ W, Calls Try.prog 14 #[.agg #[.string a.node, .string a.idn, .string a.name, .string a.tag, .int .i64 a.addr, .int .i64 a.port, .bool a.passing, .int .i64 a.version, .bool a.gone], .agg #[.string b.node, .string b.idn, .string b.name, .string b.tag, .int .i64 b.addr, .int .i64 b.port, .bool b.passing, .int .i64 b.version, .bool b.gone]] W fun e w' => e = .returned (.bool (newE a b)) ∧ Below W.heap.size W w') := fun W => newerR_any a b W
  clear ha hb
  have hE : nerr a b = 4 := by
    have h : chkTwo [a] [b] = 0 := by rw [chkTwo_one, if_pos h1]; exact h2
    rw [nerr, if_pos h, if_neg (fun h => hi (ord_zero.1 h).2)]
  rw [hE] at HNW
  rw [h1] at HA
  rw [h2] at HBB
  obtain ⟨hi1, hi2⟩ := beq_name hi
  have hn1 : a.node.toList = b.node.toList := by rw [hn]
  have hn2 : (a.node.toList == b.node.toList) = true := by rw [hn]; simp
  clear hE h1 h2 hn hi
  generalize newE a b = nw at *
  go_enter Try.func4, Try.ntmps4
  go_wp2_with fail
  obtain ⟨W, hW⟩ : ∃ W, W = (w.alloc (.cells #[.string a.node, .string a.idn, .string a.name, .string a.tag, .int .i64 a.addr, .int .i64 a.port, .bool a.passing, .int .i64 a.version, .bool a.gone] 28)).alloc (.cells #[.string b.node, .string b.idn, .string b.name, .string b.tag, .int .i64 b.addr, .int .i64 b.port, .bool b.passing, .int .i64 b.version, .bool b.gone] 28) := ⟨_, rfl⟩
  rw [← hW]
  have hga : W.heap[w.heap.size]? = some (.cells #[.string a.node, .string a.idn, .string a.name, .string a.tag, .int .i64 a.addr, .int .i64 a.port, .bool a.passing, .int .i64 a.version, .bool a.gone] 28 (0, 0)) := by
    rw [hW, Below.heap_alloc _ _ _ (by simp)]; exact heap_alloc_new w _
  have hgb : W.heap[w.heap.size + 1]? = some (.cells #[.string b.node, .string b.idn, .string b.name, .string b.tag, .int .i64 b.addr, .int .i64 b.port, .bool b.passing, .int .i64 b.version, .bool b.gone] 28 (0, 0)) := by
    have h := heap_alloc_new (w.alloc (.cells #[.string a.node, .string a.idn, .string a.name, .string a.tag, .int .i64 a.addr, .int .i64 a.port, .bool a.passing, .int .i64 a.version, .bool a.gone] 28)) (.cells #[.string b.node, .string b.idn, .string b.name, .string b.tag, .int .i64 b.addr, .int .i64 b.port, .bool b.passing, .int .i64 b.version, .bool b.gone] 28)
    rw [hW]; simpa using h
  have hsW : w.heap.size + 1 + 1 ≤ W.heap.size := by rw [hW]; simp
  have HBW : Hid (Below w.heap.size w W) := by rw [hW]; exact HB0.out
  have n0_0 : W.cell? ⟨w.heap.size, 0, none⟩ = some (.string a.node) := cellsAt hga 0
  have n0_1 : W.cell? ⟨w.heap.size, 1, none⟩ = some (.string a.idn) := cellsAt hga 1
  have n0_2 : W.cell? ⟨w.heap.size, 2, none⟩ = some (.string a.name) := cellsAt hga 2
  have n0_3 : W.cell? ⟨w.heap.size, 3, none⟩ = some (.string a.tag) := cellsAt hga 3
  have n0_4 : W.cell? ⟨w.heap.size, 4, none⟩ = some (.int .i64 a.addr) := cellsAt hga 4
  have n0_5 : W.cell? ⟨w.heap.size, 5, none⟩ = some (.int .i64 a.port) := cellsAt hga 5
  have n0_6 : W.cell? ⟨w.heap.size, 6, none⟩ = some (.bool a.passing) := cellsAt hga 6
  have n0_7 : W.cell? ⟨w.heap.size, 7, none⟩ = some (.int .i64 a.version) := cellsAt hga 7
  have n0_8 : W.cell? ⟨w.heap.size, 8, none⟩ = some (.bool a.gone) := cellsAt hga 8
  have m0_0 : W.cell? ⟨w.heap.size + 1, 0, none⟩ = some (.string b.node) := cellsAt hgb 0
  have m0_1 : W.cell? ⟨w.heap.size + 1, 1, none⟩ = some (.string b.idn) := cellsAt hgb 1
  have m0_2 : W.cell? ⟨w.heap.size + 1, 2, none⟩ = some (.string b.name) := cellsAt hgb 2
  have m0_3 : W.cell? ⟨w.heap.size + 1, 3, none⟩ = some (.string b.tag) := cellsAt hgb 3
  have m0_4 : W.cell? ⟨w.heap.size + 1, 4, none⟩ = some (.int .i64 b.addr) := cellsAt hgb 4
  have m0_5 : W.cell? ⟨w.heap.size + 1, 5, none⟩ = some (.int .i64 b.port) := cellsAt hgb 5
  have m0_6 : W.cell? ⟨w.heap.size + 1, 6, none⟩ = some (.bool b.passing) := cellsAt hgb 6
  have m0_7 : W.cell? ⟨w.heap.size + 1, 7, none⟩ = some (.int .i64 b.version) := cellsAt hgb 7
  have m0_8 : W.cell? ⟨w.heap.size + 1, 8, none⟩ = some (.bool b.gone) := cellsAt hgb 8
  clear hga hgb hW
  refine (HNW.out _).mono ?_
  rintro e w1 ⟨rfl, hb1⟩
  have HBW1 : Hid (Below w.heap.size w w1) := HBW.out.trans (hb1.mono HBW.out.size)
  have hs1 : w.heap.size + 1 + 1 ≤ w1.heap.size := by have := hb1.size; omega
  have n1_0 : w1.cell? ⟨w.heap.size, 0, none⟩ = some (.string a.node) := (hb1.cell (p := ⟨w.heap.size, 0, none⟩) (by show w.heap.size < W.heap.size; omega)).trans n0_0
  have n1_1 : w1.cell? ⟨w.heap.size, 1, none⟩ = some (.string a.idn) := (hb1.cell (p := ⟨w.heap.size, 1, none⟩) (by show w.heap.size < W.heap.size; omega)).trans n0_1
  have n1_2 : w1.cell? ⟨w.heap.size, 2, none⟩ = some (.string a.name) := (hb1.cell (p := ⟨w.heap.size, 2, none⟩) (by show w.heap.size < W.heap.size; omega)).trans n0_2
  have n1_3 : w1.cell? ⟨w.heap.size, 3, none⟩ = some (.string a.tag) := (hb1.cell (p := ⟨w.heap.size, 3, none⟩) (by show w.heap.size < W.heap.size; omega)).trans n0_3
  have n1_4 : w1.cell? ⟨w.heap.size, 4, none⟩ = some (.int .i64 a.addr) := (hb1.cell (p := ⟨w.heap.size, 4, none⟩) (by show w.heap.size < W.heap.size; omega)).trans n0_4
  have n1_5 : w1.cell? ⟨w.heap.size, 5, none⟩ = some (.int .i64 a.port) := (hb1.cell (p := ⟨w.heap.size, 5, none⟩) (by show w.heap.size < W.heap.size; omega)).trans n0_5
  have n1_6 : w1.cell? ⟨w.heap.size, 6, none⟩ = some (.bool a.passing) := (hb1.cell (p := ⟨w.heap.size, 6, none⟩) (by show w.heap.size < W.heap.size; omega)).trans n0_6
  have n1_7 : w1.cell? ⟨w.heap.size, 7, none⟩ = some (.int .i64 a.version) := (hb1.cell (p := ⟨w.heap.size, 7, none⟩) (by show w.heap.size < W.heap.size; omega)).trans n0_7
  have n1_8 : w1.cell? ⟨w.heap.size, 8, none⟩ = some (.bool a.gone) := (hb1.cell (p := ⟨w.heap.size, 8, none⟩) (by show w.heap.size < W.heap.size; omega)).trans n0_8
  have m1_0 : w1.cell? ⟨w.heap.size + 1, 0, none⟩ = some (.string b.node) := (hb1.cell (p := ⟨w.heap.size + 1, 0, none⟩) (by show w.heap.size + 1 < W.heap.size; omega)).trans m0_0
  have m1_1 : w1.cell? ⟨w.heap.size + 1, 1, none⟩ = some (.string b.idn) := (hb1.cell (p := ⟨w.heap.size + 1, 1, none⟩) (by show w.heap.size + 1 < W.heap.size; omega)).trans m0_1
  have m1_2 : w1.cell? ⟨w.heap.size + 1, 2, none⟩ = some (.string b.name) := (hb1.cell (p := ⟨w.heap.size + 1, 2, none⟩) (by show w.heap.size + 1 < W.heap.size; omega)).trans m0_2
  have m1_3 : w1.cell? ⟨w.heap.size + 1, 3, none⟩ = some (.string b.tag) := (hb1.cell (p := ⟨w.heap.size + 1, 3, none⟩) (by show w.heap.size + 1 < W.heap.size; omega)).trans m0_3
  have m1_4 : w1.cell? ⟨w.heap.size + 1, 4, none⟩ = some (.int .i64 b.addr) := (hb1.cell (p := ⟨w.heap.size + 1, 4, none⟩) (by show w.heap.size + 1 < W.heap.size; omega)).trans m0_4
  have m1_5 : w1.cell? ⟨w.heap.size + 1, 5, none⟩ = some (.int .i64 b.port) := (hb1.cell (p := ⟨w.heap.size + 1, 5, none⟩) (by show w.heap.size + 1 < W.heap.size; omega)).trans m0_5
  have m1_6 : w1.cell? ⟨w.heap.size + 1, 6, none⟩ = some (.bool b.passing) := (hb1.cell (p := ⟨w.heap.size + 1, 6, none⟩) (by show w.heap.size + 1 < W.heap.size; omega)).trans m0_6
  have m1_7 : w1.cell? ⟨w.heap.size + 1, 7, none⟩ = some (.int .i64 b.version) := (hb1.cell (p := ⟨w.heap.size + 1, 7, none⟩) (by show w.heap.size + 1 < W.heap.size; omega)).trans m0_7
  have m1_8 : w1.cell? ⟨w.heap.size + 1, 8, none⟩ = some (.bool b.gone) := (hb1.cell (p := ⟨w.heap.size + 1, 8, none⟩) (by show w.heap.size + 1 < W.heap.size; omega)).trans m0_8
  clear hb1 n0_0 n0_1 n0_2 n0_3 n0_4 n0_5 n0_6 n0_7 n0_8 m0_0 m0_1 m0_2 m0_3 m0_4 m0_5 m0_6 m0_7 m0_8
  go_wp2_with fail
  refine (HA.out _).mono ?_
  rintro e w2 ⟨rfl, hb2⟩
  have HBW2 : Hid (Below w.heap.size w w2) := HBW1.out.trans (hb2.mono HBW1.out.size)
  have hs2 : w.heap.size + 1 + 1 ≤ w2.heap.size := by have := hb2.size; omega
  have n2_0 : w2.cell? ⟨w.heap.size, 0, none⟩ = some (.string a.node) := (hb2.cell (p := ⟨w.heap.size, 0, none⟩) (by show w.heap.size < w1.heap.size; omega)).trans n1_0
  have n2_1 : w2.cell? ⟨w.heap.size, 1, none⟩ = some (.string a.idn) := (hb2.cell (p := ⟨w.heap.size, 1, none⟩) (by show w.heap.size < w1.heap.size; omega)).trans n1_1
  have n2_2 : w2.cell? ⟨w.heap.size, 2, none⟩ = some (.string a.name) := (hb2.cell (p := ⟨w.heap.size, 2, none⟩) (by show w.heap.size < w1.heap.size; omega)).trans n1_2
  have n2_3 : w2.cell? ⟨w.heap.size, 3, none⟩ = some (.string a.tag) := (hb2.cell (p := ⟨w.heap.size, 3, none⟩) (by show w.heap.size < w1.heap.size; omega)).trans n1_3
  have n2_4 : w2.cell? ⟨w.heap.size, 4, none⟩ = some (.int .i64 a.addr) := (hb2.cell (p := ⟨w.heap.size, 4, none⟩) (by show w.heap.size < w1.heap.size; omega)).trans n1_4
  have n2_5 : w2.cell? ⟨w.heap.size, 5, none⟩ = some (.int .i64 a.port) := (hb2.cell (p := ⟨w.heap.size, 5, none⟩) (by show w.heap.size < w1.heap.size; omega)).trans n1_5
  have n2_6 : w2.cell? ⟨w.heap.size, 6, none⟩ = some (.bool a.passing) := (hb2.cell (p := ⟨w.heap.size, 6, none⟩) (by show w.heap.size < w1.heap.size; omega)).trans n1_6
  have n2_7 : w2.cell? ⟨w.heap.size, 7, none⟩ = some (.int .i64 a.version) := (hb2.cell (p := ⟨w.heap.size, 7, none⟩) (by show w.heap.size < w1.heap.size; omega)).trans n1_7
  have n2_8 : w2.cell? ⟨w.heap.size, 8, none⟩ = some (.bool a.gone) := (hb2.cell (p := ⟨w.heap.size, 8, none⟩) (by show w.heap.size < w1.heap.size; omega)).trans n1_8
  have m2_0 : w2.cell? ⟨w.heap.size + 1, 0, none⟩ = some (.string b.node) := (hb2.cell (p := ⟨w.heap.size + 1, 0, none⟩) (by show w.heap.size + 1 < w1.heap.size; omega)).trans m1_0
  have m2_1 : w2.cell? ⟨w.heap.size + 1, 1, none⟩ = some (.string b.idn) := (hb2.cell (p := ⟨w.heap.size + 1, 1, none⟩) (by show w.heap.size + 1 < w1.heap.size; omega)).trans m1_1
  have m2_2 : w2.cell? ⟨w.heap.size + 1, 2, none⟩ = some (.string b.name) := (hb2.cell (p := ⟨w.heap.size + 1, 2, none⟩) (by show w.heap.size + 1 < w1.heap.size; omega)).trans m1_2
  have m2_3 : w2.cell? ⟨w.heap.size + 1, 3, none⟩ = some (.string b.tag) := (hb2.cell (p := ⟨w.heap.size + 1, 3, none⟩) (by show w.heap.size + 1 < w1.heap.size; omega)).trans m1_3
  have m2_4 : w2.cell? ⟨w.heap.size + 1, 4, none⟩ = some (.int .i64 b.addr) := (hb2.cell (p := ⟨w.heap.size + 1, 4, none⟩) (by show w.heap.size + 1 < w1.heap.size; omega)).trans m1_4
  have m2_5 : w2.cell? ⟨w.heap.size + 1, 5, none⟩ = some (.int .i64 b.port) := (hb2.cell (p := ⟨w.heap.size + 1, 5, none⟩) (by show w.heap.size + 1 < w1.heap.size; omega)).trans m1_5
  have m2_6 : w2.cell? ⟨w.heap.size + 1, 6, none⟩ = some (.bool b.passing) := (hb2.cell (p := ⟨w.heap.size + 1, 6, none⟩) (by show w.heap.size + 1 < w1.heap.size; omega)).trans m1_6
  have m2_7 : w2.cell? ⟨w.heap.size + 1, 7, none⟩ = some (.int .i64 b.version) := (hb2.cell (p := ⟨w.heap.size + 1, 7, none⟩) (by show w.heap.size + 1 < w1.heap.size; omega)).trans m1_7
  have m2_8 : w2.cell? ⟨w.heap.size + 1, 8, none⟩ = some (.bool b.gone) := (hb2.cell (p := ⟨w.heap.size + 1, 8, none⟩) (by show w.heap.size + 1 < w1.heap.size; omega)).trans m1_8
  clear hb2 n1_0 n1_1 n1_2 n1_3 n1_4 n1_5 n1_6 n1_7 n1_8 m1_0 m1_1 m1_2 m1_3 m1_4 m1_5 m1_6 m1_7 m1_8
  go_wp2_with fail
  refine (HBB.out _).mono ?_
  rintro e w3 ⟨rfl, hb3⟩
  have HBW3 : Hid (Below w.heap.size w w3) := HBW2.out.trans (hb3.mono HBW2.out.size)
  have hs3 : w.heap.size + 1 + 1 ≤ w3.heap.size := by have := hb3.size; omega
  have n3_0 : w3.cell? ⟨w.heap.size, 0, none⟩ = some (.string a.node) := (hb3.cell (p := ⟨w.heap.size, 0, none⟩) (by show w.heap.size < w2.heap.size; omega)).trans n2_0
  have n3_1 : w3.cell? ⟨w.heap.size, 1, none⟩ = some (.string a.idn) := (hb3.cell (p := ⟨w.heap.size, 1, none⟩) (by show w.heap.size < w2.heap.size; omega)).trans n2_1
  have n3_2 : w3.cell? ⟨w.heap.size, 2, none⟩ = some (.string a.name) := (hb3.cell (p := ⟨w.heap.size, 2, none⟩) (by show w.heap.size < w2.heap.size; omega)).trans n2_2
  have n3_3 : w3.cell? ⟨w.heap.size, 3, none⟩ = some (.string a.tag) := (hb3.cell (p := ⟨w.heap.size, 3, none⟩) (by show w.heap.size < w2.heap.size; omega)).trans n2_3
  have n3_4 : w3.cell? ⟨w.heap.size, 4, none⟩ = some (.int .i64 a.addr) := (hb3.cell (p := ⟨w.heap.size, 4, none⟩) (by show w.heap.size < w2.heap.size; omega)).trans n2_4
  have n3_5 : w3.cell? ⟨w.heap.size, 5, none⟩ = some (.int .i64 a.port) := (hb3.cell (p := ⟨w.heap.size, 5, none⟩) (by show w.heap.size < w2.heap.size; omega)).trans n2_5
  have n3_6 : w3.cell? ⟨w.heap.size, 6, none⟩ = some (.bool a.passing) := (hb3.cell (p := ⟨w.heap.size, 6, none⟩) (by show w.heap.size < w2.heap.size; omega)).trans n2_6
  have n3_7 : w3.cell? ⟨w.heap.size, 7, none⟩ = some (.int .i64 a.version) := (hb3.cell (p := ⟨w.heap.size, 7, none⟩) (by show w.heap.size < w2.heap.size; omega)).trans n2_7
  have n3_8 : w3.cell? ⟨w.heap.size, 8, none⟩ = some (.bool a.gone) := (hb3.cell (p := ⟨w.heap.size, 8, none⟩) (by show w.heap.size < w2.heap.size; omega)).trans n2_8
  have m3_0 : w3.cell? ⟨w.heap.size + 1, 0, none⟩ = some (.string b.node) := (hb3.cell (p := ⟨w.heap.size + 1, 0, none⟩) (by show w.heap.size + 1 < w2.heap.size; omega)).trans m2_0
  have m3_1 : w3.cell? ⟨w.heap.size + 1, 1, none⟩ = some (.string b.idn) := (hb3.cell (p := ⟨w.heap.size + 1, 1, none⟩) (by show w.heap.size + 1 < w2.heap.size; omega)).trans m2_1
  have m3_2 : w3.cell? ⟨w.heap.size + 1, 2, none⟩ = some (.string b.name) := (hb3.cell (p := ⟨w.heap.size + 1, 2, none⟩) (by show w.heap.size + 1 < w2.heap.size; omega)).trans m2_2
  have m3_3 : w3.cell? ⟨w.heap.size + 1, 3, none⟩ = some (.string b.tag) := (hb3.cell (p := ⟨w.heap.size + 1, 3, none⟩) (by show w.heap.size + 1 < w2.heap.size; omega)).trans m2_3
  have m3_4 : w3.cell? ⟨w.heap.size + 1, 4, none⟩ = some (.int .i64 b.addr) := (hb3.cell (p := ⟨w.heap.size + 1, 4, none⟩) (by show w.heap.size + 1 < w2.heap.size; omega)).trans m2_4
  have m3_5 : w3.cell? ⟨w.heap.size + 1, 5, none⟩ = some (.int .i64 b.port) := (hb3.cell (p := ⟨w.heap.size + 1, 5, none⟩) (by show w.heap.size + 1 < w2.heap.size; omega)).trans m2_5
  have m3_6 : w3.cell? ⟨w.heap.size + 1, 6, none⟩ = some (.bool b.passing) := (hb3.cell (p := ⟨w.heap.size + 1, 6, none⟩) (by show w.heap.size + 1 < w2.heap.size; omega)).trans m2_6
  have m3_7 : w3.cell? ⟨w.heap.size + 1, 7, none⟩ = some (.int .i64 b.version) := (hb3.cell (p := ⟨w.heap.size + 1, 7, none⟩) (by show w.heap.size + 1 < w2.heap.size; omega)).trans m2_7
  have m3_8 : w3.cell? ⟨w.heap.size + 1, 8, none⟩ = some (.bool b.gone) := (hb3.cell (p := ⟨w.heap.size + 1, 8, none⟩) (by show w.heap.size + 1 < w2.heap.size; omega)).trans m2_8
  clear hb3 n2_0 n2_1 n2_2 n2_3 n2_4 n2_5 n2_6 n2_7 n2_8 m2_0 m2_1 m2_2 m2_3 m2_4 m2_5 m2_6 m2_7 m2_8
  go_wp2_with fail
  refine (begun_any _).mono ?_
  rintro e w4 ⟨rfl, hb4⟩
  have HBW4 : Hid (Below w.heap.size w w4) := HBW3.out.trans (hb4.mono HBW3.out.size)
  have hs4 : w.heap.size + 1 + 1 ≤ w4.heap.size := by have := hb4.size; omega
  have n4_0 : w4.cell? ⟨w.heap.size, 0, none⟩ = some (.string a.node) := (hb4.cell (p := ⟨w.heap.size, 0, none⟩) (by show w.heap.size < w3.heap.size; omega)).trans n3_0
  have n4_1 : w4.cell? ⟨w.heap.size, 1, none⟩ = some (.string a.idn) := (hb4.cell (p := ⟨w.heap.size, 1, none⟩) (by show w.heap.size < w3.heap.size; omega)).trans n3_1
  have n4_2 : w4.cell? ⟨w.heap.size, 2, none⟩ = some (.string a.name) := (hb4.cell (p := ⟨w.heap.size, 2, none⟩) (by show w.heap.size < w3.heap.size; omega)).trans n3_2
  have n4_3 : w4.cell? ⟨w.heap.size, 3, none⟩ = some (.string a.tag) := (hb4.cell (p := ⟨w.heap.size, 3, none⟩) (by show w.heap.size < w3.heap.size; omega)).trans n3_3
  have n4_4 : w4.cell? ⟨w.heap.size, 4, none⟩ = some (.int .i64 a.addr) := (hb4.cell (p := ⟨w.heap.size, 4, none⟩) (by show w.heap.size < w3.heap.size; omega)).trans n3_4
  have n4_5 : w4.cell? ⟨w.heap.size, 5, none⟩ = some (.int .i64 a.port) := (hb4.cell (p := ⟨w.heap.size, 5, none⟩) (by show w.heap.size < w3.heap.size; omega)).trans n3_5
  have n4_6 : w4.cell? ⟨w.heap.size, 6, none⟩ = some (.bool a.passing) := (hb4.cell (p := ⟨w.heap.size, 6, none⟩) (by show w.heap.size < w3.heap.size; omega)).trans n3_6
  have n4_7 : w4.cell? ⟨w.heap.size, 7, none⟩ = some (.int .i64 a.version) := (hb4.cell (p := ⟨w.heap.size, 7, none⟩) (by show w.heap.size < w3.heap.size; omega)).trans n3_7
  have n4_8 : w4.cell? ⟨w.heap.size, 8, none⟩ = some (.bool a.gone) := (hb4.cell (p := ⟨w.heap.size, 8, none⟩) (by show w.heap.size < w3.heap.size; omega)).trans n3_8
  have m4_0 : w4.cell? ⟨w.heap.size + 1, 0, none⟩ = some (.string b.node) := (hb4.cell (p := ⟨w.heap.size + 1, 0, none⟩) (by show w.heap.size + 1 < w3.heap.size; omega)).trans m3_0
  have m4_1 : w4.cell? ⟨w.heap.size + 1, 1, none⟩ = some (.string b.idn) := (hb4.cell (p := ⟨w.heap.size + 1, 1, none⟩) (by show w.heap.size + 1 < w3.heap.size; omega)).trans m3_1
  have m4_2 : w4.cell? ⟨w.heap.size + 1, 2, none⟩ = some (.string b.name) := (hb4.cell (p := ⟨w.heap.size + 1, 2, none⟩) (by show w.heap.size + 1 < w3.heap.size; omega)).trans m3_2
  have m4_3 : w4.cell? ⟨w.heap.size + 1, 3, none⟩ = some (.string b.tag) := (hb4.cell (p := ⟨w.heap.size + 1, 3, none⟩) (by show w.heap.size + 1 < w3.heap.size; omega)).trans m3_3
  have m4_4 : w4.cell? ⟨w.heap.size + 1, 4, none⟩ = some (.int .i64 b.addr) := (hb4.cell (p := ⟨w.heap.size + 1, 4, none⟩) (by show w.heap.size + 1 < w3.heap.size; omega)).trans m3_4
  have m4_5 : w4.cell? ⟨w.heap.size + 1, 5, none⟩ = some (.int .i64 b.port) := (hb4.cell (p := ⟨w.heap.size + 1, 5, none⟩) (by show w.heap.size + 1 < w3.heap.size; omega)).trans m3_5
  have m4_6 : w4.cell? ⟨w.heap.size + 1, 6, none⟩ = some (.bool b.passing) := (hb4.cell (p := ⟨w.heap.size + 1, 6, none⟩) (by show w.heap.size + 1 < w3.heap.size; omega)).trans m3_6
  have m4_7 : w4.cell? ⟨w.heap.size + 1, 7, none⟩ = some (.int .i64 b.version) := (hb4.cell (p := ⟨w.heap.size + 1, 7, none⟩) (by show w.heap.size + 1 < w3.heap.size; omega)).trans m3_7
  have m4_8 : w4.cell? ⟨w.heap.size + 1, 8, none⟩ = some (.bool b.gone) := (hb4.cell (p := ⟨w.heap.size + 1, 8, none⟩) (by show w.heap.size + 1 < w3.heap.size; omega)).trans m3_8
  clear hb4 n3_0 n3_1 n3_2 n3_3 n3_4 n3_5 n3_6 n3_7 n3_8 m3_0 m3_1 m3_2 m3_3 m3_4 m3_5 m3_6 m3_7 m3_8
  go_wp2_with fail
  go_ret
  exact ⟨ret_bool (by simp), HBW4.out⟩

set_option maxHeartbeats 6400000 in
set_option maxRecDepth 100000 in
theorem catalogNewer_good (a b : Svc) (w : World) (ha : a.ok) (hb : b.ok) (h1 : a.e = 0) (h2 : b.e = 0) (hn : a.node = b.node) (hi : a.idn = b.idn) :
    Calls Try.prog 4 #[.agg #[.string a.node, .string a.idn, .string a.name, .string a.tag, .int .i64 a.addr, .int .i64 a.port, .bool a.passing, .int .i64 a.version, .bool a.gone], .agg #[.string b.node, .string b.idn, .string b.name, .string b.tag, .int .i64 b.addr, .int .i64 b.port, .bool b.passing, .int .i64 b.version, .bool b.gone]] w fun e w' => e = .returned (.bool true) ∧ Below w.heap.size w w' := by
  have HB0 : Hid (Below w.heap.size w ((w.alloc (.cells #[.string a.node, .string a.idn, .string a.name, .string a.tag, .int .i64 a.addr, .int .i64 a.port, .bool a.passing, .int .i64 a.version, .bool a.gone] 28)).alloc (.cells #[.string b.node, .string b.idn, .string b.name, .string b.tag, .int .i64 b.addr, .int .i64 b.port, .bool b.passing, .int .i64 b.version, .bool b.gone] 28))) := ((Below.refl _ _).alloc (Nat.le_refl _) _).alloc (by simp) _
  have HNW : Hid (∀ W, Calls Try.prog 12 #[.agg #[.string a.node, .string a.idn, .string a.name, .string a.tag, .int .i64 a.addr, .int .i64 a.port, .bool a.passing, .int .i64 a.version, .bool a.gone], .agg #[.string b.node, .string b.idn, .string b.name, .string b.tag, .int .i64 b.addr, .int .i64 b.port, .bool b.passing, .int .i64 b.version, .bool b.gone]] W fun e w' => e = .returned (.tuple #[.bool (nerr a b == 0 && newE a b), .int .i64 (nerr a b)]) ∧ Below W.heap.size W w') := fun W => newer2_any a b W ha hb
  have HA : Hid (∀ W, Calls Try.prog 13 #[.agg #[.string a.node, .string a.idn, .string a.name, .string a.tag, .int .i64 a.addr, .int .i64 a.port, .bool a.passing, .int .i64 a.version, .bool a.gone]] W fun e w' => e = .returned (.int .i64 a.e) ∧ Below W.heap.size W w') := fun W => refOne_any a W ha
  have HBB : Hid (∀ W, Calls Try.prog 13 #[.agg #[.string b.node, .string b.idn, .string b.name, .string b.tag, .int .i64 b.addr, .int .i64 b.port, .bool b.passing, .int .i64 b.version, .bool b.gone]] W fun e w' => e = .returned (.int .i64 b.e) ∧ Below W.heap.size W w') := fun W => refOne_any b W hb
  have HR : Hid (∀ W, Calls Try.prog 14 #[.agg #[.string a.node, .string a.idn, .string a.name, .string a.tag, .int .i64 a.addr, .int .i64 a.port, .bool a.passing, .int .i64 a.version, .bool a.gone], .agg #[.string b.node, .string b.idn, .string b.name, .string b.tag, .int .i64 b.addr, .int .i64 b.port, .bool b.passing, .int .i64 b.version, .bool b.gone]] W fun e w' => e = .returned (.bool (newE a b)) ∧ Below W.heap.size W w') := fun W => newerR_any a b W
  clear ha hb
  have hE : nerr a b = 0 := by
    have h : chkTwo [a] [b] = 0 := by rw [chkTwo_one, if_pos h1]; exact h2
    rw [nerr, if_pos h, if_pos (ord_zero.2 ⟨hn, hi⟩)]
  rw [hE] at HNW
  rw [h1] at HA
  rw [h2] at HBB
  have hn1 : a.node.toList = b.node.toList := by rw [hn]
  have hn2 : (a.node.toList == b.node.toList) = true := by rw [hn]; simp
  have hi1 : a.idn.toList = b.idn.toList := by rw [hi]
  have hi2 : (a.idn.toList == b.idn.toList) = true := by rw [hi]; simp
  clear hE h1 h2 hn hi
  generalize newE a b = nw at *
  go_enter Try.func4, Try.ntmps4
  go_wp2_with fail
  obtain ⟨W, hW⟩ : ∃ W, W = (w.alloc (.cells #[.string a.node, .string a.idn, .string a.name, .string a.tag, .int .i64 a.addr, .int .i64 a.port, .bool a.passing, .int .i64 a.version, .bool a.gone] 28)).alloc (.cells #[.string b.node, .string b.idn, .string b.name, .string b.tag, .int .i64 b.addr, .int .i64 b.port, .bool b.passing, .int .i64 b.version, .bool b.gone] 28) := ⟨_, rfl⟩
  rw [← hW]
  have hga : W.heap[w.heap.size]? = some (.cells #[.string a.node, .string a.idn, .string a.name, .string a.tag, .int .i64 a.addr, .int .i64 a.port, .bool a.passing, .int .i64 a.version, .bool a.gone] 28 (0, 0)) := by
    rw [hW, Below.heap_alloc _ _ _ (by simp)]; exact heap_alloc_new w _
  have hgb : W.heap[w.heap.size + 1]? = some (.cells #[.string b.node, .string b.idn, .string b.name, .string b.tag, .int .i64 b.addr, .int .i64 b.port, .bool b.passing, .int .i64 b.version, .bool b.gone] 28 (0, 0)) := by
    have h := heap_alloc_new (w.alloc (.cells #[.string a.node, .string a.idn, .string a.name, .string a.tag, .int .i64 a.addr, .int .i64 a.port, .bool a.passing, .int .i64 a.version, .bool a.gone] 28)) (.cells #[.string b.node, .string b.idn, .string b.name, .string b.tag, .int .i64 b.addr, .int .i64 b.port, .bool b.passing, .int .i64 b.version, .bool b.gone] 28)
    rw [hW]; simpa using h
  have hsW : w.heap.size + 1 + 1 ≤ W.heap.size := by rw [hW]; simp
  have HBW : Hid (Below w.heap.size w W) := by rw [hW]; exact HB0.out
  have n0_0 : W.cell? ⟨w.heap.size, 0, none⟩ = some (.string a.node) := cellsAt hga 0
  have n0_1 : W.cell? ⟨w.heap.size, 1, none⟩ = some (.string a.idn) := cellsAt hga 1
  have n0_2 : W.cell? ⟨w.heap.size, 2, none⟩ = some (.string a.name) := cellsAt hga 2
  have n0_3 : W.cell? ⟨w.heap.size, 3, none⟩ = some (.string a.tag) := cellsAt hga 3
  have n0_4 : W.cell? ⟨w.heap.size, 4, none⟩ = some (.int .i64 a.addr) := cellsAt hga 4
  have n0_5 : W.cell? ⟨w.heap.size, 5, none⟩ = some (.int .i64 a.port) := cellsAt hga 5
  have n0_6 : W.cell? ⟨w.heap.size, 6, none⟩ = some (.bool a.passing) := cellsAt hga 6
  have n0_7 : W.cell? ⟨w.heap.size, 7, none⟩ = some (.int .i64 a.version) := cellsAt hga 7
  have n0_8 : W.cell? ⟨w.heap.size, 8, none⟩ = some (.bool a.gone) := cellsAt hga 8
  have m0_0 : W.cell? ⟨w.heap.size + 1, 0, none⟩ = some (.string b.node) := cellsAt hgb 0
  have m0_1 : W.cell? ⟨w.heap.size + 1, 1, none⟩ = some (.string b.idn) := cellsAt hgb 1
  have m0_2 : W.cell? ⟨w.heap.size + 1, 2, none⟩ = some (.string b.name) := cellsAt hgb 2
  have m0_3 : W.cell? ⟨w.heap.size + 1, 3, none⟩ = some (.string b.tag) := cellsAt hgb 3
  have m0_4 : W.cell? ⟨w.heap.size + 1, 4, none⟩ = some (.int .i64 b.addr) := cellsAt hgb 4
  have m0_5 : W.cell? ⟨w.heap.size + 1, 5, none⟩ = some (.int .i64 b.port) := cellsAt hgb 5
  have m0_6 : W.cell? ⟨w.heap.size + 1, 6, none⟩ = some (.bool b.passing) := cellsAt hgb 6
  have m0_7 : W.cell? ⟨w.heap.size + 1, 7, none⟩ = some (.int .i64 b.version) := cellsAt hgb 7
  have m0_8 : W.cell? ⟨w.heap.size + 1, 8, none⟩ = some (.bool b.gone) := cellsAt hgb 8
  clear hga hgb hW
  refine (HNW.out _).mono ?_
  rintro e w1 ⟨rfl, hb1⟩
  have HBW1 : Hid (Below w.heap.size w w1) := HBW.out.trans (hb1.mono HBW.out.size)
  have hs1 : w.heap.size + 1 + 1 ≤ w1.heap.size := by have := hb1.size; omega
  have n1_0 : w1.cell? ⟨w.heap.size, 0, none⟩ = some (.string a.node) := (hb1.cell (p := ⟨w.heap.size, 0, none⟩) (by show w.heap.size < W.heap.size; omega)).trans n0_0
  have n1_1 : w1.cell? ⟨w.heap.size, 1, none⟩ = some (.string a.idn) := (hb1.cell (p := ⟨w.heap.size, 1, none⟩) (by show w.heap.size < W.heap.size; omega)).trans n0_1
  have n1_2 : w1.cell? ⟨w.heap.size, 2, none⟩ = some (.string a.name) := (hb1.cell (p := ⟨w.heap.size, 2, none⟩) (by show w.heap.size < W.heap.size; omega)).trans n0_2
  have n1_3 : w1.cell? ⟨w.heap.size, 3, none⟩ = some (.string a.tag) := (hb1.cell (p := ⟨w.heap.size, 3, none⟩) (by show w.heap.size < W.heap.size; omega)).trans n0_3
  have n1_4 : w1.cell? ⟨w.heap.size, 4, none⟩ = some (.int .i64 a.addr) := (hb1.cell (p := ⟨w.heap.size, 4, none⟩) (by show w.heap.size < W.heap.size; omega)).trans n0_4
  have n1_5 : w1.cell? ⟨w.heap.size, 5, none⟩ = some (.int .i64 a.port) := (hb1.cell (p := ⟨w.heap.size, 5, none⟩) (by show w.heap.size < W.heap.size; omega)).trans n0_5
  have n1_6 : w1.cell? ⟨w.heap.size, 6, none⟩ = some (.bool a.passing) := (hb1.cell (p := ⟨w.heap.size, 6, none⟩) (by show w.heap.size < W.heap.size; omega)).trans n0_6
  have n1_7 : w1.cell? ⟨w.heap.size, 7, none⟩ = some (.int .i64 a.version) := (hb1.cell (p := ⟨w.heap.size, 7, none⟩) (by show w.heap.size < W.heap.size; omega)).trans n0_7
  have n1_8 : w1.cell? ⟨w.heap.size, 8, none⟩ = some (.bool a.gone) := (hb1.cell (p := ⟨w.heap.size, 8, none⟩) (by show w.heap.size < W.heap.size; omega)).trans n0_8
  have m1_0 : w1.cell? ⟨w.heap.size + 1, 0, none⟩ = some (.string b.node) := (hb1.cell (p := ⟨w.heap.size + 1, 0, none⟩) (by show w.heap.size + 1 < W.heap.size; omega)).trans m0_0
  have m1_1 : w1.cell? ⟨w.heap.size + 1, 1, none⟩ = some (.string b.idn) := (hb1.cell (p := ⟨w.heap.size + 1, 1, none⟩) (by show w.heap.size + 1 < W.heap.size; omega)).trans m0_1
  have m1_2 : w1.cell? ⟨w.heap.size + 1, 2, none⟩ = some (.string b.name) := (hb1.cell (p := ⟨w.heap.size + 1, 2, none⟩) (by show w.heap.size + 1 < W.heap.size; omega)).trans m0_2
  have m1_3 : w1.cell? ⟨w.heap.size + 1, 3, none⟩ = some (.string b.tag) := (hb1.cell (p := ⟨w.heap.size + 1, 3, none⟩) (by show w.heap.size + 1 < W.heap.size; omega)).trans m0_3
  have m1_4 : w1.cell? ⟨w.heap.size + 1, 4, none⟩ = some (.int .i64 b.addr) := (hb1.cell (p := ⟨w.heap.size + 1, 4, none⟩) (by show w.heap.size + 1 < W.heap.size; omega)).trans m0_4
  have m1_5 : w1.cell? ⟨w.heap.size + 1, 5, none⟩ = some (.int .i64 b.port) := (hb1.cell (p := ⟨w.heap.size + 1, 5, none⟩) (by show w.heap.size + 1 < W.heap.size; omega)).trans m0_5
  have m1_6 : w1.cell? ⟨w.heap.size + 1, 6, none⟩ = some (.bool b.passing) := (hb1.cell (p := ⟨w.heap.size + 1, 6, none⟩) (by show w.heap.size + 1 < W.heap.size; omega)).trans m0_6
  have m1_7 : w1.cell? ⟨w.heap.size + 1, 7, none⟩ = some (.int .i64 b.version) := (hb1.cell (p := ⟨w.heap.size + 1, 7, none⟩) (by show w.heap.size + 1 < W.heap.size; omega)).trans m0_7
  have m1_8 : w1.cell? ⟨w.heap.size + 1, 8, none⟩ = some (.bool b.gone) := (hb1.cell (p := ⟨w.heap.size + 1, 8, none⟩) (by show w.heap.size + 1 < W.heap.size; omega)).trans m0_8
  clear hb1 n0_0 n0_1 n0_2 n0_3 n0_4 n0_5 n0_6 n0_7 n0_8 m0_0 m0_1 m0_2 m0_3 m0_4 m0_5 m0_6 m0_7 m0_8
  go_wp2_with fail
  refine (HA.out _).mono ?_
  rintro e w2 ⟨rfl, hb2⟩
  have HBW2 : Hid (Below w.heap.size w w2) := HBW1.out.trans (hb2.mono HBW1.out.size)
  have hs2 : w.heap.size + 1 + 1 ≤ w2.heap.size := by have := hb2.size; omega
  have n2_0 : w2.cell? ⟨w.heap.size, 0, none⟩ = some (.string a.node) := (hb2.cell (p := ⟨w.heap.size, 0, none⟩) (by show w.heap.size < w1.heap.size; omega)).trans n1_0
  have n2_1 : w2.cell? ⟨w.heap.size, 1, none⟩ = some (.string a.idn) := (hb2.cell (p := ⟨w.heap.size, 1, none⟩) (by show w.heap.size < w1.heap.size; omega)).trans n1_1
  have n2_2 : w2.cell? ⟨w.heap.size, 2, none⟩ = some (.string a.name) := (hb2.cell (p := ⟨w.heap.size, 2, none⟩) (by show w.heap.size < w1.heap.size; omega)).trans n1_2
  have n2_3 : w2.cell? ⟨w.heap.size, 3, none⟩ = some (.string a.tag) := (hb2.cell (p := ⟨w.heap.size, 3, none⟩) (by show w.heap.size < w1.heap.size; omega)).trans n1_3
  have n2_4 : w2.cell? ⟨w.heap.size, 4, none⟩ = some (.int .i64 a.addr) := (hb2.cell (p := ⟨w.heap.size, 4, none⟩) (by show w.heap.size < w1.heap.size; omega)).trans n1_4
  have n2_5 : w2.cell? ⟨w.heap.size, 5, none⟩ = some (.int .i64 a.port) := (hb2.cell (p := ⟨w.heap.size, 5, none⟩) (by show w.heap.size < w1.heap.size; omega)).trans n1_5
  have n2_6 : w2.cell? ⟨w.heap.size, 6, none⟩ = some (.bool a.passing) := (hb2.cell (p := ⟨w.heap.size, 6, none⟩) (by show w.heap.size < w1.heap.size; omega)).trans n1_6
  have n2_7 : w2.cell? ⟨w.heap.size, 7, none⟩ = some (.int .i64 a.version) := (hb2.cell (p := ⟨w.heap.size, 7, none⟩) (by show w.heap.size < w1.heap.size; omega)).trans n1_7
  have n2_8 : w2.cell? ⟨w.heap.size, 8, none⟩ = some (.bool a.gone) := (hb2.cell (p := ⟨w.heap.size, 8, none⟩) (by show w.heap.size < w1.heap.size; omega)).trans n1_8
  have m2_0 : w2.cell? ⟨w.heap.size + 1, 0, none⟩ = some (.string b.node) := (hb2.cell (p := ⟨w.heap.size + 1, 0, none⟩) (by show w.heap.size + 1 < w1.heap.size; omega)).trans m1_0
  have m2_1 : w2.cell? ⟨w.heap.size + 1, 1, none⟩ = some (.string b.idn) := (hb2.cell (p := ⟨w.heap.size + 1, 1, none⟩) (by show w.heap.size + 1 < w1.heap.size; omega)).trans m1_1
  have m2_2 : w2.cell? ⟨w.heap.size + 1, 2, none⟩ = some (.string b.name) := (hb2.cell (p := ⟨w.heap.size + 1, 2, none⟩) (by show w.heap.size + 1 < w1.heap.size; omega)).trans m1_2
  have m2_3 : w2.cell? ⟨w.heap.size + 1, 3, none⟩ = some (.string b.tag) := (hb2.cell (p := ⟨w.heap.size + 1, 3, none⟩) (by show w.heap.size + 1 < w1.heap.size; omega)).trans m1_3
  have m2_4 : w2.cell? ⟨w.heap.size + 1, 4, none⟩ = some (.int .i64 b.addr) := (hb2.cell (p := ⟨w.heap.size + 1, 4, none⟩) (by show w.heap.size + 1 < w1.heap.size; omega)).trans m1_4
  have m2_5 : w2.cell? ⟨w.heap.size + 1, 5, none⟩ = some (.int .i64 b.port) := (hb2.cell (p := ⟨w.heap.size + 1, 5, none⟩) (by show w.heap.size + 1 < w1.heap.size; omega)).trans m1_5
  have m2_6 : w2.cell? ⟨w.heap.size + 1, 6, none⟩ = some (.bool b.passing) := (hb2.cell (p := ⟨w.heap.size + 1, 6, none⟩) (by show w.heap.size + 1 < w1.heap.size; omega)).trans m1_6
  have m2_7 : w2.cell? ⟨w.heap.size + 1, 7, none⟩ = some (.int .i64 b.version) := (hb2.cell (p := ⟨w.heap.size + 1, 7, none⟩) (by show w.heap.size + 1 < w1.heap.size; omega)).trans m1_7
  have m2_8 : w2.cell? ⟨w.heap.size + 1, 8, none⟩ = some (.bool b.gone) := (hb2.cell (p := ⟨w.heap.size + 1, 8, none⟩) (by show w.heap.size + 1 < w1.heap.size; omega)).trans m1_8
  clear hb2 n1_0 n1_1 n1_2 n1_3 n1_4 n1_5 n1_6 n1_7 n1_8 m1_0 m1_1 m1_2 m1_3 m1_4 m1_5 m1_6 m1_7 m1_8
  go_wp2_with fail
  refine (HBB.out _).mono ?_
  rintro e w3 ⟨rfl, hb3⟩
  have HBW3 : Hid (Below w.heap.size w w3) := HBW2.out.trans (hb3.mono HBW2.out.size)
  have hs3 : w.heap.size + 1 + 1 ≤ w3.heap.size := by have := hb3.size; omega
  have n3_0 : w3.cell? ⟨w.heap.size, 0, none⟩ = some (.string a.node) := (hb3.cell (p := ⟨w.heap.size, 0, none⟩) (by show w.heap.size < w2.heap.size; omega)).trans n2_0
  have n3_1 : w3.cell? ⟨w.heap.size, 1, none⟩ = some (.string a.idn) := (hb3.cell (p := ⟨w.heap.size, 1, none⟩) (by show w.heap.size < w2.heap.size; omega)).trans n2_1
  have n3_2 : w3.cell? ⟨w.heap.size, 2, none⟩ = some (.string a.name) := (hb3.cell (p := ⟨w.heap.size, 2, none⟩) (by show w.heap.size < w2.heap.size; omega)).trans n2_2
  have n3_3 : w3.cell? ⟨w.heap.size, 3, none⟩ = some (.string a.tag) := (hb3.cell (p := ⟨w.heap.size, 3, none⟩) (by show w.heap.size < w2.heap.size; omega)).trans n2_3
  have n3_4 : w3.cell? ⟨w.heap.size, 4, none⟩ = some (.int .i64 a.addr) := (hb3.cell (p := ⟨w.heap.size, 4, none⟩) (by show w.heap.size < w2.heap.size; omega)).trans n2_4
  have n3_5 : w3.cell? ⟨w.heap.size, 5, none⟩ = some (.int .i64 a.port) := (hb3.cell (p := ⟨w.heap.size, 5, none⟩) (by show w.heap.size < w2.heap.size; omega)).trans n2_5
  have n3_6 : w3.cell? ⟨w.heap.size, 6, none⟩ = some (.bool a.passing) := (hb3.cell (p := ⟨w.heap.size, 6, none⟩) (by show w.heap.size < w2.heap.size; omega)).trans n2_6
  have n3_7 : w3.cell? ⟨w.heap.size, 7, none⟩ = some (.int .i64 a.version) := (hb3.cell (p := ⟨w.heap.size, 7, none⟩) (by show w.heap.size < w2.heap.size; omega)).trans n2_7
  have n3_8 : w3.cell? ⟨w.heap.size, 8, none⟩ = some (.bool a.gone) := (hb3.cell (p := ⟨w.heap.size, 8, none⟩) (by show w.heap.size < w2.heap.size; omega)).trans n2_8
  have m3_0 : w3.cell? ⟨w.heap.size + 1, 0, none⟩ = some (.string b.node) := (hb3.cell (p := ⟨w.heap.size + 1, 0, none⟩) (by show w.heap.size + 1 < w2.heap.size; omega)).trans m2_0
  have m3_1 : w3.cell? ⟨w.heap.size + 1, 1, none⟩ = some (.string b.idn) := (hb3.cell (p := ⟨w.heap.size + 1, 1, none⟩) (by show w.heap.size + 1 < w2.heap.size; omega)).trans m2_1
  have m3_2 : w3.cell? ⟨w.heap.size + 1, 2, none⟩ = some (.string b.name) := (hb3.cell (p := ⟨w.heap.size + 1, 2, none⟩) (by show w.heap.size + 1 < w2.heap.size; omega)).trans m2_2
  have m3_3 : w3.cell? ⟨w.heap.size + 1, 3, none⟩ = some (.string b.tag) := (hb3.cell (p := ⟨w.heap.size + 1, 3, none⟩) (by show w.heap.size + 1 < w2.heap.size; omega)).trans m2_3
  have m3_4 : w3.cell? ⟨w.heap.size + 1, 4, none⟩ = some (.int .i64 b.addr) := (hb3.cell (p := ⟨w.heap.size + 1, 4, none⟩) (by show w.heap.size + 1 < w2.heap.size; omega)).trans m2_4
  have m3_5 : w3.cell? ⟨w.heap.size + 1, 5, none⟩ = some (.int .i64 b.port) := (hb3.cell (p := ⟨w.heap.size + 1, 5, none⟩) (by show w.heap.size + 1 < w2.heap.size; omega)).trans m2_5
  have m3_6 : w3.cell? ⟨w.heap.size + 1, 6, none⟩ = some (.bool b.passing) := (hb3.cell (p := ⟨w.heap.size + 1, 6, none⟩) (by show w.heap.size + 1 < w2.heap.size; omega)).trans m2_6
  have m3_7 : w3.cell? ⟨w.heap.size + 1, 7, none⟩ = some (.int .i64 b.version) := (hb3.cell (p := ⟨w.heap.size + 1, 7, none⟩) (by show w.heap.size + 1 < w2.heap.size; omega)).trans m2_7
  have m3_8 : w3.cell? ⟨w.heap.size + 1, 8, none⟩ = some (.bool b.gone) := (hb3.cell (p := ⟨w.heap.size + 1, 8, none⟩) (by show w.heap.size + 1 < w2.heap.size; omega)).trans m2_8
  clear hb3 n2_0 n2_1 n2_2 n2_3 n2_4 n2_5 n2_6 n2_7 n2_8 m2_0 m2_1 m2_2 m2_3 m2_4 m2_5 m2_6 m2_7 m2_8
  go_wp2_with fail
  refine (begun_any _).mono ?_
  rintro e w4 ⟨rfl, hb4⟩
  have HBW4 : Hid (Below w.heap.size w w4) := HBW3.out.trans (hb4.mono HBW3.out.size)
  have hs4 : w.heap.size + 1 + 1 ≤ w4.heap.size := by have := hb4.size; omega
  have n4_0 : w4.cell? ⟨w.heap.size, 0, none⟩ = some (.string a.node) := (hb4.cell (p := ⟨w.heap.size, 0, none⟩) (by show w.heap.size < w3.heap.size; omega)).trans n3_0
  have n4_1 : w4.cell? ⟨w.heap.size, 1, none⟩ = some (.string a.idn) := (hb4.cell (p := ⟨w.heap.size, 1, none⟩) (by show w.heap.size < w3.heap.size; omega)).trans n3_1
  have n4_2 : w4.cell? ⟨w.heap.size, 2, none⟩ = some (.string a.name) := (hb4.cell (p := ⟨w.heap.size, 2, none⟩) (by show w.heap.size < w3.heap.size; omega)).trans n3_2
  have n4_3 : w4.cell? ⟨w.heap.size, 3, none⟩ = some (.string a.tag) := (hb4.cell (p := ⟨w.heap.size, 3, none⟩) (by show w.heap.size < w3.heap.size; omega)).trans n3_3
  have n4_4 : w4.cell? ⟨w.heap.size, 4, none⟩ = some (.int .i64 a.addr) := (hb4.cell (p := ⟨w.heap.size, 4, none⟩) (by show w.heap.size < w3.heap.size; omega)).trans n3_4
  have n4_5 : w4.cell? ⟨w.heap.size, 5, none⟩ = some (.int .i64 a.port) := (hb4.cell (p := ⟨w.heap.size, 5, none⟩) (by show w.heap.size < w3.heap.size; omega)).trans n3_5
  have n4_6 : w4.cell? ⟨w.heap.size, 6, none⟩ = some (.bool a.passing) := (hb4.cell (p := ⟨w.heap.size, 6, none⟩) (by show w.heap.size < w3.heap.size; omega)).trans n3_6
  have n4_7 : w4.cell? ⟨w.heap.size, 7, none⟩ = some (.int .i64 a.version) := (hb4.cell (p := ⟨w.heap.size, 7, none⟩) (by show w.heap.size < w3.heap.size; omega)).trans n3_7
  have n4_8 : w4.cell? ⟨w.heap.size, 8, none⟩ = some (.bool a.gone) := (hb4.cell (p := ⟨w.heap.size, 8, none⟩) (by show w.heap.size < w3.heap.size; omega)).trans n3_8
  have m4_0 : w4.cell? ⟨w.heap.size + 1, 0, none⟩ = some (.string b.node) := (hb4.cell (p := ⟨w.heap.size + 1, 0, none⟩) (by show w.heap.size + 1 < w3.heap.size; omega)).trans m3_0
  have m4_1 : w4.cell? ⟨w.heap.size + 1, 1, none⟩ = some (.string b.idn) := (hb4.cell (p := ⟨w.heap.size + 1, 1, none⟩) (by show w.heap.size + 1 < w3.heap.size; omega)).trans m3_1
  have m4_2 : w4.cell? ⟨w.heap.size + 1, 2, none⟩ = some (.string b.name) := (hb4.cell (p := ⟨w.heap.size + 1, 2, none⟩) (by show w.heap.size + 1 < w3.heap.size; omega)).trans m3_2
  have m4_3 : w4.cell? ⟨w.heap.size + 1, 3, none⟩ = some (.string b.tag) := (hb4.cell (p := ⟨w.heap.size + 1, 3, none⟩) (by show w.heap.size + 1 < w3.heap.size; omega)).trans m3_3
  have m4_4 : w4.cell? ⟨w.heap.size + 1, 4, none⟩ = some (.int .i64 b.addr) := (hb4.cell (p := ⟨w.heap.size + 1, 4, none⟩) (by show w.heap.size + 1 < w3.heap.size; omega)).trans m3_4
  have m4_5 : w4.cell? ⟨w.heap.size + 1, 5, none⟩ = some (.int .i64 b.port) := (hb4.cell (p := ⟨w.heap.size + 1, 5, none⟩) (by show w.heap.size + 1 < w3.heap.size; omega)).trans m3_5
  have m4_6 : w4.cell? ⟨w.heap.size + 1, 6, none⟩ = some (.bool b.passing) := (hb4.cell (p := ⟨w.heap.size + 1, 6, none⟩) (by show w.heap.size + 1 < w3.heap.size; omega)).trans m3_6
  have m4_7 : w4.cell? ⟨w.heap.size + 1, 7, none⟩ = some (.int .i64 b.version) := (hb4.cell (p := ⟨w.heap.size + 1, 7, none⟩) (by show w.heap.size + 1 < w3.heap.size; omega)).trans m3_7
  have m4_8 : w4.cell? ⟨w.heap.size + 1, 8, none⟩ = some (.bool b.gone) := (hb4.cell (p := ⟨w.heap.size + 1, 8, none⟩) (by show w.heap.size + 1 < w3.heap.size; omega)).trans m3_8
  clear hb4 n3_0 n3_1 n3_2 n3_3 n3_4 n3_5 n3_6 n3_7 n3_8 m3_0 m3_1 m3_2 m3_3 m3_4 m3_5 m3_6 m3_7 m3_8
  go_wp2_with (go_at_call 14; refine (HR.out _).mono ?_; rintro e w9 ⟨rfl, hb9⟩)
  go_ret
  exact ⟨ret_bool (by simp), HBW4.out.trans (hb9.mono HBW4.out.size)⟩

theorem catalogNewer_walk (a b : Svc) (w : World) (ha : a.ok) (hb : b.ok) :
    Calls Try.prog 4 #[.agg #[.string a.node, .string a.idn, .string a.name, .string a.tag, .int .i64 a.addr, .int .i64 a.port, .bool a.passing, .int .i64 a.version, .bool a.gone], .agg #[.string b.node, .string b.idn, .string b.name, .string b.tag, .int .i64 b.addr, .int .i64 b.port, .bool b.passing, .int .i64 b.version, .bool b.gone]] w fun e w' => e = .returned (.bool true) ∧ Below w.heap.size w w' := by
  by_cases h1 : a.e = 0
  · by_cases h2 : b.e = 0
    · by_cases hn : a.node = b.node
      · by_cases hi : a.idn = b.idn
        · exact catalogNewer_good a b w ha hb h1 h2 hn hi
        · exact catalogNewer_idn a b w ha hb h1 h2 hn hi
      · exact catalogNewer_node a b w ha hb h1 h2 hn
    · exact catalogNewer_bad2 a b w ha hb h1 h2
  · exact catalogNewer_bad1 a b w ha hb h1

end Sv
end Go.Proofs.Ytjpcngkddejdjae
