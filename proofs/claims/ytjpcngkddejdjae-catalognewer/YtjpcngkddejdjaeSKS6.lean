/- Newer; the law CatalogNewer. -/
import Derived.Test.YtjpcngkddejdjaeSKS4
namespace Go.Proofs.Ytjpcngkddejdjae
namespace Sv
open Go.RowKit

/-- E2: Newer's errno. -/
def nerr (a b : Svc) : Int := if chkTwo [a] [b] = 0 then (if ord a b = 0 then 0 else 4) else chkTwo [a] [b]

theorem checkAll_aloneW (a b : Svc) (W : World) (ha : a.ok) (hb : b.ok) :
    Calls Try.prog 30 #[.slice (some ⟨W.heap.size + 1 + 1 + 1 + 1, 0, none⟩) 2 2] ((((((W.alloc (.cells #[.string a.node, .string a.idn, .string a.name, .string a.tag, .int .i64 a.addr, .int .i64 a.port, .bool a.passing, .int .i64 a.version, .bool a.gone] 28)).alloc (.cells #[.string a.node, .string a.idn, .string a.name, .string a.tag, .int .i64 a.addr, .int .i64 a.port, .bool a.passing, .int .i64 a.version, .bool a.gone] 28)).alloc (.cells #[.string b.node, .string b.idn, .string b.name, .string b.tag, .int .i64 b.addr, .int .i64 b.port, .bool b.passing, .int .i64 b.version, .bool b.gone] 28)).alloc (.cells #[.string b.node, .string b.idn, .string b.name, .string b.tag, .int .i64 b.addr, .int .i64 b.port, .bool b.passing, .int .i64 b.version, .bool b.gone] 28)).alloc (.cells #[.slice (some ⟨W.heap.size + 1, 0, none⟩) 1 1, .slice (some ⟨W.heap.size + 1 + 1 + 1, 0, none⟩) 1 1] 22)).drew)
      fun e w' => e = .returned (.int .i64 (chkTwo [a] [b])) ∧ Below W.heap.size W w' := by
  obtain ⟨A, hA⟩ : ∃ A : Obj, A = .cells #[.string a.node, .string a.idn, .string a.name, .string a.tag, .int .i64 a.addr, .int .i64 a.port, .bool a.passing, .int .i64 a.version, .bool a.gone] 28 := ⟨_, rfl⟩
  obtain ⟨B, hB⟩ : ∃ B : Obj, B = .cells #[.string b.node, .string b.idn, .string b.name, .string b.tag, .int .i64 b.addr, .int .i64 b.port, .bool b.passing, .int .i64 b.version, .bool b.gone] 28 := ⟨_, rfl⟩
  obtain ⟨Pq, hP⟩ : ∃ P : Obj, P = .cells #[.slice (some ⟨W.heap.size + 1, 0, none⟩) 1 1, .slice (some ⟨W.heap.size + 1 + 1 + 1, 0, none⟩) 1 1] 22 := ⟨_, rfl⟩
  rw [← hA, ← hB, ← hP]
  have hbW : Below W.heap.size W ((((((W.alloc A).alloc A).alloc B).alloc B).alloc Pq).drew) :=
    ((((((Below.refl _ _).alloc (Nat.le_refl _) A).alloc (by simp <;> omega) A).alloc (by simp <;> omega) B).alloc (by simp <;> omega) B).alloc (by simp <;> omega) Pq).drew
  have hgp : ((((((W.alloc A).alloc A).alloc B).alloc B).alloc Pq).drew).heap[W.heap.size + 1 + 1 + 1 + 1]? = some Pq := by
    have h := heap_alloc_new ((((W.alloc A).alloc A).alloc B).alloc B) Pq
    rw [show ((((W.alloc A).alloc A).alloc B).alloc B).heap.size = W.heap.size + 1 + 1 + 1 + 1 by simp] at h
    exact h
  have hga : ((((((W.alloc A).alloc A).alloc B).alloc B).alloc Pq).drew).heap[W.heap.size + 1]? = some A := by
    have h1 := heap_alloc_new (W.alloc A) A
    rw [show (W.alloc A).heap.size = W.heap.size + 1 by simp] at h1
    have h2 := Below.heap_alloc ((W.alloc A).alloc A) B (W.heap.size + 1) (by simp)
    have h3 := Below.heap_alloc (((W.alloc A).alloc A).alloc B) B (W.heap.size + 1) (by simp <;> omega)
    have h4 := Below.heap_alloc ((((W.alloc A).alloc A).alloc B).alloc B) Pq (W.heap.size + 1) (by simp <;> omega)
    exact h4.trans (h3.trans (h2.trans h1))
  have hgb : ((((((W.alloc A).alloc A).alloc B).alloc B).alloc Pq).drew).heap[W.heap.size + 1 + 1 + 1]? = some B := by
    have h1 := heap_alloc_new (((W.alloc A).alloc A).alloc B) B
    rw [show (((W.alloc A).alloc A).alloc B).heap.size = W.heap.size + 1 + 1 + 1 by simp] at h1
    have h4 := Below.heap_alloc ((((W.alloc A).alloc A).alloc B).alloc B) Pq (W.heap.size + 1 + 1 + 1) (by simp)
    exact h4.trans h1
  have hsz : ((((((W.alloc A).alloc A).alloc B).alloc B).alloc Pq).drew).heap.size = W.heap.size + 1 + 1 + 1 + 1 + 1 := by simp
  generalize ((((((W.alloc A).alloc A).alloc B).alloc B).alloc Pq).drew) = V at *
  have hgp' := hgp.trans (congrArg some hP)
  refine (checkAll_two [a] [b] _ _ _ 2 V (sl_one V _ 1 a ha (hga.trans (congrArg some hA))) (sl_one V _ 1 b hb (hgb.trans (congrArg some hB))) (by omega) (cellsAt hgp' 0) (cellsAt hgp' 1)).mono ?_
  rintro e w' ⟨rfl, h⟩
  exact ⟨rfl, hbW.trans (h.mono (by omega))⟩

set_option maxHeartbeats 6400000 in
set_option maxRecDepth 100000 in
theorem newer2_any (a b : Svc) (w : World) (ha : a.ok) (hb : b.ok) :
    Calls Try.prog 12 #[.agg #[.string a.node, .string a.idn, .string a.name, .string a.tag, .int .i64 a.addr, .int .i64 a.port, .bool a.passing, .int .i64 a.version, .bool a.gone], .agg #[.string b.node, .string b.idn, .string b.name, .string b.tag, .int .i64 b.addr, .int .i64 b.port, .bool b.passing, .int .i64 b.version, .bool b.gone]] w
      fun e w' => e = .returned (.tuple #[.bool (nerr a b == 0 && newE a b), .int .i64 (nerr a b)]) ∧ Below w.heap.size w w' := by
  have HCA : Hid (∀ W, Calls Try.prog 30 #[.slice (some ⟨W.heap.size + 1 + 1 + 1 + 1, 0, none⟩) 2 2] ((((((W.alloc (.cells #[.string a.node, .string a.idn, .string a.name, .string a.tag, .int .i64 a.addr, .int .i64 a.port, .bool a.passing, .int .i64 a.version, .bool a.gone] 28)).alloc (.cells #[.string a.node, .string a.idn, .string a.name, .string a.tag, .int .i64 a.addr, .int .i64 a.port, .bool a.passing, .int .i64 a.version, .bool a.gone] 28)).alloc (.cells #[.string b.node, .string b.idn, .string b.name, .string b.tag, .int .i64 b.addr, .int .i64 b.port, .bool b.passing, .int .i64 b.version, .bool b.gone] 28)).alloc (.cells #[.string b.node, .string b.idn, .string b.name, .string b.tag, .int .i64 b.addr, .int .i64 b.port, .bool b.passing, .int .i64 b.version, .bool b.gone] 28)).alloc (.cells #[.slice (some ⟨W.heap.size + 1, 0, none⟩) 1 1, .slice (some ⟨W.heap.size + 1 + 1 + 1, 0, none⟩) 1 1] 22)).drew)
      fun e w' => e = .returned (.int .i64 (chkTwo [a] [b])) ∧ Below W.heap.size W w') := fun W => checkAll_aloneW a b W ha hb
  have HB0 : Hid (Below w.heap.size w ((w.alloc (.cells #[.string a.node, .string a.idn, .string a.name, .string a.tag, .int .i64 a.addr, .int .i64 a.port, .bool a.passing, .int .i64 a.version, .bool a.gone] 28)).alloc (.cells #[.string b.node, .string b.idn, .string b.name, .string b.tag, .int .i64 b.addr, .int .i64 b.port, .bool b.passing, .int .i64 b.version, .bool b.gone] 28))) := ((Below.refl _ _).alloc (Nat.le_refl _) _).alloc (by simp) _
  have HNE : Hid (nerr a b = if chkTwo [a] [b] = 0 then (if ord a b = 0 then 0 else 4) else chkTwo [a] [b]) := rfl
  generalize nerr a b = ne at *
  clear ha hb
  by_cases h0 : chkTwo [a] [b] = 0
  · have hz : (chkTwo [a] [b] != 0) = false := by simpa using h0
    have HO : Hid (∀ W, Calls Try.prog 28 #[.agg #[.string a.node, .string a.idn, .string a.name, .string a.tag, .int .i64 a.addr, .int .i64 a.port, .bool a.passing, .int .i64 a.version, .bool a.gone], .agg #[.string b.node, .string b.idn, .string b.name, .string b.tag, .int .i64 b.addr, .int .i64 b.port, .bool b.passing, .int .i64 b.version, .bool b.gone]] W fun e w' => e = .returned (.int .i64 (ord a b)) ∧ Below W.heap.size W w') := fun W => order_any a b W
    have HNW : Hid (∀ W, Calls Try.prog 32 #[.agg #[.string a.node, .string a.idn, .string a.name, .string a.tag, .int .i64 a.addr, .int .i64 a.port, .bool a.passing, .int .i64 a.version, .bool a.gone], .agg #[.string b.node, .string b.idn, .string b.name, .string b.tag, .int .i64 b.addr, .int .i64 b.port, .bool b.passing, .int .i64 b.version, .bool b.gone]] W fun e w' => e = .returned (.bool (newE a b)) ∧ Below W.heap.size W w') := fun W => newerE_any a b W
    have HN2 : Hid (ne = if ord a b = 0 then 0 else 4) := HNE.out.trans (if_pos h0)
    clear h0 HNE
    generalize ord a b = od at *
    generalize newE a b = nw at *
    generalize chkTwo [a] [b] = ct at *
    rcases ho : decide (od = 0) with _ | _
    · have hoz : (od != 0) = true := by simpa using ho
      have HE : Hid (ne = 4) := HN2.out.trans (if_neg (by simpa using ho))
      clear ho
      go_enter Try.func12, Try.ntmps12
      go_wp2_with fail
      obtain ⟨W, hW⟩ : ∃ W, W = (w.alloc (.cells #[.string a.node, .string a.idn, .string a.name, .string a.tag, .int .i64 a.addr, .int .i64 a.port, .bool a.passing, .int .i64 a.version, .bool a.gone] 28)).alloc (.cells #[.string b.node, .string b.idn, .string b.name, .string b.tag, .int .i64 b.addr, .int .i64 b.port, .bool b.passing, .int .i64 b.version, .bool b.gone] 28) := ⟨_, rfl⟩
      rw [← hW]
      have hga : W.heap[w.heap.size]? = some (.cells #[.string a.node, .string a.idn, .string a.name, .string a.tag, .int .i64 a.addr, .int .i64 a.port, .bool a.passing, .int .i64 a.version, .bool a.gone] 28 (0, 0)) := by
        rw [hW, Below.heap_alloc _ _ _ (by simp)]; exact heap_alloc_new w _
      have hgb : W.heap[w.heap.size + 1]? = some (.cells #[.string b.node, .string b.idn, .string b.name, .string b.tag, .int .i64 b.addr, .int .i64 b.port, .bool b.passing, .int .i64 b.version, .bool b.gone] 28 (0, 0)) := by
        have h := heap_alloc_new (w.alloc (.cells #[.string a.node, .string a.idn, .string a.name, .string a.tag, .int .i64 a.addr, .int .i64 a.port, .bool a.passing, .int .i64 a.version, .bool a.gone] 28)) (.cells #[.string b.node, .string b.idn, .string b.name, .string b.tag, .int .i64 b.addr, .int .i64 b.port, .bool b.passing, .int .i64 b.version, .bool b.gone] 28)
        rw [hW]; simpa using h
      have n0 : W.cell? ⟨w.heap.size, 0, none⟩ = some (.string a.node) := cellsAt hga 0
      have n1 : W.cell? ⟨w.heap.size, 1, none⟩ = some (.string a.idn) := cellsAt hga 1
      have n2 : W.cell? ⟨w.heap.size, 2, none⟩ = some (.string a.name) := cellsAt hga 2
      have n3 : W.cell? ⟨w.heap.size, 3, none⟩ = some (.string a.tag) := cellsAt hga 3
      have n4 : W.cell? ⟨w.heap.size, 4, none⟩ = some (.int .i64 a.addr) := cellsAt hga 4
      have n5 : W.cell? ⟨w.heap.size, 5, none⟩ = some (.int .i64 a.port) := cellsAt hga 5
      have n6 : W.cell? ⟨w.heap.size, 6, none⟩ = some (.bool a.passing) := cellsAt hga 6
      have n7 : W.cell? ⟨w.heap.size, 7, none⟩ = some (.int .i64 a.version) := cellsAt hga 7
      have n8 : W.cell? ⟨w.heap.size, 8, none⟩ = some (.bool a.gone) := cellsAt hga 8
      have m0 : W.cell? ⟨w.heap.size + 1, 0, none⟩ = some (.string b.node) := cellsAt hgb 0
      have m1 : W.cell? ⟨w.heap.size + 1, 1, none⟩ = some (.string b.idn) := cellsAt hgb 1
      have m2 : W.cell? ⟨w.heap.size + 1, 2, none⟩ = some (.string b.name) := cellsAt hgb 2
      have m3 : W.cell? ⟨w.heap.size + 1, 3, none⟩ = some (.string b.tag) := cellsAt hgb 3
      have m4 : W.cell? ⟨w.heap.size + 1, 4, none⟩ = some (.int .i64 b.addr) := cellsAt hgb 4
      have m5 : W.cell? ⟨w.heap.size + 1, 5, none⟩ = some (.int .i64 b.port) := cellsAt hgb 5
      have m6 : W.cell? ⟨w.heap.size + 1, 6, none⟩ = some (.bool b.passing) := cellsAt hgb 6
      have m7 : W.cell? ⟨w.heap.size + 1, 7, none⟩ = some (.int .i64 b.version) := cellsAt hgb 7
      have m8 : W.cell? ⟨w.heap.size + 1, 8, none⟩ = some (.bool b.gone) := cellsAt hgb 8
      have hsW : W.heap.size = w.heap.size + 1 + 1 := by rw [hW]; simp
      have x1 : w.heap.size < W.heap.size := by omega
      have x2 : w.heap.size + 1 < W.heap.size := by omega
      have HBW : Hid (Below w.heap.size w W) := by rw [hW]; exact HB0.out
      have HSW : Hid (W.heap.size = w.heap.size + 1 + 1) := hsW
      clear hga hgb hW hsW
      go_region_with (first | (go_at_call 31; refine (aloneE_any _ _).mono ?_; rintro e w' ⟨rfl, rfl⟩) | (go_at_call 30; refine (HCA.out W).mono ?_; rintro e w1 ⟨rfl, hb1⟩))
      all_goals
        have hs1 := hb1.size
        have s0 : w1.cell? ⟨w.heap.size, 0, none⟩ = some (.string a.node) := (hb1.cell (p := ⟨w.heap.size, 0, none⟩) x1).trans n0
        have s1 : w1.cell? ⟨w.heap.size, 1, none⟩ = some (.string a.idn) := (hb1.cell (p := ⟨w.heap.size, 1, none⟩) x1).trans n1
        have s2 : w1.cell? ⟨w.heap.size, 2, none⟩ = some (.string a.name) := (hb1.cell (p := ⟨w.heap.size, 2, none⟩) x1).trans n2
        have s3 : w1.cell? ⟨w.heap.size, 3, none⟩ = some (.string a.tag) := (hb1.cell (p := ⟨w.heap.size, 3, none⟩) x1).trans n3
        have s4 : w1.cell? ⟨w.heap.size, 4, none⟩ = some (.int .i64 a.addr) := (hb1.cell (p := ⟨w.heap.size, 4, none⟩) x1).trans n4
        have s5 : w1.cell? ⟨w.heap.size, 5, none⟩ = some (.int .i64 a.port) := (hb1.cell (p := ⟨w.heap.size, 5, none⟩) x1).trans n5
        have s6 : w1.cell? ⟨w.heap.size, 6, none⟩ = some (.bool a.passing) := (hb1.cell (p := ⟨w.heap.size, 6, none⟩) x1).trans n6
        have s7 : w1.cell? ⟨w.heap.size, 7, none⟩ = some (.int .i64 a.version) := (hb1.cell (p := ⟨w.heap.size, 7, none⟩) x1).trans n7
        have s8 : w1.cell? ⟨w.heap.size, 8, none⟩ = some (.bool a.gone) := (hb1.cell (p := ⟨w.heap.size, 8, none⟩) x1).trans n8
        have t0 : w1.cell? ⟨w.heap.size + 1, 0, none⟩ = some (.string b.node) := (hb1.cell (p := ⟨w.heap.size + 1, 0, none⟩) x2).trans m0
        have t1 : w1.cell? ⟨w.heap.size + 1, 1, none⟩ = some (.string b.idn) := (hb1.cell (p := ⟨w.heap.size + 1, 1, none⟩) x2).trans m1
        have t2 : w1.cell? ⟨w.heap.size + 1, 2, none⟩ = some (.string b.name) := (hb1.cell (p := ⟨w.heap.size + 1, 2, none⟩) x2).trans m2
        have t3 : w1.cell? ⟨w.heap.size + 1, 3, none⟩ = some (.string b.tag) := (hb1.cell (p := ⟨w.heap.size + 1, 3, none⟩) x2).trans m3
        have t4 : w1.cell? ⟨w.heap.size + 1, 4, none⟩ = some (.int .i64 b.addr) := (hb1.cell (p := ⟨w.heap.size + 1, 4, none⟩) x2).trans m4
        have t5 : w1.cell? ⟨w.heap.size + 1, 5, none⟩ = some (.int .i64 b.port) := (hb1.cell (p := ⟨w.heap.size + 1, 5, none⟩) x2).trans m5
        have t6 : w1.cell? ⟨w.heap.size + 1, 6, none⟩ = some (.bool b.passing) := (hb1.cell (p := ⟨w.heap.size + 1, 6, none⟩) x2).trans m6
        have t7 : w1.cell? ⟨w.heap.size + 1, 7, none⟩ = some (.int .i64 b.version) := (hb1.cell (p := ⟨w.heap.size + 1, 7, none⟩) x2).trans m7
        have t8 : w1.cell? ⟨w.heap.size + 1, 8, none⟩ = some (.bool b.gone) := (hb1.cell (p := ⟨w.heap.size + 1, 8, none⟩) x2).trans m8
        have HB1 : Hid (Below w.heap.size w w1) := HBW.out.trans (hb1.mono HBW.out.size)
        clear hb1 n0 n1 n2 n3 n4 n5 n6 n7 n8 m0 m1 m2 m3 m4 m5 m6 m7 m8
        go_wp2_with (go_at_call 28; refine (HO.out _).mono ?_; rintro e w2 ⟨rfl, hb2⟩)
        go_ret2
        exact ⟨by rw [HE.out]; rfl, HB1.out.trans (hb2.mono HB1.out.size)⟩
    · have hoz : (od != 0) = false := by simpa using ho
      have HE : Hid (ne = 0) := HN2.out.trans (if_pos (by simpa using ho))
      clear ho
      go_enter Try.func12, Try.ntmps12
      go_wp2_with fail
      obtain ⟨W, hW⟩ : ∃ W, W = (w.alloc (.cells #[.string a.node, .string a.idn, .string a.name, .string a.tag, .int .i64 a.addr, .int .i64 a.port, .bool a.passing, .int .i64 a.version, .bool a.gone] 28)).alloc (.cells #[.string b.node, .string b.idn, .string b.name, .string b.tag, .int .i64 b.addr, .int .i64 b.port, .bool b.passing, .int .i64 b.version, .bool b.gone] 28) := ⟨_, rfl⟩
      rw [← hW]
      have hga : W.heap[w.heap.size]? = some (.cells #[.string a.node, .string a.idn, .string a.name, .string a.tag, .int .i64 a.addr, .int .i64 a.port, .bool a.passing, .int .i64 a.version, .bool a.gone] 28 (0, 0)) := by
        rw [hW, Below.heap_alloc _ _ _ (by simp)]; exact heap_alloc_new w _
      have hgb : W.heap[w.heap.size + 1]? = some (.cells #[.string b.node, .string b.idn, .string b.name, .string b.tag, .int .i64 b.addr, .int .i64 b.port, .bool b.passing, .int .i64 b.version, .bool b.gone] 28 (0, 0)) := by
        have h := heap_alloc_new (w.alloc (.cells #[.string a.node, .string a.idn, .string a.name, .string a.tag, .int .i64 a.addr, .int .i64 a.port, .bool a.passing, .int .i64 a.version, .bool a.gone] 28)) (.cells #[.string b.node, .string b.idn, .string b.name, .string b.tag, .int .i64 b.addr, .int .i64 b.port, .bool b.passing, .int .i64 b.version, .bool b.gone] 28)
        rw [hW]; simpa using h
      have n0 : W.cell? ⟨w.heap.size, 0, none⟩ = some (.string a.node) := cellsAt hga 0
      have n1 : W.cell? ⟨w.heap.size, 1, none⟩ = some (.string a.idn) := cellsAt hga 1
      have n2 : W.cell? ⟨w.heap.size, 2, none⟩ = some (.string a.name) := cellsAt hga 2
      have n3 : W.cell? ⟨w.heap.size, 3, none⟩ = some (.string a.tag) := cellsAt hga 3
      have n4 : W.cell? ⟨w.heap.size, 4, none⟩ = some (.int .i64 a.addr) := cellsAt hga 4
      have n5 : W.cell? ⟨w.heap.size, 5, none⟩ = some (.int .i64 a.port) := cellsAt hga 5
      have n6 : W.cell? ⟨w.heap.size, 6, none⟩ = some (.bool a.passing) := cellsAt hga 6
      have n7 : W.cell? ⟨w.heap.size, 7, none⟩ = some (.int .i64 a.version) := cellsAt hga 7
      have n8 : W.cell? ⟨w.heap.size, 8, none⟩ = some (.bool a.gone) := cellsAt hga 8
      have m0 : W.cell? ⟨w.heap.size + 1, 0, none⟩ = some (.string b.node) := cellsAt hgb 0
      have m1 : W.cell? ⟨w.heap.size + 1, 1, none⟩ = some (.string b.idn) := cellsAt hgb 1
      have m2 : W.cell? ⟨w.heap.size + 1, 2, none⟩ = some (.string b.name) := cellsAt hgb 2
      have m3 : W.cell? ⟨w.heap.size + 1, 3, none⟩ = some (.string b.tag) := cellsAt hgb 3
      have m4 : W.cell? ⟨w.heap.size + 1, 4, none⟩ = some (.int .i64 b.addr) := cellsAt hgb 4
      have m5 : W.cell? ⟨w.heap.size + 1, 5, none⟩ = some (.int .i64 b.port) := cellsAt hgb 5
      have m6 : W.cell? ⟨w.heap.size + 1, 6, none⟩ = some (.bool b.passing) := cellsAt hgb 6
      have m7 : W.cell? ⟨w.heap.size + 1, 7, none⟩ = some (.int .i64 b.version) := cellsAt hgb 7
      have m8 : W.cell? ⟨w.heap.size + 1, 8, none⟩ = some (.bool b.gone) := cellsAt hgb 8
      have hsW : W.heap.size = w.heap.size + 1 + 1 := by rw [hW]; simp
      have x1 : w.heap.size < W.heap.size := by omega
      have x2 : w.heap.size + 1 < W.heap.size := by omega
      have HBW : Hid (Below w.heap.size w W) := by rw [hW]; exact HB0.out
      have HSW : Hid (W.heap.size = w.heap.size + 1 + 1) := hsW
      clear hga hgb hW hsW
      go_region_with (first | (go_at_call 31; refine (aloneE_any _ _).mono ?_; rintro e w' ⟨rfl, rfl⟩) | (go_at_call 30; refine (HCA.out W).mono ?_; rintro e w1 ⟨rfl, hb1⟩))
      all_goals
        have hs1 := hb1.size
        have s0 : w1.cell? ⟨w.heap.size, 0, none⟩ = some (.string a.node) := (hb1.cell (p := ⟨w.heap.size, 0, none⟩) x1).trans n0
        have s1 : w1.cell? ⟨w.heap.size, 1, none⟩ = some (.string a.idn) := (hb1.cell (p := ⟨w.heap.size, 1, none⟩) x1).trans n1
        have s2 : w1.cell? ⟨w.heap.size, 2, none⟩ = some (.string a.name) := (hb1.cell (p := ⟨w.heap.size, 2, none⟩) x1).trans n2
        have s3 : w1.cell? ⟨w.heap.size, 3, none⟩ = some (.string a.tag) := (hb1.cell (p := ⟨w.heap.size, 3, none⟩) x1).trans n3
        have s4 : w1.cell? ⟨w.heap.size, 4, none⟩ = some (.int .i64 a.addr) := (hb1.cell (p := ⟨w.heap.size, 4, none⟩) x1).trans n4
        have s5 : w1.cell? ⟨w.heap.size, 5, none⟩ = some (.int .i64 a.port) := (hb1.cell (p := ⟨w.heap.size, 5, none⟩) x1).trans n5
        have s6 : w1.cell? ⟨w.heap.size, 6, none⟩ = some (.bool a.passing) := (hb1.cell (p := ⟨w.heap.size, 6, none⟩) x1).trans n6
        have s7 : w1.cell? ⟨w.heap.size, 7, none⟩ = some (.int .i64 a.version) := (hb1.cell (p := ⟨w.heap.size, 7, none⟩) x1).trans n7
        have s8 : w1.cell? ⟨w.heap.size, 8, none⟩ = some (.bool a.gone) := (hb1.cell (p := ⟨w.heap.size, 8, none⟩) x1).trans n8
        have t0 : w1.cell? ⟨w.heap.size + 1, 0, none⟩ = some (.string b.node) := (hb1.cell (p := ⟨w.heap.size + 1, 0, none⟩) x2).trans m0
        have t1 : w1.cell? ⟨w.heap.size + 1, 1, none⟩ = some (.string b.idn) := (hb1.cell (p := ⟨w.heap.size + 1, 1, none⟩) x2).trans m1
        have t2 : w1.cell? ⟨w.heap.size + 1, 2, none⟩ = some (.string b.name) := (hb1.cell (p := ⟨w.heap.size + 1, 2, none⟩) x2).trans m2
        have t3 : w1.cell? ⟨w.heap.size + 1, 3, none⟩ = some (.string b.tag) := (hb1.cell (p := ⟨w.heap.size + 1, 3, none⟩) x2).trans m3
        have t4 : w1.cell? ⟨w.heap.size + 1, 4, none⟩ = some (.int .i64 b.addr) := (hb1.cell (p := ⟨w.heap.size + 1, 4, none⟩) x2).trans m4
        have t5 : w1.cell? ⟨w.heap.size + 1, 5, none⟩ = some (.int .i64 b.port) := (hb1.cell (p := ⟨w.heap.size + 1, 5, none⟩) x2).trans m5
        have t6 : w1.cell? ⟨w.heap.size + 1, 6, none⟩ = some (.bool b.passing) := (hb1.cell (p := ⟨w.heap.size + 1, 6, none⟩) x2).trans m6
        have t7 : w1.cell? ⟨w.heap.size + 1, 7, none⟩ = some (.int .i64 b.version) := (hb1.cell (p := ⟨w.heap.size + 1, 7, none⟩) x2).trans m7
        have t8 : w1.cell? ⟨w.heap.size + 1, 8, none⟩ = some (.bool b.gone) := (hb1.cell (p := ⟨w.heap.size + 1, 8, none⟩) x2).trans m8
        have HB1 : Hid (Below w.heap.size w w1) := HBW.out.trans (hb1.mono HBW.out.size)
        clear hb1 n0 n1 n2 n3 n4 n5 n6 n7 n8 m0 m1 m2 m3 m4 m5 m6 m7 m8
        go_wp2_with fail
        refine (HO.out _).mono ?_
        rintro e w2 ⟨rfl, hb2⟩
        have p0 : w2.cell? ⟨w.heap.size, 0, none⟩ = some (.string a.node) := (hb2.cell (p := ⟨w.heap.size, 0, none⟩) (by show w.heap.size < w1.heap.size; omega)).trans s0
        have p1 : w2.cell? ⟨w.heap.size, 1, none⟩ = some (.string a.idn) := (hb2.cell (p := ⟨w.heap.size, 1, none⟩) (by show w.heap.size < w1.heap.size; omega)).trans s1
        have p2 : w2.cell? ⟨w.heap.size, 2, none⟩ = some (.string a.name) := (hb2.cell (p := ⟨w.heap.size, 2, none⟩) (by show w.heap.size < w1.heap.size; omega)).trans s2
        have p3 : w2.cell? ⟨w.heap.size, 3, none⟩ = some (.string a.tag) := (hb2.cell (p := ⟨w.heap.size, 3, none⟩) (by show w.heap.size < w1.heap.size; omega)).trans s3
        have p4 : w2.cell? ⟨w.heap.size, 4, none⟩ = some (.int .i64 a.addr) := (hb2.cell (p := ⟨w.heap.size, 4, none⟩) (by show w.heap.size < w1.heap.size; omega)).trans s4
        have p5 : w2.cell? ⟨w.heap.size, 5, none⟩ = some (.int .i64 a.port) := (hb2.cell (p := ⟨w.heap.size, 5, none⟩) (by show w.heap.size < w1.heap.size; omega)).trans s5
        have p6 : w2.cell? ⟨w.heap.size, 6, none⟩ = some (.bool a.passing) := (hb2.cell (p := ⟨w.heap.size, 6, none⟩) (by show w.heap.size < w1.heap.size; omega)).trans s6
        have p7 : w2.cell? ⟨w.heap.size, 7, none⟩ = some (.int .i64 a.version) := (hb2.cell (p := ⟨w.heap.size, 7, none⟩) (by show w.heap.size < w1.heap.size; omega)).trans s7
        have p8 : w2.cell? ⟨w.heap.size, 8, none⟩ = some (.bool a.gone) := (hb2.cell (p := ⟨w.heap.size, 8, none⟩) (by show w.heap.size < w1.heap.size; omega)).trans s8
        have q0 : w2.cell? ⟨w.heap.size + 1, 0, none⟩ = some (.string b.node) := (hb2.cell (p := ⟨w.heap.size + 1, 0, none⟩) (by show w.heap.size + 1 < w1.heap.size; omega)).trans t0
        have q1 : w2.cell? ⟨w.heap.size + 1, 1, none⟩ = some (.string b.idn) := (hb2.cell (p := ⟨w.heap.size + 1, 1, none⟩) (by show w.heap.size + 1 < w1.heap.size; omega)).trans t1
        have q2 : w2.cell? ⟨w.heap.size + 1, 2, none⟩ = some (.string b.name) := (hb2.cell (p := ⟨w.heap.size + 1, 2, none⟩) (by show w.heap.size + 1 < w1.heap.size; omega)).trans t2
        have q3 : w2.cell? ⟨w.heap.size + 1, 3, none⟩ = some (.string b.tag) := (hb2.cell (p := ⟨w.heap.size + 1, 3, none⟩) (by show w.heap.size + 1 < w1.heap.size; omega)).trans t3
        have q4 : w2.cell? ⟨w.heap.size + 1, 4, none⟩ = some (.int .i64 b.addr) := (hb2.cell (p := ⟨w.heap.size + 1, 4, none⟩) (by show w.heap.size + 1 < w1.heap.size; omega)).trans t4
        have q5 : w2.cell? ⟨w.heap.size + 1, 5, none⟩ = some (.int .i64 b.port) := (hb2.cell (p := ⟨w.heap.size + 1, 5, none⟩) (by show w.heap.size + 1 < w1.heap.size; omega)).trans t5
        have q6 : w2.cell? ⟨w.heap.size + 1, 6, none⟩ = some (.bool b.passing) := (hb2.cell (p := ⟨w.heap.size + 1, 6, none⟩) (by show w.heap.size + 1 < w1.heap.size; omega)).trans t6
        have q7 : w2.cell? ⟨w.heap.size + 1, 7, none⟩ = some (.int .i64 b.version) := (hb2.cell (p := ⟨w.heap.size + 1, 7, none⟩) (by show w.heap.size + 1 < w1.heap.size; omega)).trans t7
        have q8 : w2.cell? ⟨w.heap.size + 1, 8, none⟩ = some (.bool b.gone) := (hb2.cell (p := ⟨w.heap.size + 1, 8, none⟩) (by show w.heap.size + 1 < w1.heap.size; omega)).trans t8
        have HB2 : Hid (Below w.heap.size w w2) := HB1.out.trans (hb2.mono HB1.out.size)
        clear hb2 s0 s1 s2 s3 s4 s5 s6 s7 s8 t0 t1 t2 t3 t4 t5 t6 t7 t8
        go_wp2_with (go_at_call 32; refine (HNW.out _).mono ?_; rintro e w3 ⟨rfl, hb3⟩)
        go_ret2
        exact ⟨by rw [HE.out]; simp, HB2.out.trans (hb3.mono HB2.out.size)⟩
  · have hz : (chkTwo [a] [b] != 0) = true := by simpa using h0
    have HE : Hid (ne = chkTwo [a] [b]) := HNE.out.trans (if_neg h0)
    have HN : Hid ((ne == 0) = false) := (show (ne == 0) = false by rw [HE.out]; simpa using h0)
    clear h0 HNE
    generalize chkTwo [a] [b] = ct at *
    go_enter Try.func12, Try.ntmps12
    go_wp2_with fail
    obtain ⟨W, hW⟩ : ∃ W, W = (w.alloc (.cells #[.string a.node, .string a.idn, .string a.name, .string a.tag, .int .i64 a.addr, .int .i64 a.port, .bool a.passing, .int .i64 a.version, .bool a.gone] 28)).alloc (.cells #[.string b.node, .string b.idn, .string b.name, .string b.tag, .int .i64 b.addr, .int .i64 b.port, .bool b.passing, .int .i64 b.version, .bool b.gone] 28) := ⟨_, rfl⟩
    rw [← hW]
    have hga : W.heap[w.heap.size]? = some (.cells #[.string a.node, .string a.idn, .string a.name, .string a.tag, .int .i64 a.addr, .int .i64 a.port, .bool a.passing, .int .i64 a.version, .bool a.gone] 28 (0, 0)) := by
      rw [hW, Below.heap_alloc _ _ _ (by simp)]; exact heap_alloc_new w _
    have hgb : W.heap[w.heap.size + 1]? = some (.cells #[.string b.node, .string b.idn, .string b.name, .string b.tag, .int .i64 b.addr, .int .i64 b.port, .bool b.passing, .int .i64 b.version, .bool b.gone] 28 (0, 0)) := by
      have h := heap_alloc_new (w.alloc (.cells #[.string a.node, .string a.idn, .string a.name, .string a.tag, .int .i64 a.addr, .int .i64 a.port, .bool a.passing, .int .i64 a.version, .bool a.gone] 28)) (.cells #[.string b.node, .string b.idn, .string b.name, .string b.tag, .int .i64 b.addr, .int .i64 b.port, .bool b.passing, .int .i64 b.version, .bool b.gone] 28)
      rw [hW]; simpa using h
    have n0 : W.cell? ⟨w.heap.size, 0, none⟩ = some (.string a.node) := cellsAt hga 0
    have n1 : W.cell? ⟨w.heap.size, 1, none⟩ = some (.string a.idn) := cellsAt hga 1
    have n2 : W.cell? ⟨w.heap.size, 2, none⟩ = some (.string a.name) := cellsAt hga 2
    have n3 : W.cell? ⟨w.heap.size, 3, none⟩ = some (.string a.tag) := cellsAt hga 3
    have n4 : W.cell? ⟨w.heap.size, 4, none⟩ = some (.int .i64 a.addr) := cellsAt hga 4
    have n5 : W.cell? ⟨w.heap.size, 5, none⟩ = some (.int .i64 a.port) := cellsAt hga 5
    have n6 : W.cell? ⟨w.heap.size, 6, none⟩ = some (.bool a.passing) := cellsAt hga 6
    have n7 : W.cell? ⟨w.heap.size, 7, none⟩ = some (.int .i64 a.version) := cellsAt hga 7
    have n8 : W.cell? ⟨w.heap.size, 8, none⟩ = some (.bool a.gone) := cellsAt hga 8
    have m0 : W.cell? ⟨w.heap.size + 1, 0, none⟩ = some (.string b.node) := cellsAt hgb 0
    have m1 : W.cell? ⟨w.heap.size + 1, 1, none⟩ = some (.string b.idn) := cellsAt hgb 1
    have m2 : W.cell? ⟨w.heap.size + 1, 2, none⟩ = some (.string b.name) := cellsAt hgb 2
    have m3 : W.cell? ⟨w.heap.size + 1, 3, none⟩ = some (.string b.tag) := cellsAt hgb 3
    have m4 : W.cell? ⟨w.heap.size + 1, 4, none⟩ = some (.int .i64 b.addr) := cellsAt hgb 4
    have m5 : W.cell? ⟨w.heap.size + 1, 5, none⟩ = some (.int .i64 b.port) := cellsAt hgb 5
    have m6 : W.cell? ⟨w.heap.size + 1, 6, none⟩ = some (.bool b.passing) := cellsAt hgb 6
    have m7 : W.cell? ⟨w.heap.size + 1, 7, none⟩ = some (.int .i64 b.version) := cellsAt hgb 7
    have m8 : W.cell? ⟨w.heap.size + 1, 8, none⟩ = some (.bool b.gone) := cellsAt hgb 8
    have hsW : W.heap.size = w.heap.size + 1 + 1 := by rw [hW]; simp
    have x1 : w.heap.size < W.heap.size := by omega
    have x2 : w.heap.size + 1 < W.heap.size := by omega
    have HBW : Hid (Below w.heap.size w W) := by rw [hW]; exact HB0.out
    have HSW : Hid (W.heap.size = w.heap.size + 1 + 1) := hsW
    clear hga hgb hW hsW
    go_region_with (first | (go_at_call 31; refine (aloneE_any _ _).mono ?_; rintro e w' ⟨rfl, rfl⟩) | (go_at_call 30; refine (HCA.out W).mono ?_; rintro e w1 ⟨rfl, hb1⟩))
    all_goals
      have hs1 := hb1.size
      have s0 : w1.cell? ⟨w.heap.size, 0, none⟩ = some (.string a.node) := (hb1.cell (p := ⟨w.heap.size, 0, none⟩) x1).trans n0
      have s1 : w1.cell? ⟨w.heap.size, 1, none⟩ = some (.string a.idn) := (hb1.cell (p := ⟨w.heap.size, 1, none⟩) x1).trans n1
      have s2 : w1.cell? ⟨w.heap.size, 2, none⟩ = some (.string a.name) := (hb1.cell (p := ⟨w.heap.size, 2, none⟩) x1).trans n2
      have s3 : w1.cell? ⟨w.heap.size, 3, none⟩ = some (.string a.tag) := (hb1.cell (p := ⟨w.heap.size, 3, none⟩) x1).trans n3
      have s4 : w1.cell? ⟨w.heap.size, 4, none⟩ = some (.int .i64 a.addr) := (hb1.cell (p := ⟨w.heap.size, 4, none⟩) x1).trans n4
      have s5 : w1.cell? ⟨w.heap.size, 5, none⟩ = some (.int .i64 a.port) := (hb1.cell (p := ⟨w.heap.size, 5, none⟩) x1).trans n5
      have s6 : w1.cell? ⟨w.heap.size, 6, none⟩ = some (.bool a.passing) := (hb1.cell (p := ⟨w.heap.size, 6, none⟩) x1).trans n6
      have s7 : w1.cell? ⟨w.heap.size, 7, none⟩ = some (.int .i64 a.version) := (hb1.cell (p := ⟨w.heap.size, 7, none⟩) x1).trans n7
      have s8 : w1.cell? ⟨w.heap.size, 8, none⟩ = some (.bool a.gone) := (hb1.cell (p := ⟨w.heap.size, 8, none⟩) x1).trans n8
      have t0 : w1.cell? ⟨w.heap.size + 1, 0, none⟩ = some (.string b.node) := (hb1.cell (p := ⟨w.heap.size + 1, 0, none⟩) x2).trans m0
      have t1 : w1.cell? ⟨w.heap.size + 1, 1, none⟩ = some (.string b.idn) := (hb1.cell (p := ⟨w.heap.size + 1, 1, none⟩) x2).trans m1
      have t2 : w1.cell? ⟨w.heap.size + 1, 2, none⟩ = some (.string b.name) := (hb1.cell (p := ⟨w.heap.size + 1, 2, none⟩) x2).trans m2
      have t3 : w1.cell? ⟨w.heap.size + 1, 3, none⟩ = some (.string b.tag) := (hb1.cell (p := ⟨w.heap.size + 1, 3, none⟩) x2).trans m3
      have t4 : w1.cell? ⟨w.heap.size + 1, 4, none⟩ = some (.int .i64 b.addr) := (hb1.cell (p := ⟨w.heap.size + 1, 4, none⟩) x2).trans m4
      have t5 : w1.cell? ⟨w.heap.size + 1, 5, none⟩ = some (.int .i64 b.port) := (hb1.cell (p := ⟨w.heap.size + 1, 5, none⟩) x2).trans m5
      have t6 : w1.cell? ⟨w.heap.size + 1, 6, none⟩ = some (.bool b.passing) := (hb1.cell (p := ⟨w.heap.size + 1, 6, none⟩) x2).trans m6
      have t7 : w1.cell? ⟨w.heap.size + 1, 7, none⟩ = some (.int .i64 b.version) := (hb1.cell (p := ⟨w.heap.size + 1, 7, none⟩) x2).trans m7
      have t8 : w1.cell? ⟨w.heap.size + 1, 8, none⟩ = some (.bool b.gone) := (hb1.cell (p := ⟨w.heap.size + 1, 8, none⟩) x2).trans m8
      have HB1 : Hid (Below w.heap.size w w1) := HBW.out.trans (hb1.mono HBW.out.size)
      clear hb1 n0 n1 n2 n3 n4 n5 n6 n7 n8 m0 m1 m2 m3 m4 m5 m6 m7 m8
      go_wp2_with fail
      go_ret2
      exact ⟨by rw [HN.out, HE.out]; rfl, HB1.out⟩

end Sv
end Go.Proofs.Ytjpcngkddejdjae
