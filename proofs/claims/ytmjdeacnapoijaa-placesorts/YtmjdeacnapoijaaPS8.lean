
/- The document's own sort: how far a name is. -/
import Derived.Test.YtmjdeacnapoijaaPS6
namespace Go.Proofs.Ytmjdeacnapoijaa
open Go.RowKit Go.WideMaps Go.Maps

/-- How far a name is by the document: -1, if nobody tells of it. -/
def dN (p : Pl) (ms : List Wh.Whe) (s : ByteArray) : Int := (dstO (farW p) ms s).getD (-1)
theorem dN_dV (p : Pl) (ms : List Wh.Whe) (s : ByteArray) (hp : OkP p) (hok : ∀ j, j < ms.length → OkP (toPl (plc (ms.getD j Wh.dm)))) :
    (dN p ms s = -1 ∧ dV (Dd (farW p) ms ms.length) s = 9223372036854775807) ∨ (0 ≤ dN p ms s ∧ dN p ms s ≤ 1000000000 ∧ dV (Dd (farW p) ms ms.length) s = dN p ms s) := by
  rw [dV_is]
  unfold dN
  cases h : dstO (farW p) ms s with
  | none => exact .inl ⟨rfl, rfl⟩
  | some d =>
    obtain ⟨m, hm, _, hd⟩ := dstO_mem h
    obtain ⟨j, hj, rfl⟩ := List.getElem_of_mem hm
    have hk := hok j hj
    rw [show ms.getD j Wh.dm = ms[j] by simp [List.getD, List.getElem?_eq_getElem hj]] at hk
    have hb := farW_bd hp hk
    rw [hd] at hb
    exact .inr ⟨hb.1, hb.2, rfl⟩

/-- Whether one stands ahead of another one, as the document asks it. -/
def aheadB (x y : Int) (a b : ByteArray) : Bool := (decide (x < 0) && decide (0 ≤ y)) || ((decide (x < 0) == decide (y < 0)) && (decide (y < x) || (decide (y = x) && !Op.bytesLess b.toList a.toList)))

set_option maxHeartbeats 3200000 in
set_option maxRecDepth 100000 in
theorem farName_any (p : Pl) (ms : List Wh.Whe) (v : Value) (s : ByteArray) (w : World) (hv : Wh.Sl w v ms) (hn : ms.length ≤ 100) (hp : OkP p) (hok : ∀ j, j < ms.length → OkP (toPl (plc (ms.getD j Wh.dm)))) :
    Calls Try.prog 41 #[.agg #[.int .i64 p.x, .int .i64 p.y, .int .i64 p.z, .int .i64 p.h, .int .i64 p.s], v, .string s] w fun e w' => e = .returned (.int .i64 (dN p ms s)) ∧ Below w.heap.size w w' := by
  obtain ⟨pa, ca, rfl, _, ha⟩ := hv
  have HA : Hid (ms = [] ∨ ∃ b off, pa = some ⟨b, off, none⟩ ∧ b < w.heap.size ∧ Wh.Row w b off ms) := ha
  have HOK : Hid (∀ j, j < ms.length → OkP (toPl (plc (ms.getD j Wh.dm)))) := hok
  have HPO : Hid (OkP p) := hp
  have HNO : Hid ((∀ j, j < ms.length → (ms.getD j Wh.dm).node ≠ s) → dN p ms s = -1) := fun h => by
    unfold dN dstO
    have : ms.find? (fun m => decide (m.node = s)) = none := by
      rw [List.find?_eq_none]
      intro x hx
      obtain ⟨j, hj, rfl⟩ := List.getElem_of_mem hx
      have := h j hj
      rw [show ms.getD j Wh.dm = ms[j] by simp [List.getD, List.getElem?_eq_getElem hj]] at this
      simpa using this
    rw [this]; rfl
  have HYE : Hid (∀ k, k < ms.length → (∀ j, j < k → (ms.getD j Wh.dm).node ≠ s) → (ms.getD k Wh.dm).node = s → dN p ms s = farW p (ms.getD k Wh.dm)) := fun k hk h1 h2 => by
    unfold dN dstO
    have : ms.find? (fun m => decide (m.node = s)) = some (ms.getD k Wh.dm) := by
      rw [show ms.getD k Wh.dm = ms[k] by simp [List.getD, List.getElem?_eq_getElem hk]] at h2 ⊢
      rw [List.find?_eq_some_iff_getElem]
      refine ⟨by simpa using h2, k, hk, rfl, fun j hj => ?_⟩
      have := h1 j hj
      rw [show ms.getD j Wh.dm = ms[j]'(by omega) by simp [List.getD, List.getElem?_eq_getElem (show j < ms.length by omega)]] at this
      simpa using this
    rw [this]; rfl
  clear ha hok hp
  generalize dN p ms s = res at *
  generalize hN : ms.length = n at *
  have HN : Hid (ms.length = n) := hN
  clear hN
  go_enter Try.func41, Try.ntmps41
  go_wp2_with fail
  obtain ⟨W, hW⟩ : ∃ W, W = w.alloc (.cells #[.int .i64 p.x, .int .i64 p.y, .int .i64 p.z, .int .i64 p.h, .int .i64 p.s] 29) := ⟨_, rfl⟩
  rw [← hW]
  have hbW : Below w.heap.size w W := by rw [hW]; exact (Below.refl _ _).alloc (Nat.le_refl _) _
  have hga : W.heap[w.heap.size]? = some (.cells #[.int .i64 p.x, .int .i64 p.y, .int .i64 p.z, .int .i64 p.h, .int .i64 p.s] 29 (0, 0)) := by rw [hW]; exact heap_alloc_new w _
  have n0 : W.cell? ⟨w.heap.size, 0, none⟩ = some (.int .i64 p.x) := cellsAt hga 0
  have n1 : W.cell? ⟨w.heap.size, 1, none⟩ = some (.int .i64 p.y) := cellsAt hga 1
  have n2 : W.cell? ⟨w.heap.size, 2, none⟩ = some (.int .i64 p.z) := cellsAt hga 2
  have n3 : W.cell? ⟨w.heap.size, 3, none⟩ = some (.int .i64 p.h) := cellsAt hga 3
  have n4 : W.cell? ⟨w.heap.size, 4, none⟩ = some (.int .i64 p.s) := cellsAt hga 4
  have HBW : Hid (Below w.heap.size w W) := hbW
  clear hga hW
  go_loopw [7] (fun i wr => ∃ k : Nat, k ≤ n ∧ i = .int .i64 k ∧ wr = W ∧ Hid (∀ j, j < k → (ms.getD j Wh.dm).node ≠ s)) (fun i _ => n - (intOf i).toNat)
  case atStart => exact ⟨0, Nat.zero_le _, rfl, rfl, fun j h => absurd h (Nat.not_lt_zero _)⟩
  case round =>
    obtain ⟨k, hk, rfl, hwr, HZ⟩ := hrel
    subst hwr
    by_cases hlt : k < n
    · obtain ⟨b, off, hp1, hl1, hr⟩ : ∃ b off, pa = some ⟨b, off, none⟩ ∧ b < w.heap.size ∧ Wh.Row w b off ms := by
        rcases HA.out with h | h
        · have := HN.out; rw [h] at this; simp at this; omega
        · exact h
      subst hp1
      obtain ⟨c0, c1, c2, c3, c4, c5⟩ := hr.later HBW.out hl1 k (by rw [HN.out]; exact hlt)
      have HOM : Hid (OkP (toPl (plc (ms.getD k Wh.dm)))) := HOK.out k hlt
      have HZ2 : Hid ((ms.getD k Wh.dm).node ≠ s → ∀ j, j < k + 1 → (ms.getD j Wh.dm).node ≠ s) := fun h j hj => by
        rcases Nat.lt_succ_iff_lt_or_eq.1 hj with h2 | rfl
        · exact HZ.out j h2
        · exact h
      have HY2 : Hid ((ms.getD k Wh.dm).node = s → res = farW p (ms.getD k Wh.dm)) := fun h => HYE.out k hlt HZ.out h
      clear hr
      generalize ms.getD k Wh.dm = m at *
      by_cases hse : m.node = s
      · have HR : Hid (res = farW p m) := HY2.out hse
        have HFO : Hid (∀ W, Calls Try.prog 14 #[.agg #[.int .i64 p.x, .int .i64 p.y, .int .i64 p.z, .int .i64 p.h, .int .i64 p.s], .agg #[.int .i64 m.x, .int .i64 m.y, .int .i64 m.z, .int .i64 m.h, .int .i64 m.s]] W fun e w' => e = .returned (.int .i64 (farW p m)) ∧ Below W.heap.size W w') := fun W => farOf_any p (toPl (plc m)) W HPO.out HOM.out
        rw [hse] at c0
        clear HY2 HZ2 hse
        generalize farW p m = fd at *
        obtain ⟨nd, x, y, z, h, s2⟩ := m
        simp only at *
        have hlb : b < wr.heap.size := Nat.lt_of_lt_of_le hl1 HBW.out.size
        have hlw : w.heap.size < wr.heap.size := World.block_lt_of_cell? wr ⟨w.heap.size, 0, none⟩ n0
        have hk0 : (0 : Int) ≤ (k : Int) := Int.natCast_nonneg _
        have hk1 : (k : Int) < (n : Int) := by omega
        go_wp2_with fail
        go_region_held3 (fun w' => w'.cell? ⟨w.heap.size, 0, none⟩ = some (.int .i64 p.x) ∧ w'.cell? ⟨w.heap.size, 1, none⟩ = some (.int .i64 p.y) ∧ w'.cell? ⟨w.heap.size, 2, none⟩ = some (.int .i64 p.z) ∧ w'.cell? ⟨w.heap.size, 3, none⟩ = some (.int .i64 p.h) ∧ w'.cell? ⟨w.heap.size, 4, none⟩ = some (.int .i64 p.s) ∧ w'.cell? ⟨b, off + k * 6 + 1, none⟩ = some (.int .i64 x) ∧ w'.cell? ⟨b, off + k * 6 + 2, none⟩ = some (.int .i64 y) ∧ w'.cell? ⟨b, off + k * 6 + 3, none⟩ = some (.int .i64 z) ∧ w'.cell? ⟨b, off + k * 6 + 4, none⟩ = some (.int .i64 h) ∧ w'.cell? ⟨b, off + k * 6 + 5, none⟩ = some (.int .i64 s2))
          (first
            | go_keep
            | (go_split_ands
               refine ⟨?_, ?_, ?_, ?_, ?_, ?_, ?_, ?_, ?_, ?_⟩
               all_goals ((rw [hb8.cell (by first | exact hlw | exact hlb | (show w.heap.size < _; simp; omega) | (show b < _; simp; omega))]; first | assumption | simp [*]))))
          (first
            | (go_at_call 14; refine (HFO.out _).mono ?_; rintro e w8 ⟨rfl, hb8⟩))
        have HB8 : Hid (Below w.heap.size w w8) := HBW.out.drew.trans (hb8.mono (by simp; omega))
        clear hb8
        go_wp2_with fail
        go_ret
        exact ⟨ret_int HR.out.symm, HB8.out⟩
      · have HZ3 : Hid (∀ j, j < k + 1 → (ms.getD j Wh.dm).node ≠ s) := HZ2.out hse
        obtain ⟨g1, g2⟩ := beq_name hse
        clear HY2 HZ2 hse
        generalize m.node = nd at *
        go_wp2_with fail
        exact ⟨⟨k + 1, by omega, by go_num, by first | rfl | trivial, HZ3⟩, by simp [intOf]; omega⟩
    · have HR : Hid (res = -1) := HNO.out fun j hj => HZ.out j (by omega)
      go_wp2_with fail
      go_ret
      exact ⟨ret_int HR.out.symm, HBW.out⟩

end Go.Proofs.Ytmjdeacnapoijaa
