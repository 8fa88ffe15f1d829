
/- What PlaceSorts is handed: places that are told, and texts, read out of memory. -/
import Derived.Test.YtmjdeacnapoijaaPN
import Derived.Test.YtmjdeacnapoijaaPS5
namespace Go.Proofs.Ytmjdeacnapoijaa
open Go.ChangeShapes Go.WideShapes Go.ChangeAt Go.RowKit

section
variable {H : Type} {enc : TypeId × Value → H} {w : World} {base : Nat} {spare : Nat → Bool} {held : Bool}

theorem Try.cellsWh : Try.prog.cellsOf 44 = 6 := by kernel_rfl
theorem Try.cellsS : Try.prog.cellsOf 9 = 1 := by kernel_rfl

set_option maxRecDepth 100000 in
theorem wh_of_trod {fuel : Nat} {cs : List Value} {x : DataW H × List MemPlace} (h : DataW.trod enc Try.prog w base spare held fuel 44 cs = some x) :
    ∃ m : Wh.Whe, cs = m.cs ∧ m.ok := by
  obtain ⟨xs, n, _, _, hl, hlen, hf⟩ := DataW.trod_struct Try.underlying44 h
  rw [Try.cellsWh] at hl
  match cs, hl with
  | [c0, c1, c2, c3, c4, c5], _ =>
    match xs, hlen with
    | [y0, y1], _ =>
      have h0 := hf 0 _ rfl
      have h1 := hf 1 _ rfl
      simp [Try.cellsS] at h0
      simp [Try.cellsPl] at h1
      obtain ⟨s, e0, _, w0⟩ := DataW.trod_string Try.underlying9 h0
      obtain ⟨p, e1, _⟩ := pl_of_trod h1
      simp only [List.cons.injEq, and_true] at e0 e1
      obtain ⟨r1, r2, r3, r4, r5⟩ := e1
      subst e0 r1 r2 r3 r4 r5
      exact ⟨⟨s, p.x, p.y, p.z, p.h, p.s⟩, rfl, w0⟩

set_option maxRecDepth 100000 in
theorem open_whs {r : Reach} {b0 : Nat} {v : Value} {d : DataW H} {p : List MemPlace} (hv : Value.okWide Try.prog w r b0 39 v) (h : DataW.Trod enc Try.prog w base spare held 39 v d p) :
    ∃ ms : List Wh.Whe, Wh.Sl w v ms ∧ ms.length ≤ maxLen := by
  obtain ⟨a, len, cap, rfl⟩ := okWide_slice Try.underlying39 hv
  obtain ⟨fuel, hf⟩ := h
  rcases Go.Deep.open_slice Try.underlying39 hf with ⟨hcs, _⟩ | ⟨x, l, c, m, n, D, Pl, hcs, hb, hl, hm, hmm, _, hx⟩
  · simp [Value.cells] at hcs
    obtain ⟨rfl, rfl, rfl⟩ := hcs
    exact ⟨[], ⟨none, 0, rfl, Wh.ns_get (by simp), .inl rfl⟩, by simp⟩
  · simp [Value.cells] at hcs
    obtain ⟨rfl, rfl, rfl⟩ := hcs
    have hlm : len ≤ m := by rw [hmm]; split <;> omega
    have hall : ∀ i, i < len → ∃ q : Wh.Whe, (∀ t, t < 6 → w.cell? (x.add (i * 6 + t)) = q.cs[t]?) ∧ q.ok := fun i hi => by
      obtain ⟨cs', h1, h2⟩ := hx i (by omega)
      obtain ⟨q, hq, hs⟩ := wh_of_trod h2
      rw [Try.cellsWh] at h1
      obtain ⟨_, _, h3⟩ := World.cells?_some h1
      refine ⟨q, fun t ht => ?_, hs⟩
      rw [← Go.Deep.add_add, h3 t ht, hq]
    have hinh : Inhabited Wh.Whe := ⟨Wh.dm⟩
    obtain ⟨F, hF⟩ := Go.Deep.choose_lt (α := Wh.Whe) (p := fun i q => (∀ t, t < 6 → w.cell? (x.add (i * 6 + t)) = q.cs[t]?) ∧ q.ok) hall
    have hget : ∀ j, j < len → ((List.range len).map F).getD j Wh.dm = F j := fun j hj => by simp [List.getD, hj]
    refine ⟨(List.range len).map F, ⟨some x, cap, by simp, Wh.ns_get (fun q hq => ?_), ?_⟩, by simp; omega⟩
    · obtain ⟨j, hj, rfl⟩ := List.mem_map.1 hq
      exact (hF j (List.mem_range.1 hj)).2
    · by_cases h0 : len = 0
      · left; simp [h0]
      · right
        obtain ⟨b, off, spot⟩ := x
        have hc0 := (hF 0 (by omega)).1 0 (by omega)
        have hspot : spot = none := by simpa [Addr.add] using World.cell?_spot hc0
        subst hspot
        have hcell : ∀ j, j < len → ∀ t, t < 6 → w.cell? ⟨b, off + j * 6 + t, none⟩ = (F j).cs[t]? := fun j hj t ht => by
          have := (hF j hj).1 t ht
          rwa [Go.WideShapes.add_plain, ← Nat.add_assoc] at this
        refine ⟨b, off, rfl, World.block_lt_of_cell? w ⟨b, off + 0 * 6 + 0, none⟩ (hcell 0 (by omega) 0 (by omega)), fun j hj => ?_⟩
        have hj' : j < len := by simpa using hj
        rw [hget j hj']
        exact ⟨hcell j hj' 0 (by omega), hcell j hj' 1 (by omega), hcell j hj' 2 (by omega), hcell j hj' 3 (by omega), hcell j hj' 4 (by omega), hcell j hj' 5 (by omega)⟩

set_option maxRecDepth 100000 in
theorem open_txts {r : Reach} {b0 : Nat} {v : Value} {d : DataW H} {p : List MemPlace} (hv : Value.okWide Try.prog w r b0 40 v) (h : DataW.Trod enc Try.prog w base spare held 40 v d p) :
    ∃ ns : List ByteArray, TSl w v ns ∧ ns.length ≤ maxLen := by
  obtain ⟨a, len, cap, rfl⟩ := okWide_slice Try.underlying40 hv
  obtain ⟨fuel, hf⟩ := h
  rcases Go.Deep.open_slice Try.underlying40 hf with ⟨hcs, _⟩ | ⟨x, l, c, m, n, D, Pl, hcs, hb, hl, hm, hmm, _, hx⟩
  · simp [Value.cells] at hcs
    obtain ⟨rfl, rfl, rfl⟩ := hcs
    exact ⟨[], ⟨none, 0, rfl, fun j => by simp, .inl rfl⟩, by simp⟩
  · simp [Value.cells] at hcs
    obtain ⟨rfl, rfl, rfl⟩ := hcs
    have hlm : len ≤ m := by rw [hmm]; split <;> omega
    have hall : ∀ i, i < len → ∃ s : ByteArray, w.cell? (x.add i) = some (.string s) ∧ s.size ≤ maxLen := fun i hi => by
      obtain ⟨cs', h1, h2⟩ := hx i (by omega)
      obtain ⟨s, hq, _, hs⟩ := DataW.trod_string Try.underlying9 h2
      rw [Try.cellsS] at h1
      obtain ⟨_, _, h3⟩ := World.cells?_some h1
      refine ⟨s, ?_, hs⟩
      have h4 := h3 0 (by omega)
      rw [Go.Deep.add_add, hq, Nat.mul_one] at h4
      exact h4
    obtain ⟨F, hF⟩ := Go.Deep.choose_lt (α := ByteArray) (p := fun i s => w.cell? (x.add i) = some (.string s) ∧ s.size ≤ maxLen) hall
    have hget : ∀ j, j < len → ((List.range len).map F).getD j ByteArray.empty = F j := fun j hj => by simp [List.getD, hj]
    refine ⟨(List.range len).map F, ⟨some x, cap, by simp, fun j => ?_, ?_⟩, by simp; omega⟩
    · by_cases hj : j < len
      · rw [hget j hj]; exact (hF j hj).2
      · rw [show ((List.range len).map F).getD j ByteArray.empty = ByteArray.empty by simp [List.getD, hj]]; decide
    · by_cases h0 : len = 0
      · left; simp [h0]
      · right
        obtain ⟨b, off, spot⟩ := x
        have hc0 := (hF 0 (by omega)).1
        have hspot : spot = none := by simpa [Addr.add] using World.cell?_spot hc0
        subst hspot
        have hcell : ∀ j, j < len → w.cell? ⟨b, off + j, none⟩ = some (.string (F j)) := fun j hj => by
          have := (hF j hj).1
          rwa [Go.WideShapes.add_plain] at this
        refine ⟨b, off, rfl, World.block_lt_of_cell? w ⟨b, off + 0, none⟩ (hcell 0 (by omega)), fun j hj => ?_⟩
        have hj' : j < len := by simpa using hj
        rw [hget j hj']
        exact hcell j hj'

end
end Go.Proofs.Ytmjdeacnapoijaa
