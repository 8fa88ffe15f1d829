
/- What the laws are handed: members and lists of them, read out of memory. -/
import Derived.Test.YtdcekfbejjjkkaaMK6
import Derived.Deep.Slices
import Derived.Lib.SmallJoins
import Derived.ProofKit
namespace Go.Proofs.Ytdcekfbejjjkkaa
open Go.ChangeShapes Go.WideShapes Go.ChangeAt Go.RowKit

section
variable {H : Type} {enc : TypeId × Value → H} {w : World} {base : Nat} {spare : Nat → Bool} {held : Bool}

theorem Try.cells24 : Try.prog.cellsOf 24 = 5 := by kernel_rfl
theorem Try.cells9 : Try.prog.cellsOf 9 = 1 := by kernel_rfl
theorem Try.cells3 : Try.prog.cellsOf 3 = 1 := by kernel_rfl
theorem Try.cells4 : Try.prog.cellsOf 4 = 1 := by kernel_rfl

set_option maxRecDepth 100000 in
theorem mem_of_trod {fuel : Nat} {cs : List Value} {x : DataW H × List MemPlace} (h : DataW.trod enc Try.prog w base spare held fuel 24 cs = some x) :
    ∃ m : Mem, cs = [.string m.name, .int .i64 m.state, .int .i64 m.life, .int .i64 m.addr, .bool m.server] ∧ m.name.size ≤ maxLen := by
  obtain ⟨xs, n, _, _, hl, hlen, hf⟩ := DataW.trod_struct Try.underlying24 h
  rw [Try.cells24] at hl
  match cs, hl with
  | [c0, c1, c2, c3, c4], _ =>
    match xs, hlen with
    | [y0, y1, y2, y3, y4], _ =>
      have h0 := hf 0 _ rfl
      have h1 := hf 1 _ rfl
      have h2 := hf 2 _ rfl
      have h3 := hf 3 _ rfl
      have h4 := hf 4 _ rfl
      simp [Try.cells9] at h0
      simp [Try.cells3] at h1
      simp [Try.cells3] at h2
      simp [Try.cells3] at h3
      simp [Try.cells4] at h4
      obtain ⟨s, e0, _, hs⟩ := DataW.trod_string Try.underlying9 h0
      obtain ⟨a, e1, _⟩ := DataW.trod_int Try.underlying3 h1
      obtain ⟨b, e2, _⟩ := DataW.trod_int Try.underlying3 h2
      obtain ⟨c, e3, _⟩ := DataW.trod_int Try.underlying3 h3
      obtain ⟨d, e4, _⟩ := DataW.trod_bool Try.underlying4 h4
      simp only [List.cons.injEq, and_true] at e0 e1 e2 e3 e4
      subst e0 e1 e2 e3 e4
      exact ⟨⟨s, a, b, c, d⟩, rfl, hs⟩

set_option maxRecDepth 100000 in
theorem open_mem {r : Reach} {b0 : Nat} {v : Value} {d : DataW H} {p : List MemPlace} (hv : Value.okWide Try.prog w r b0 24 v) (h : DataW.Trod enc Try.prog w base spare held 24 v d p) :
    ∃ m : Mem, v = .agg #[.string m.name, .int .i64 m.state, .int .i64 m.life, .int .i64 m.addr, .bool m.server] ∧ m.name.size ≤ maxLen := by
  obtain ⟨cs, rfl, hsz⟩ := okWide_struct Try.underlying24 hv
  obtain ⟨fuel, hf⟩ := h
  obtain ⟨m, hm, hs⟩ := mem_of_trod hf
  refine ⟨m, ?_, hs⟩
  simp only [Value.cells] at hm
  congr 1
  apply Array.ext'
  exact hm

set_option maxRecDepth 100000 in
theorem open_mems {r : Reach} {b0 : Nat} {v : Value} {d : DataW H} {p : List MemPlace} (hv : Value.okWide Try.prog w r b0 33 v) (h : DataW.Trod enc Try.prog w base spare held 33 v d p) :
    ∃ ms : List Mem, Sl w v ms ∧ ms.length ≤ maxLen := by
  obtain ⟨a, len, cap, rfl⟩ := okWide_slice Try.underlying33 hv
  obtain ⟨fuel, hf⟩ := h
  rcases Go.Deep.open_slice Try.underlying33 hf with ⟨hcs, _⟩ | ⟨x, l, c, m, n, D, Pl, hcs, hb, hl, hm, hmm, _, hx⟩
  · simp [Value.cells] at hcs
    obtain ⟨rfl, rfl, rfl⟩ := hcs
    exact ⟨[], ⟨none, 0, rfl, fun j => by simp [dm], .inl rfl⟩, by simp⟩
  · simp [Value.cells] at hcs
    obtain ⟨rfl, rfl, rfl⟩ := hcs
    have hlm : len ≤ m := by rw [hmm]; split <;> omega
    have hall : ∀ i, i < len → ∃ q : Mem, (∀ t, t < 5 → w.cell? (x.add (i * 5 + t)) = [Value.string q.name, .int .i64 q.state, .int .i64 q.life, .int .i64 q.addr, .bool q.server][t]?) ∧ q.name.size ≤ maxLen := fun i hi => by
      obtain ⟨cs', h1, h2⟩ := hx i (by omega)
      obtain ⟨q, hq, hs⟩ := mem_of_trod h2
      rw [Try.cells24] at h1
      obtain ⟨_, _, h3⟩ := World.cells?_some h1
      refine ⟨q, fun t ht => ?_, hs⟩
      rw [← Go.Deep.add_add, h3 t ht, hq]
    have hinh : Inhabited Mem := ⟨dm⟩
    obtain ⟨F, hF⟩ := Go.Deep.choose_lt (α := Mem) (p := fun i q => (∀ t, t < 5 → w.cell? (x.add (i * 5 + t)) = [Value.string q.name, .int .i64 q.state, .int .i64 q.life, .int .i64 q.addr, .bool q.server][t]?) ∧ q.name.size ≤ maxLen) hall
    have hget : ∀ j, j < len → ((List.range len).map F).getD j dm = F j := fun j hj => by simp [List.getD, hj]
    refine ⟨(List.range len).map F, ⟨some x, cap, by simp, fun j => ?_, ?_⟩, by simp; omega⟩
    · by_cases hj : j < len
      · rw [hget j hj]; exact (hF j hj).2
      · simp [List.getD, hj, dm]
    · by_cases h0 : len = 0
      · left; simp [h0]
      · right
        obtain ⟨b, off, spot⟩ := x
        have hc0 := (hF 0 (by omega)).1 0 (by omega)
        have hspot : spot = none := by simpa [Addr.add] using World.cell?_spot hc0
        subst hspot
        have hcell : ∀ j, j < len → ∀ t, t < 5 → w.cell? ⟨b, off + j * 5 + t, none⟩ = [Value.string (F j).name, .int .i64 (F j).state, .int .i64 (F j).life, .int .i64 (F j).addr, .bool (F j).server][t]? := fun j hj t ht => by
          have := (hF j hj).1 t ht
          rwa [Go.WideShapes.add_plain, ← Nat.add_assoc] at this
        refine ⟨b, off, rfl, World.block_lt_of_cell? w ⟨b, off + 0 * 5 + 0, none⟩ (hcell 0 (by omega) 0 (by omega)), fun j hj => ?_⟩
        have hj' : j < len := by simpa using hj
        rw [hget j hj']
        exact ⟨hcell j hj' 0 (by omega), hcell j hj' 1 (by omega), hcell j hj' 2 (by omega), hcell j hj' 3 (by omega), hcell j hj' 4 (by omega)⟩

end
end Go.Proofs.Ytdcekfbejjjkkaa
