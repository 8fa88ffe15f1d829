
/- What the laws are handed: places, read out of memory. -/
import Derived.Test.YtmjdeacnapoijaaP4
import Derived.Deep.Slices
import Derived.Lib.SmallJoins
import Derived.ProofKit
import Derived.OpenShut
namespace Go.Proofs.Ytmjdeacnapoijaa
open Go.ChangeShapes Go.WideShapes Go.ChangeAt Go.RowKit

section
variable {H : Type} {enc : TypeId × Value → H} {w : World} {base : Nat} {spare : Nat → Bool} {held : Bool}

theorem Try.cellsPl : Try.prog.cellsOf 29 = 5 := by kernel_rfl
theorem Try.cellsI : Try.prog.cellsOf 3 = 1 := by kernel_rfl
/-- What a program's numbers are: of 64 bits. -/
def In64 (n : Int) : Prop := -9223372036854775808 ≤ n ∧ n ≤ 9223372036854775807
structure Pl64 (p : Pl) : Prop where
  x : In64 p.x
  y : In64 p.y
  z : In64 p.z
  h : In64 p.h
  s : In64 p.s

set_option maxRecDepth 100000 in
theorem pl_of_trod {fuel : Nat} {cs : List Value} {x : DataW H × List MemPlace} (h : DataW.trod enc Try.prog w base spare held fuel 29 cs = some x) :
    ∃ p : Pl, cs = [.int .i64 p.x, .int .i64 p.y, .int .i64 p.z, .int .i64 p.h, .int .i64 p.s] ∧ Pl64 p := by
  obtain ⟨xs, n, _, _, hl, hlen, hf⟩ := DataW.trod_struct Try.underlying29 h
  rw [Try.cellsPl] at hl
  match cs, hl with
  | [c0, c1, c2, c3, c4], _ =>
    match xs, hlen with
    | [y0, y1, y2, y3, y4], _ =>
      have h0 := hf 0 _ rfl
      have h1 := hf 1 _ rfl
      have h2 := hf 2 _ rfl
      have h3 := hf 3 _ rfl
      have h4 := hf 4 _ rfl
      simp [Try.cellsI] at h0
      simp [Try.cellsI] at h1
      simp [Try.cellsI] at h2
      simp [Try.cellsI] at h3
      simp [Try.cellsI] at h4
      obtain ⟨a, e0, _, w0⟩ := DataW.trod_int Try.underlying3 h0
      obtain ⟨b, e1, _, w1⟩ := DataW.trod_int Try.underlying3 h1
      obtain ⟨c, e2, _, w2⟩ := DataW.trod_int Try.underlying3 h2
      obtain ⟨d, e3, _, w3⟩ := DataW.trod_int Try.underlying3 h3
      obtain ⟨e, e4, _, w4⟩ := DataW.trod_int Try.underlying3 h4
      simp only [List.cons.injEq, and_true] at e0 e1 e2 e3 e4
      subst e0 e1 e2 e3 e4
      exact ⟨⟨a, b, c, d, e⟩, rfl, bounds_i64 w0, bounds_i64 w1, bounds_i64 w2, bounds_i64 w3, bounds_i64 w4⟩

set_option maxRecDepth 100000 in
theorem open_place {r : Reach} {b0 : Nat} {v : Value} {d : DataW H} {p : List MemPlace} (hv : Value.okWide Try.prog w r b0 29 v) (h : DataW.Trod enc Try.prog w base spare held 29 v d p) :
    ∃ q : Pl, v = .agg #[.int .i64 q.x, .int .i64 q.y, .int .i64 q.z, .int .i64 q.h, .int .i64 q.s] ∧ Pl64 q := by
  obtain ⟨cs, rfl, hsz⟩ := okWide_struct Try.underlying29 hv
  obtain ⟨fuel, hf⟩ := h
  obtain ⟨q, hm, hs⟩ := pl_of_trod hf
  refine ⟨q, ?_, hs⟩
  simp only [Value.cells] at hm
  congr 1
  apply Array.ext'
  exact hm

end
end Go.Proofs.Ytmjdeacnapoijaa
