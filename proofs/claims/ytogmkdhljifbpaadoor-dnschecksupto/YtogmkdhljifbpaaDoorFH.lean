/- The reader's moves, and what stays beside it (Rd). -/
import Derived.Test.YtogmkdhljifbpaaDoorFG
import Derived.Test.YtogmkdhljifbpaaDoorTS
namespace Go.Proofs.YtogmkdhljifbpaaDoor
open Go.RowKit

/-- All that was there stays, the reader at g aside. -/
structure Rd (g : Nat) (w w' : World) : Prop where
  os : w'.os = w.os
  tape : w'.tape = w.tape
  output : w'.output = w.output
  size : w.heap.size ≤ w'.heap.size
  block : ∀ k : Nat, k < w.heap.size → k ≠ g → w'.heap[k]? = w.heap[k]?

theorem Rd.refl (g : Nat) (w : World) : Rd g w w := ⟨rfl, rfl, rfl, Nat.le_refl _, fun _ _ _ => rfl⟩
theorem Rd.trans {g : Nat} {w w1 w2 : World} (h : Rd g w w1) (h2 : Rd g w1 w2) : Rd g w w2 :=
  ⟨h2.os.trans h.os, h2.tape.trans h.tape, h2.output.trans h.output, Nat.le_trans h.size h2.size, fun k hk hg => (h2.block k (Nat.lt_of_lt_of_le hk h.size) hg).trans (h.block k hk hg)⟩
theorem Rd.ext {g : Nat} {w w' : World} (h : w.Extends w') : Rd g w w' := ⟨h.os, h.tape, h.output, h.size, fun k hk _ => h.block k hk⟩
theorem Rd.moved {g : Nat} {v : Value} {w w' : World} (h : (w.setCell ⟨g, 1, none⟩ v).Extends w') : Rd g w w' :=
  ⟨h.os, h.tape, h.output, by have := h.size; simpa using this, fun k hk hg => (h.block k (by simpa using hk)).trans (Below.heap_setCell w _ _ k hg)⟩
theorem Rd.below {g B : Nat} {w w' : World} (h : Rd g w w') (hb : B ≤ g) (hB : B ≤ w.heap.size) : Below B w w' :=
  ⟨h.os, h.tape, h.output, h.size, fun k hk => h.block k (by omega) (by omega)⟩
theorem Rd.of_below {g B : Nat} {w w' : World} (h : Below B w w') (hb : w.heap.size ≤ B) : Rd g w w' :=
  ⟨h.os, h.tape, h.output, h.size, fun k hk _ => h.block k (by omega)⟩
theorem Rd.own {g base : Nat} {w w' : World} {v : Value} {l : List ByteArray} (h : Rd g w w') (ho : OwnS base w v l) (hg : g < base) : OwnS base w' v l := by
  rcases ho.2 with ⟨rfl, h0⟩ | ⟨k, c, cur, rfl, hbg, hk, hnc, hcm, hcs, htake⟩
  · exact ⟨ho.1, .inl ⟨rfl, h0⟩⟩
  · have hlt : k < w.heap.size := (Array.getElem?_eq_some_iff.1 hk).1
    exact ⟨ho.1, .inr ⟨k, c, cur, rfl, hbg, (h.block k hlt (by omega)).trans hk, hnc, hcm, hcs, htake⟩⟩
theorem IsR.ext {g a : Nat} {t : ByteArray} {w w' : World} (h : IsR g t a w) (hx : w.Extends w') : IsR g t a w' where
  c0 := hx.cell_of h.c0
  c1 := hx.cell_of h.c1
  hz := by rw [hx.frozen _ h.hg]; exact h.hz
  hg := Nat.lt_of_lt_of_le h.hg hx.size
theorem IsR.below {g a B : Nat} {t : ByteArray} {w w' : World} (h : IsR g t a w) (hx : Below B w w') (hB : g < B) : IsR g t a w' where
  c0 := by have := h.c0; simp only [World.cell?, hx.block g hB] at this ⊢; exact this
  c1 := by have := h.c1; simp only [World.cell?, hx.block g hB] at this ⊢; exact this
  hz := by have := h.hz; simp only [World.frozen?, hx.block g hB] at this ⊢; exact this
  hg := Nat.lt_of_lt_of_le h.hg hx.size

theorem rnum1 {t : ByteArray} {a : Nat} (h : a < t.size) : rnum t a 1 = t[a].toNat := by
  have h2 : t.data[a]? = some t[a] := by
    have : a < t.data.size := h
    rw [Array.getElem?_eq_getElem this]; rfl
  simp [rnum, h2]

/-- A number is read. -/
theorem number_r (g a n : Nat) (t : ByteArray) (w : World) (h : IsR g t a w) (hs : t.size ≤ 1000) (han : a + n ≤ t.size) (hn : n ≤ 4) :
    Calls Tryd.prog 56 #[.pointer (some ⟨g, 0, none⟩), .int .i64 n] w fun e w' => e = .returned (.int .i64 (rnum t a n)) ∧ Hid (IsR g t (a + n) w') ∧ Hid (Rd g w w') := by
  refine (rnumber_ok g a n t w h.c0 h.c1 h.hz hs han hn).mono ?_
  rintro e w' ⟨rfl, hx⟩
  rw [← Int.natCast_add] at hx
  exact ⟨rfl, h.move hx, Rd.moved hx⟩
theorem expect_r (g a n x : Nat) (t : ByteArray) (w : World) (h : IsR g t a w) (hs : t.size ≤ 1000) (han : a + n ≤ t.size) (hn : n ≤ 4) (hx : rnum t a n = x) :
    Calls Tryd.prog 58 #[.pointer (some ⟨g, 0, none⟩), .int .i64 n, .int .i64 x] w fun e w' => e = .returned (.tuple #[]) ∧ Hid (IsR g t (a + n) w') ∧ Hid (Rd g w w') := by
  subst hx
  refine (expect_ok g a n t w h hs han hn).mono ?_
  rintro e w' ⟨rfl, hx⟩
  exact ⟨rfl, h.move hx, Rd.moved hx⟩
theorem counted_r (g a k : Nat) (t l : ByteArray) (w : World) (h : IsR g t a w) (hs : t.size ≤ 1000) (hk : rnum t a 1 = k) (han : a + 1 + k ≤ t.size) (hl : t.extract (a + 1) (a + 1 + k) = l) :
    Calls Tryd.prog 73 #[.pointer (some ⟨g, 0, none⟩)] w fun e w' => e = .returned (.string l) ∧ Hid (IsR g t (a + 1 + k) w') ∧ Hid (Rd g w w') := by
  subst hk
  subst hl
  refine (counted_ok g a t w h hs han).mono ?_
  rintro e w' ⟨rfl, w1, hx, hy⟩
  exact ⟨rfl, (h.move hx).move hy, (Rd.moved hx).trans (Rd.moved hy)⟩
theorem peek_r (g a : Nat) (t : ByteArray) (w : World) (h : IsR g t a w) (ha : a < t.size) :
    Calls Tryd.prog 70 #[.pointer (some ⟨g, 0, none⟩)] w fun e w' => e = .returned (.int .u8 (rnum t a 1 : Nat)) ∧ Hid (IsR g t a w') ∧ Hid (Rd g w w') := by
  refine (peek_ok g a t w h.c0 h.c1 ha).mono ?_
  rintro e w' ⟨rfl, m, rfl⟩
  rw [rnum1 ha]
  have hx : w.Extends (w.drew.drewN m) := ⟨rfl, rfl, rfl, Nat.le_refl _, fun _ _ => rfl, fun _ _ => rfl, fun _ _ => rfl⟩
  exact ⟨rfl, h.ext hx, Rd.ext hx⟩

end Go.Proofs.YtogmkdhljifbpaaDoor
