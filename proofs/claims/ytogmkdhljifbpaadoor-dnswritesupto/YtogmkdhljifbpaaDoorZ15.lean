/- FD, FE, FG, FH, FI -/
import Derived.Test.YtogmkdhljifbpaaDoorZ14
import Derived.Deep.RegionHeld3
import Derived.StillTactics
import Derived.Lib.ConvBytes
import Derived.Laws.IdiomStrings
import Derived.Test.YtogmkdhljifbpaaDoorZ3
import Derived.Test.YtogmkdhljifbpaaDoorZ2
import Derived.OwnWalk
/- The reader: numbers. -/
namespace Go.Proofs.YtogmkdhljifbpaaDoor
open Go.RowKit

/-- The number that k bytes from a on say, the high ones first. -/
def rnum (t : ByteArray) (a : Nat) : Nat → Nat
  | 0 => 0
  | k + 1 => rnum t a k * 256 + (t.data[a + k]?.getD 0).toNat

theorem rnum_lt (t : ByteArray) (a : Nat) : ∀ k, rnum t a k < 256 ^ k
  | 0 => by simp [rnum]
  | k + 1 => by
    have h := rnum_lt t a k
    have h2 := (t.data[a + k]?.getD 0).toNat_lt
    simp only [rnum, Nat.pow_succ]
    omega

theorem or_byte (x b : Nat) (hx : x < 4294967296) (hb : b < 256) : bits .or .i64 ((x : Int) * 256) (wrap64 (b : Int)) = ((x * 256 + b : Nat) : Int) := by
  have h1 : ((x : Int) * 256) = ((x * 256 : Nat) : Int) := by omega
  have h2 : wrap64 (b : Int) = (b : Int) := by unfold wrap64; omega
  have h3 : x * 256 ||| b = x * 256 + b := by
    rw [show x * 256 = 2 ^ 8 * x by omega, ← Nat.two_pow_add_eq_or_of_lt (i := 8) hb]
  rw [h1, h2]
  show IntKind.i64.wrap (((BitVec.ofInt 64 ((x * 256 : Nat) : Int)) ||| (BitVec.ofInt 64 (b : Int))).toNat : Int) = _
  rw [BitVec.toNat_or, BitVec.ofInt_natCast, BitVec.ofInt_natCast, BitVec.toNat_ofNat, BitVec.toNat_ofNat, Nat.mod_eq_of_lt (by omega), Nat.mod_eq_of_lt (by omega), h3, IntKind.wrap_i64]
  omega

set_option maxRecDepth 100000 in
theorem run_bytesW (w : World) (s : ByteArray) : w.drew.alloc (.cells (bytesRow s (grownCap w s.size 0 5)) 5 ((bytesRow s (grownCap w s.size 0 5)).size, (bytesRow s (grownCap w s.size 0 5)).size + 1)) = Lib.bytesWorld w 5 s := by
  have h1 := Lib.run_convert_string_bytes (P := Tryd.prog) w 9 77 5 s (u := .string) Tryd.underlying9 Tryd.underlying77 Tryd.underlying5
  have h2 := run_bytes_of_string (P := Tryd.prog) w 9 77 5 s Tryd.underlying9 Tryd.underlying77 Tryd.underlying5
  rw [h1] at h2
  injection h2 with _ h
  exact h.symm

set_option maxHeartbeats 1600000 in
set_option maxRecDepth 100000 in
theorem rnumber_ok (g a n : Nat) (t : ByteArray) (w : World) (c0 : w.cell? ⟨g, 0, none⟩ = some (.string t)) (c1 : w.cell? ⟨g, 1, none⟩ = some (.int .i64 a)) (hz : w.frozen? ⟨g, 1, none⟩ = false) (hs : t.size ≤ 1000) (han : a + n ≤ t.size) (hn : n ≤ 4) :
    Calls Tryd.prog 56 #[.pointer (some ⟨g, 0, none⟩), .int .i64 n] w fun e w' => e = .returned (.int .i64 (rnum t a n)) ∧ (w.setCell ⟨g, 1, none⟩ (.int .i64 ((a : Int) + (n : Int)))).Extends w' := by
  have HT : Hid (Calls Tryd.prog 69 #[.pointer (some ⟨g, 0, none⟩), .int .i64 n] w fun e w' => e = .returned (.string (t.extract a (a + n))) ∧ ∃ m, w' = (w.setCell ⟨g, 1, none⟩ (.int .i64 ((a : Int) + (n : Int)))).drew.drewN m) := take_ok g a n t w c0 c1 hz hs han
  have hsz : (t.extract a (a + n)).size = n := by simp; omega
  have hcv := fun w s => Lib.run_convert_string_bytes (P := Tryd.prog) w 9 77 5 s (u := .string) Tryd.underlying9 Tryd.underlying77 Tryd.underlying5
  have hB := fun w j hj => Lib.bytesWorld_cell w 5 (t.extract a (a + n)) j hj
  go_enter Tryd.func56, Tryd.ntmps56
  go_wp2_with fail
  refine HT.out.mono ?_
  rintro e w1 ⟨rfl, m, rfl⟩
  go_wp2_with fail
  obtain ⟨W0, hW0⟩ : ∃ W0, W0 = (w.setCell ⟨g, 1, none⟩ (.int .i64 ((a : Int) + (n : Int)))).drewN (1 + m) := ⟨_, rfl⟩
  rw [← hW0]
  have hB' : ∀ j, j < n → (Lib.bytesWorld W0 5 (t.extract a (a + n))).cell? ⟨W0.heap.size, j, none⟩ = some (.int .u8 ((t.extract a (a + n)).data.toList.getD j 0).toNat) := fun j hj => hB W0 j (by omega)
  have hX : W0.Extends (Lib.bytesWorld W0 5 (t.extract a (a + n))) := by
    rw [← run_bytesW W0 (t.extract a (a + n))]
    exact (World.Extends.refl W0).drew.alloc _
  have hX0 : (w.setCell ⟨g, 1, none⟩ (.int .i64 ((a : Int) + (n : Int)))).Extends W0 := by
    subst hW0
    generalize 1 + m = q
    exact ⟨rfl, rfl, rfl, Nat.le_refl _, fun _ _ => rfl, fun _ _ => rfl, fun _ _ => rfl⟩
  have hXX := hX0.trans hX
  obtain ⟨W1, hW1⟩ : ∃ W1, W1 = Lib.bytesWorld W0 5 (t.extract a (a + n)) := ⟨_, rfl⟩
  have hsW : W0.heap.size = w.heap.size := by rw [hW0]; simp
  rw [hsW] at hB'
  rw [← hW1] at hB' hXX ⊢
  clear hB hcv hX hX0 hW1 hW0
  go_loop [5, 13] (fun vn vi => ∃ (k : Nat) (x : Nat), vn = .int .i64 x ∧ vi = .int .i64 k ∧ k ≤ n ∧ Hid (x = rnum t a k))
    (fun _ vi => n - (intOf vi).toNat)
  case atStart => exact ⟨0, 0, rfl, rfl, by omega, rfl⟩
  case round =>
    obtain ⟨k, x, rfl, rfl, hk, hx⟩ := hrel
    by_cases hkn : k < n
    · have hc : decide ((k : Int) < (n : Int)) = true := by simp; omega
      have hcell := hB' k hkn
      have hi0 : (0 : Int) ≤ (k : Int) := by omega
      have hi1 : (k : Int) < (n : Int) := by omega
      have hi2 : ((k : Int)).toNat = k := by omega
      have hxl : x < 4294967296 := by
        have h := rnum_lt t a k
        have h3 : (256 : Nat) ^ k ≤ 256 ^ 3 := Nat.pow_le_pow_right (by omega) (by omega)
        rw [← hx.out] at h
        omega
      have hor := or_byte x (t.data[a + k]?.getD 0).toNat hxl (UInt8.toNat_lt _)
      have hH : Hid (x * 256 + (t.data[a + k]?.getD 0).toNat = rnum t a (k + 1)) := by
        show _ = _
        rw [hx.out]
        rfl
      go_wp2_with fail
      refine ⟨⟨k + 1, _, by simp, by simp, by omega, hH⟩, by simp [intOf]; omega⟩
    · have hc : decide ((k : Int) < (n : Int)) = false := by simp; omega
      have hkn2 : k = n := by omega
      have hH : Hid (x = rnum t a n) := by rw [← hkn2]; exact hx
      go_wp2_with fail
      simp [bodyPost, results, Tryd.results56]
      exact ⟨by rw [hH.out], hXX⟩

end Go.Proofs.YtogmkdhljifbpaaDoor

/- The reader: what it holds (IsR), expect, counted. -/
namespace Go.Proofs.YtogmkdhljifbpaaDoor
open Go.RowKit

/-- At g lies a reader of t that is at a. -/
structure IsR (g : Nat) (t : ByteArray) (a : Nat) (w : World) : Prop where
  c0 : w.cell? ⟨g, 0, none⟩ = some (.string t)
  c1 : w.cell? ⟨g, 1, none⟩ = some (.int .i64 a)
  hz : w.frozen? ⟨g, 1, none⟩ = false
  hg : g < w.heap.size

theorem IsR.move {g a b : Nat} {t : ByteArray} {w w' : World} (h : IsR g t a w) (hx : (w.setCell ⟨g, 1, none⟩ (.int .i64 (b : Int))).Extends w') : IsR g t b w' where
  c0 := by
    refine hx.cell_of ?_
    have := h.c0
    exact (World.cell?_setCell_other _ _ _ _ (by simp)).trans this
  c1 := hx.cell_of (World.cell?_setCell_same _ _ _ h.c1)
  hz := by rw [hx.frozen _ (by simp; exact h.hg)]; simpa using h.hz
  hg := by have := hx.size; simp at this; have := h.hg; omega

set_option maxHeartbeats 1600000 in
set_option maxRecDepth 100000 in
theorem expect_ok (g a n : Nat) (t : ByteArray) (w : World) (h : IsR g t a w) (hs : t.size ≤ 1000) (han : a + n ≤ t.size) (hn : n ≤ 4) :
    Calls Tryd.prog 58 #[.pointer (some ⟨g, 0, none⟩), .int .i64 n, .int .i64 (rnum t a n)] w fun e w' => e = .returned (.tuple #[]) ∧ (w.setCell ⟨g, 1, none⟩ (.int .i64 ((a + n : Nat) : Int))).Extends w' := by
  have HT : Hid (Calls Tryd.prog 56 #[.pointer (some ⟨g, 0, none⟩), .int .i64 n] w fun e w' => e = .returned (.int .i64 (rnum t a n)) ∧ (w.setCell ⟨g, 1, none⟩ (.int .i64 ((a : Int) + (n : Int)))).Extends w') := rnumber_ok g a n t w h.c0 h.c1 h.hz hs han hn
  go_enter Tryd.func58, Tryd.ntmps58
  go_wp2_with fail
  refine HT.out.mono ?_
  rintro e w1 ⟨rfl, hx⟩
  have hX : Hid ((w.setCell ⟨g, 1, none⟩ (.int .i64 ((a + n : Nat) : Int))).Extends w1) := by
    rw [Int.natCast_add]
    exact hx
  clear hx
  go_wp2_with fail
  refine (need_ok _ _).mono ?_
  rintro e w5 ⟨rfl, rfl⟩
  go_wp2_with fail
  simp [bodyPost, results, Tryd.results58]
  simpa using hX.out

set_option maxHeartbeats 1600000 in
set_option maxRecDepth 100000 in
theorem counted_ok (g a : Nat) (t : ByteArray) (w : World) (h : IsR g t a w) (hs : t.size ≤ 1000) (han : a + 1 + rnum t a 1 ≤ t.size) :
    Calls Tryd.prog 73 #[.pointer (some ⟨g, 0, none⟩)] w fun e w' => e = .returned (.string (t.extract (a + 1) (a + 1 + rnum t a 1))) ∧ ∃ w1, (w.setCell ⟨g, 1, none⟩ (.int .i64 ((a + 1 : Nat) : Int))).Extends w1 ∧ (w1.setCell ⟨g, 1, none⟩ (.int .i64 ((a + 1 + rnum t a 1 : Nat) : Int))).Extends w' := by
  have HT : Hid (Calls Tryd.prog 56 #[.pointer (some ⟨g, 0, none⟩), .int .i64 1] w fun e w' => e = .returned (.int .i64 (rnum t a 1)) ∧ (w.setCell ⟨g, 1, none⟩ (.int .i64 ((a : Int) + ((1 : Nat) : Int)))).Extends w') := rnumber_ok g a 1 t w h.c0 h.c1 h.hz hs (by omega) (by omega)
  go_enter Tryd.func73, Tryd.ntmps73
  go_wp2_with fail
  refine HT.out.mono ?_
  rintro e w1 ⟨rfl, hx⟩
  have hX : Hid ((w.setCell ⟨g, 1, none⟩ (.int .i64 ((a + 1 : Nat) : Int))).Extends w1) := by
    rw [Int.natCast_add]
    exact hx
  clear hx
  have h1 := h.move hX.out
  have HT2 : Hid (Calls Tryd.prog 69 #[.pointer (some ⟨g, 0, none⟩), .int .i64 (rnum t a 1 : Nat)] w1 fun e w' => e = .returned (.string (t.extract (a + 1) (a + 1 + rnum t a 1))) ∧ ∃ m, w' = (w1.setCell ⟨g, 1, none⟩ (.int .i64 (((a + 1 : Nat) : Int) + ((rnum t a 1 : Nat) : Int)))).drew.drewN m) := take_ok g (a + 1) (rnum t a 1) t w1 h1.c0 h1.c1 h1.hz hs han
  go_wp2_with fail
  refine HT2.out.mono ?_
  rintro e w2 ⟨rfl, m, rfl⟩
  go_wp2_with fail
  simp [bodyPost, results, Tryd.results73]
  refine ⟨w1, by simpa using hX.out, ?_⟩
  exact ⟨rfl, rfl, rfl, Nat.le_refl _, fun _ _ => rfl, fun _ _ => rfl, fun _ _ => rfl⟩

end Go.Proofs.YtogmkdhljifbpaaDoor

/- dns.small of a text with no capital. -/
namespace Go.Proofs.YtogmkdhljifbpaaDoor
open Go.RowKit

set_option maxHeartbeats 1600000 in
set_option maxRecDepth 100000 in
theorem small_same (s : ByteArray) (w : World) (hs : s.size ≤ 1000) (hlow : ∀ j, j < s.size → 90 < (s.data.toList.getD j 0).toNat ∨ (s.data.toList.getD j 0).toNat < 65) :
    Calls Tryd.prog 72 #[.string s] w fun e w' => e = .returned (.string s) ∧ w.Extends w' := by
  have hcv := fun w s => Lib.run_convert_string_bytes (P := Tryd.prog) w 9 77 5 s (u := .string) Tryd.underlying9 Tryd.underlying77 Tryd.underlying5
  have hB' : ∀ j, j < s.size → (Lib.bytesWorld w 5 s).cell? ⟨w.heap.size, j, none⟩ = some (.int .u8 (s.data.toList.getD j 0).toNat) := fun j hj => Lib.bytesWorld_cell w 5 s j hj
  have hX : w.Extends (Lib.bytesWorld w 5 s) := by
    rw [← run_bytesW w s]
    exact (World.Extends.refl w).drew.alloc _
  obtain ⟨W1, hW1⟩ : ∃ W1, W1 = Lib.bytesWorld w 5 s := ⟨_, rfl⟩
  go_enter Tryd.func72, Tryd.ntmps72
  go_wp2_with fail
  rw [← hW1] at hB' hX ⊢
  clear hcv hW1
  have hsz2 : s.data.toList.length = s.size := by simp
  have hbk : ∀ cap, (convert 77 9 (.slice (some ⟨w.heap.size, 0, none⟩) s.size cap)).run Tryd.prog W1 = .ok (.string s) W1 := fun cap => by
    have h := run_convert_bytes_back (P := Tryd.prog) W1 77 9 5 ⟨w.heap.size, 0, none⟩ cap s.data.toList Tryd.underlying77 Tryd.underlying5 Tryd.underlying9 (fun j hj => by
      have h2 := hB' j (by omega)
      rw [List.getD_eq_getElem?_getD, List.getElem?_eq_getElem hj] at h2
      have ha : (⟨w.heap.size, 0, none⟩ : Addr).add j = ⟨w.heap.size, j, none⟩ := by
        by_cases hj0 : j = 0 <;> simp [Addr.add, hj0]
      rw [ha]
      simpa using h2)
    rw [hsz2] at h
    exact h
  go_loopw [10] (fun vi wr => ∃ (k : Nat), vi = .int .i64 k ∧ k ≤ s.size ∧ wr = W1)
    (fun vi _ => s.size - (intOf vi).toNat)
  case atStart => exact ⟨0, rfl, by omega, rfl⟩
  case round =>
    obtain ⟨k, rfl, hk, rfl⟩ := hrel
    by_cases hkn : k < s.size
    · have hc : decide ((k : Int) < (s.size : Int)) = true := by simp; omega
      have hcell := hB' k hkn
      have hi0 : (0 : Int) ≤ (k : Int) := by omega
      have hi1 : (k : Int) < (s.size : Int) := by omega
      have hi2 : ((k : Int)).toNat = k := by omega
      have hl := hlow k hkn
      generalize hb : (s.data.toList.getD k 0).toNat = b at hcell hl
      clear hB' hlow hbk hb
      have hnot : (decide ((65 : Int) ≤ (b : Int)) && decide ((b : Int) ≤ 90)) = false := by
        rcases hl with h | h <;> simp <;> omega
      by_cases h65 : 65 ≤ b
      · have hd1 : decide ((65 : Int) ≤ (b : Int)) = true := by simp; omega
        have hd2 : decide ((b : Int) ≤ 90) = false := by simp; omega
        go_wp2_with fail
        refine ⟨⟨k + 1, by simp, by omega, trivial⟩, by simp [intOf]; omega⟩
      · have hd1 : decide ((65 : Int) ≤ (b : Int)) = false := by simp; omega
        go_wp2_with fail
        refine ⟨⟨k + 1, by simp, by omega, trivial⟩, by simp [intOf]; omega⟩
    · have hc : decide ((k : Int) < (s.size : Int)) = false := by simp; omega
      go_wp2_with fail
      simp [bodyPost, results, Tryd.results72]
      exact hX

end Go.Proofs.YtogmkdhljifbpaaDoor

/- The reader's moves, and what stays beside it (Rd). -/
namespace Go.Proofs.YtogmkdhljifbpaaDoor
open Go.RowKit

/-- All that was there stays, the reader at g aside. -/
structure Rd (g : Nat) (w w' : World) : Prop where
  os : w'.os = w.os
  tape : w'.tape = w.tape
  output : w'.output = w.output
  size : w.heap.size ≤ w'.heap.size
  block : ∀ k : Nat, k < w.heap.size → k ≠ g → w'.heap[k]? = w.heap[k]?

theorem Rd.refl (g : Nat) (w : World) : Rd g w w := ⟨rfl, rfl, rfl, Nat.le_refl _, fun _ _ _ => rfl⟩
theorem Rd.trans {g : Nat} {w w1 w2 : World} (h : Rd g w w1) (h2 : Rd g w1 w2) : Rd g w w2 :=
  ⟨h2.os.trans h.os, h2.tape.trans h.tape, h2.output.trans h.output, Nat.le_trans h.size h2.size, fun k hk hg => (h2.block k (Nat.lt_of_lt_of_le hk h.size) hg).trans (h.block k hk hg)⟩
theorem Rd.ext {g : Nat} {w w' : World} (h : w.Extends w') : Rd g w w' := ⟨h.os, h.tape, h.output, h.size, fun k hk _ => h.block k hk⟩
theorem Rd.moved {g : Nat} {v : Value} {w w' : World} (h : (w.setCell ⟨g, 1, none⟩ v).Extends w') : Rd g w w' :=
  ⟨h.os, h.tape, h.output, by have := h.size; simpa using this, fun k hk hg => (h.block k (by simpa using hk)).trans (Below.heap_setCell w _ _ k hg)⟩
theorem Rd.below {g B : Nat} {w w' : World} (h : Rd g w w') (hb : B ≤ g) (hB : B ≤ w.heap.size) : Below B w w' :=
  ⟨h.os, h.tape, h.output, h.size, fun k hk => h.block k (by omega) (by omega)⟩
theorem Rd.of_below {g B : Nat} {w w' : World} (h : Below B w w') (hb : w.heap.size ≤ B) : Rd g w w' :=
  ⟨h.os, h.tape, h.output, h.size, fun k hk _ => h.block k (by omega)⟩
theorem Rd.own {g base : Nat} {w w' : World} {v : Value} {l : List ByteArray} (h : Rd g w w') (ho : OwnS base w v l) (hg : g < base) : OwnS base w' v l := by
  rcases ho.2 with ⟨rfl, h0⟩ | ⟨k, c, cur, rfl, hbg, hk, hnc, hcm, hcs, htake⟩
  · exact ⟨ho.1, .inl ⟨rfl, h0⟩⟩
  · have hlt : k < w.heap.size := (Array.getElem?_eq_some_iff.1 hk).1
    exact ⟨ho.1, .inr ⟨k, c, cur, rfl, hbg, (h.block k hlt (by omega)).trans hk, hnc, hcm, hcs, htake⟩⟩
theorem IsR.ext {g a : Nat} {t : ByteArray} {w w' : World} (h : IsR g t a w) (hx : w.Extends w') : IsR g t a w' where
  c0 := hx.cell_of h.c0
  c1 := hx.cell_of h.c1
  hz := by rw [hx.frozen _ h.hg]; exact h.hz
  hg := Nat.lt_of_lt_of_le h.hg hx.size
theorem IsR.below {g a B : Nat} {t : ByteArray} {w w' : World} (h : IsR g t a w) (hx : Below B w w') (hB : g < B) : IsR g t a w' where
  c0 := by have := h.c0; simp only [World.cell?, hx.block g hB] at this ⊢; exact this
  c1 := by have := h.c1; simp only [World.cell?, hx.block g hB] at this ⊢; exact this
  hz := by have := h.hz; simp only [World.frozen?, hx.block g hB] at this ⊢; exact this
  hg := Nat.lt_of_lt_of_le h.hg hx.size

theorem rnum1 {t : ByteArray} {a : Nat} (h : a < t.size) : rnum t a 1 = t[a].toNat := by
  have h2 : t.data[a]? = some t[a] := by
    have : a < t.data.size := h
    rw [Array.getElem?_eq_getElem this]; rfl
  simp [rnum, h2]

/-- A number is read. -/
theorem number_r (g a n : Nat) (t : ByteArray) (w : World) (h : IsR g t a w) (hs : t.size ≤ 1000) (han : a + n ≤ t.size) (hn : n ≤ 4) :
    Calls Tryd.prog 56 #[.pointer (some ⟨g, 0, none⟩), .int .i64 n] w fun e w' => e = .returned (.int .i64 (rnum t a n)) ∧ Hid (IsR g t (a + n) w') ∧ Hid (Rd g w w') := by
  refine (rnumber_ok g a n t w h.c0 h.c1 h.hz hs han hn).mono ?_
  rintro e w' ⟨rfl, hx⟩
  rw [← Int.natCast_add] at hx
  exact ⟨rfl, h.move hx, Rd.moved hx⟩
theorem expect_r (g a n x : Nat) (t : ByteArray) (w : World) (h : IsR g t a w) (hs : t.size ≤ 1000) (han : a + n ≤ t.size) (hn : n ≤ 4) (hx : rnum t a n = x) :
    Calls Tryd.prog 58 #[.pointer (some ⟨g, 0, none⟩), .int .i64 n, .int .i64 x] w fun e w' => e = .returned (.tuple #[]) ∧ Hid (IsR g t (a + n) w') ∧ Hid (Rd g w w') := by
  subst hx
  refine (expect_ok g a n t w h hs han hn).mono ?_
  rintro e w' ⟨rfl, hx⟩
  exact ⟨rfl, h.move hx, Rd.moved hx⟩
theorem counted_r (g a k : Nat) (t l : ByteArray) (w : World) (h : IsR g t a w) (hs : t.size ≤ 1000) (hk : rnum t a 1 = k) (han : a + 1 + k ≤ t.size) (hl : t.extract (a + 1) (a + 1 + k) = l) :
    Calls Tryd.prog 73 #[.pointer (some ⟨g, 0, none⟩)] w fun e w' => e = .returned (.string l) ∧ Hid (IsR g t (a + 1 + k) w') ∧ Hid (Rd g w w') := by
  subst hk
  subst hl
  refine (counted_ok g a t w h hs han).mono ?_
  rintro e w' ⟨rfl, w1, hx, hy⟩
  exact ⟨rfl, (h.move hx).move hy, (Rd.moved hx).trans (Rd.moved hy)⟩
theorem peek_r (g a : Nat) (t : ByteArray) (w : World) (h : IsR g t a w) (ha : a < t.size) :
    Calls Tryd.prog 70 #[.pointer (some ⟨g, 0, none⟩)] w fun e w' => e = .returned (.int .u8 (rnum t a 1 : Nat)) ∧ Hid (IsR g t a w') ∧ Hid (Rd g w w') := by
  refine (peek_ok g a t w h.c0 h.c1 ha).mono ?_
  rintro e w' ⟨rfl, m, rfl⟩
  rw [rnum1 ha]
  have hx : w.Extends (w.drew.drewN m) := ⟨rfl, rfl, rfl, Nat.le_refl _, fun _ _ => rfl, fun _ _ => rfl, fun _ _ => rfl⟩
  exact ⟨rfl, h.ext hx, Rd.ext hx⟩

end Go.Proofs.YtogmkdhljifbpaaDoor

/- A name whose labels stand one behind another is read. -/
namespace Go.Proofs.YtogmkdhljifbpaaDoor
open Go.RowKit Go.Lib

/-- These labels stand in t from a on, and a nought behind them. -/
def Stand (t : ByteArray) : Nat → List ByteArray → Prop
  | a, [] => a + 1 ≤ t.size ∧ rnum t a 1 = 0
  | a, l :: r => rnum t a 1 = l.size ∧ a + 1 + l.size ≤ t.size ∧ t.extract (a + 1) (a + 1 + l.size) = l ∧ Stand t (a + 1 + l.size) r
/-- Where the nought stands. -/
def behind : Nat → List ByteArray → Nat
  | a, [] => a
  | a, l :: r => behind (a + 1 + l.size) r
abbrev bts (x : ByteArray) : List UInt8 := x.data.toList
def lenOf : Value → Nat
  | .slice _ n _ => n
  | _ => 0

theorem lab_low {l : ByteArray} (h : labB l = true) : ∀ j, j < l.size → 90 < (l.data.toList.getD j 0).toNat ∨ (l.data.toList.getD j 0).toNat < 65 := by
  intro j hj
  unfold labB at h
  simp only [Bool.and_eq_true, List.all_eq_true] at h
  have hj2 : j < l.data.toList.length := by simpa using hj
  have h2 := h.2 (l.data.toList[j]) (List.getElem_mem hj2)
  rw [List.getD_eq_getElem?_getD, List.getElem?_eq_getElem hj2]
  revert h2
  generalize l.data.toList[j] = c
  intro h2
  simp [lbB] at h2
  simp
  omega
theorem lab_size {l : ByteArray} (h : labB l = true) : 1 ≤ l.size ∧ l.size ≤ 30 := by
  unfold labB at h
  simp only [Bool.and_eq_true, decide_eq_true_eq] at h
  exact h.1
theorem join_jn2 : ∀ (xs : List (List UInt8)), Lib.join xs [46] = jn xs
  | [] => rfl
  | [x] => by simp [Lib.join, jn]
  | x :: y :: r => by
    have ih := join_jn2 (y :: r)
    simp [Lib.join, jn] at ih ⊢
    first | exact ih | simp [ih]

theorem own_len {base : Nat} {w : World} {v : Value} {l : List ByteArray} (h : OwnS base w v l) : lenOf v = l.length := by
  rcases h.form with ⟨rfl, rfl⟩ | ⟨g, c, rfl, _⟩
  · rfl
  · rfl

theorem own_shape {base : Nat} {w : World} {v : Value} {l : List ByteArray} (h : OwnS base w v l) : ∃ p c, v = .slice p l.length c := by
  rcases h.form with ⟨rfl, rfl⟩ | ⟨g, c, rfl, _⟩
  · exact ⟨none, 0, rfl⟩
  · exact ⟨_, c, rfl⟩

theorem Rd.belowed {g : Nat} {w w1 w2 : World} (h : Rd g w w1) (hb : Below w.heap.size w1 w2) : Rd g w w2 :=
  ⟨hb.os.trans h.os, hb.tape.trans h.tape, hb.output.trans h.output, Nat.le_trans h.size hb.size, fun k hk hg => (hb.block k hk).trans (h.block k hk hg)⟩

/-- Some texts joined. -/
theorem join_own (base : Nat) (ls : List ByteArray) (W : World) (v : Value) (ho : OwnS base W v ls) (hne : ls ≠ []) (hn : ls.length ≤ 1000) (hz : (jn (ls.map bts)).length ≤ 100000) :
    Calls Tryd.prog 71 #[v, .string ⟨#[46]⟩] W fun e w' => e = .returned (.string (mk (jn (ls.map bts)))) ∧ Below W.heap.size W w' := by
  rcases ho.form with ⟨_, h0⟩ | ⟨g, c, rfl, hc, _, hg, hcell⟩
  · exact absurd h0 hne
  · have h3 := Tryd.strings_Join g 0 c ls ⟨#[46]⟩ W (fun j x hj => by
      obtain ⟨hj1, hj2⟩ := List.getElem?_eq_some_iff.1 hj
      rw [Nat.zero_add, hcell j hj1]
      simp [List.getD, hj1, hj2]) hg (by omega) hc (by
      rw [show (ByteArray.mk #[46]).data.toList = [46] from rfl, join_jn2]
      exact Nat.le_trans hz (by omega))
    rw [show (ByteArray.mk #[46]).data.toList = [46] from rfl, join_jn2] at h3
    exact h3

theorem ext_drewN (w : World) (m : Nat) : w.Extends (w.drewN m) := ⟨rfl, rfl, rfl, Nat.le_refl _, fun _ _ => rfl, fun _ _ => rfl, fun _ _ => rfl⟩
theorem own_fin {g base : Nat} {wr w2 : World} {lv : Value} {D ls : List ByteArray} (h : Hid (Rd g wr w2)) (ho : Hid (OwnS base wr lv D)) (he : Hid (ls = D ++ [])) (hg : g < base) : Hid (OwnS base w2 lv ls) := (show OwnS base w2 lv ls by
  have h := h.out.own ho.out hg
  rw [he.out, List.append_nil]
  exact h)

theorem own_step {g base : Nat} {wr w2 : World} {lv : Value} {D : List ByteArray} (h : Hid (Rd g wr w2)) (ho : Hid (OwnS base wr lv D)) (hg : g < base) : Hid (OwnS base w2 lv D) := h.out.own ho.out hg

set_option maxHeartbeats 1600000 in
set_option maxRecDepth 100000 in
theorem name_ok (g a : Nat) (ls : List ByteArray) (t : ByteArray) (w : World) (h : IsR g t a w) (hs : t.size ≤ 1000) (hst : Stand t a ls) (hne : ls ≠ []) (hlab : ∀ l ∈ ls, labB l = true) (hn : ls.length ≤ 8) (hz : (jn (ls.map bts)).length ≤ 100000) :
    Calls Tryd.prog 59 #[.pointer (some ⟨g, 0, none⟩)] w fun e w' => e = .returned (.string (mk (jn (ls.map bts)))) ∧ Hid (IsR g t (behind a ls + 1) w') ∧ Hid (Rd g w w') := by
  obtain ⟨i0, hi0, hz0, hzs, hzb⟩ := info_parts Tryd.info9
  have c1 := h.c1
  have hgw := h.hg
  have HI : Hid (IsR g t a w) := h
  have HST : Hid (Stand t a ls) := hst
  have HLB : Hid (∀ l ∈ ls, labB l = true) := hlab
  have HJ : Hid (∀ W v, OwnS w.heap.size W v ls → Calls Tryd.prog 71 #[v, .string ⟨#[46]⟩] W fun e w' => e = .returned (.string (mk (jn (ls.map bts)))) ∧ Below W.heap.size W w') := fun W v ho => join_own _ ls W v ho hne (by omega) hz
  have HN : Hid (ls.length ≤ 8) := hn
  clear h hst hlab hne hz hn
  generalize mk (jn (ls.map bts)) = R at *
  go_enter Tryd.func59, Tryd.ntmps59
  go_wp2_with fail
  go_quiet (fail)
  go_wp2_with fail
  go_loopw [3, 4, 5] (fun lv pv bv wr => pv = .pointer (some ⟨g, 0, none⟩) ∧ bv = .int .i64 a ∧ ∃ (D r : List ByteArray) (b : Nat), Hid (ls = D ++ r) ∧ Hid (Stand t b r) ∧ Hid (behind b r = behind a ls) ∧ Hid (IsR g t b wr) ∧ Hid (Rd g w wr) ∧ Hid (OwnS w.heap.size wr lv D)) (fun lv _ _ _ => ls.length - lenOf lv)
  case atStart => exact ⟨rfl, rfl, [], ls, a, rfl, HST, rfl, HI.out.ext (ext_drewN _ _), (Rd.ext (ext_drewN _ _) : Rd g w _), ownS_nil _ _⟩
  case round =>
    obtain ⟨rfl, rfl, D, r, b, HE, HS, HH, HR, HD, HO⟩ := hrel
    have hsz := HD.out.size
    rcases r with _ | ⟨l, r⟩
    · have HP : Hid (Calls Tryd.prog 70 #[.pointer (some ⟨g, 0, none⟩)] wr fun e w' => e = .returned (.int .u8 0) ∧ Hid (IsR g t b w') ∧ Hid (Rd g wr w')) := (show Calls _ _ _ _ _ by
        have h := peek_r g b t wr HR.out HS.out.1
        rw [HS.out.2] at h
        exact h)
      go_wp2_with fail
      refine HP.out.mono ?_
      rintro e w1 ⟨rfl, HR1, HD1⟩
      go_wp2_with fail
      refine (expect_r g b 1 0 t w1 HR1.out hs HS.out.1 (by omega) HS.out.2).mono ?_
      rintro e w2 ⟨rfl, HR2, HD2⟩
      have HX : Hid (Rd g wr w2) := HD1.out.trans HD2.out
      have HO2 := own_fin HX HO HE hgw
      go_wp2_with fail
      refine (HJ.out _ _ HO2.out).mono ?_
      rintro e w3 ⟨rfl, hb3⟩
      have HB3 : Hid (Below w2.heap.size w2 w3) := hb3
      clear hb3
      go_wp2_with fail
      go_ret
      refine ⟨rfl, ?_, ?_⟩
      · rw [← HH.out]
        exact HR2.out.below HB3.out HR2.out.hg
      · exact (HD.out.trans HX.out).trans (Rd.of_below HB3.out (Nat.le_refl _))
    · have hl : labB l = true := HLB.out l (by rw [HE.out]; simp)
      have hl30 := lab_size hl
      have HS1 : Hid (rnum t b 1 = l.size) := HS.out.1
      have HS2 : Hid (b + 1 + l.size ≤ t.size) := HS.out.2.1
      have HS3 : Hid (t.extract (b + 1) (b + 1 + l.size) = l) := HS.out.2.2.1
      have HS4 : Hid (Stand t (b + 1 + l.size) r) := HS.out.2.2.2
      have hDn : D.length + 1 ≤ ls.length := by rw [HE.out]; simp
      have hD8 : D.length < 8 := by have := HN.out; omega
      have HP : Hid (Calls Tryd.prog 70 #[.pointer (some ⟨g, 0, none⟩)] wr fun e w' => e = .returned (.int .u8 (l.size : Nat)) ∧ Hid (IsR g t b w') ∧ Hid (Rd g wr w')) := (show Calls _ _ _ _ _ by
        have h := peek_r g b t wr HR.out (by have := HS2.out; omega)
        rw [HS1.out] at h
        exact h)
      have hm0 : ((l.size : Int) == 0) = false := beq_eq_false_iff_ne.2 (by omega)
      have hm1 : ¬ (l.size : Int) = 0 := by omega
      have hm2 : decide ((192 : Int) ≤ (l.size : Int)) = false := by simp; omega
      have HLL : Hid (labB l = true) := hl
      have hls : l.size ≤ maxLen := by unfold maxLen; omega
      clear HS hl
      go_wp2_with fail
      refine HP.out.mono ?_
      rintro e w1 ⟨rfl, HR1, HD1⟩
      go_wp2_with fail
      refine (counted_r g b l.size t l w1 HR1.out hs HS1.out HS2.out HS3.out).mono ?_
      rintro e w2 ⟨rfl, HR2, HD2⟩
      go_wp2_with fail
      refine (small_same l w2 (by omega) (lab_low HLL.out)).mono ?_
      rintro e w3 ⟨rfl, hx3⟩
      have HR3 : Hid (IsR g t (b + 1 + l.size) w3) := HR2.out.ext hx3
      have HD3 : Hid (Rd g wr w3) := (HD1.out.trans HD2.out).trans (Rd.ext hx3)
      have HO3 := own_step HD3 HO hgw
      have HD4 : Hid (Rd g w w3) := HD.out.trans HD3.out
      have hsz3 := HD4.out.size
      clear hx3 HD3 HD1 HD2 HR1 HR2 HO HD HR HP
      obtain ⟨p, c, hv⟩ := own_shape HO3.out
      subst hv
      have hd8 : decide ((D.length : Int) < 8) = true := by simp; omega
      go_wp2_with fail
      refine (label_any l w3 hls).mono ?_
      rintro e w4 ⟨rfl, hw4⟩
      subst hw4
      rw [HLL.out]
      go_wp2_with fail
      refine (need_ok _ _).mono ?_
      rintro e w5 ⟨rfl, hw5⟩
      subst hw5
      go_wp2_with (at_builtin; refine wpList_append_own _ rfl _ _ 46 rfl w.heap.size 9 i0 _ 1 16 Tryd.underlying46 hi0 hz0 hzs hzb rfl (by omega) _ D.length (D.map Value.string) rfl ?hown ⟨w5.heap.size, 0, none⟩ 1 1 [.string l] rfl rfl ?hnews (strs_one [_]) ?h63 ?hbytes ?hbase ?_)
      case hown => exact HO3.out.below ((Below.refl _ _).alloc (Nat.le_refl _) _)
      case hnews => (intro j u hj; rw [Addr.add_lit]; exact (cell_topL (by simp)).trans (by simpa using hj))
      case h63 => (unfold maxLen; omega)
      case hbytes => omega
      case hbase => (simp; omega)
      intro v' w6 r1 r2 r3
      have hB6 : Below w.heap.size w5 w6 := ((Below.refl _ _).alloc hsz3 _).grown r2 (by simp; omega) (fun j hj => (HO3.out.lt j hj).1)
      have HDX : Hid (Rd g w w6) := HD4.out.belowed hB6
      have HRX : Hid (IsR g t (b + 1 + l.size) w6) := HR3.out.below hB6 hgw
      have HOX : Hid (OwnS w.heap.size w6 v' (D ++ [l])) := ownS_snoc (l := D) r1
      have HEX : Hid (ls = (D ++ [l]) ++ r) := (show ls = _ by rw [HE.out]; simp)
      have HHX : Hid (behind (b + 1 + l.size) r = behind a ls) := HH
      clear r1 r2 r3 hB6 HO3 HD4 HR3 HE HH
      go_wp2_with fail
      refine ⟨⟨rfl, rfl, D ++ [l], r, b + 1 + l.size, HEX, HS4, HHX, HRX, HDX, HOX⟩, ?_⟩
      rw [own_len HOX.out, show lenOf (Value.slice p D.length c) = D.length from rfl, List.length_append, List.length_singleton]
      omega

end Go.Proofs.YtogmkdhljifbpaaDoor

