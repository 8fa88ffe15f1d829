/- The reader: numbers. -/
import Derived.Test.YtogmkdhljifbpaaDoorFC
import Derived.Deep.RegionHeld3
import Derived.StillTactics
import Derived.Lib.ConvBytes
import Derived.Laws.IdiomStrings
namespace Go.Proofs.YtogmkdhljifbpaaDoor
open Go.RowKit

/-- The number that k bytes from a on say, the high ones first. -/
def rnum (t : ByteArray) (a : Nat) : Nat → Nat
  | 0 => 0
  | k + 1 => rnum t a k * 256 + (t.data[a + k]?.getD 0).toNat

theorem rnum_lt (t : ByteArray) (a : Nat) : ∀ k, rnum t a k < 256 ^ k
  | 0 => by simp [rnum]
  | k + 1 => by
    have h := rnum_lt t a k
    have h2 := (t.data[a + k]?.getD 0).toNat_lt
    simp only [rnum, Nat.pow_succ]
    omega

theorem or_byte (x b : Nat) (hx : x < 4294967296) (hb : b < 256) : bits .or .i64 ((x : Int) * 256) (wrap64 (b : Int)) = ((x * 256 + b : Nat) : Int) := by
  have h1 : ((x : Int) * 256) = ((x * 256 : Nat) : Int) := by omega
  have h2 : wrap64 (b : Int) = (b : Int) := by unfold wrap64; omega
  have h3 : x * 256 ||| b = x * 256 + b := by
    rw [show x * 256 = 2 ^ 8 * x by omega, ← Nat.two_pow_add_eq_or_of_lt (i := 8) hb]
  rw [h1, h2]
  show IntKind.i64.wrap (((BitVec.ofInt 64 ((x * 256 : Nat) : Int)) ||| (BitVec.ofInt 64 (b : Int))).toNat : Int) = _
  rw [BitVec.toNat_or, BitVec.ofInt_natCast, BitVec.ofInt_natCast, BitVec.toNat_ofNat, BitVec.toNat_ofNat, Nat.mod_eq_of_lt (by omega), Nat.mod_eq_of_lt (by omega), h3, IntKind.wrap_i64]
  omega

set_option maxRecDepth 100000 in
theorem run_bytesW (w : World) (s : ByteArray) : w.drew.alloc (.cells (bytesRow s (grownCap w s.size 0 5)) 5 ((bytesRow s (grownCap w s.size 0 5)).size, (bytesRow s (grownCap w s.size 0 5)).size + 1)) = Lib.bytesWorld w 5 s := by
  have h1 := Lib.run_convert_string_bytes (P := Tryd.prog) w 9 77 5 s (u := .string) Tryd.underlying9 Tryd.underlying77 Tryd.underlying5
  have h2 := run_bytes_of_string (P := Tryd.prog) w 9 77 5 s Tryd.underlying9 Tryd.underlying77 Tryd.underlying5
  rw [h1] at h2
  injection h2 with _ h
  exact h.symm

set_option maxHeartbeats 1600000 in
set_option maxRecDepth 100000 in
theorem rnumber_ok (g a n : Nat) (t : ByteArray) (w : World) (c0 : w.cell? ⟨g, 0, none⟩ = some (.string t)) (c1 : w.cell? ⟨g, 1, none⟩ = some (.int .i64 a)) (hz : w.frozen? ⟨g, 1, none⟩ = false) (hs : t.size ≤ 1000) (han : a + n ≤ t.size) (hn : n ≤ 4) :
    Calls Tryd.prog 56 #[.pointer (some ⟨g, 0, none⟩), .int .i64 n] w fun e w' => e = .returned (.int .i64 (rnum t a n)) ∧ (w.setCell ⟨g, 1, none⟩ (.int .i64 ((a : Int) + (n : Int)))).Extends w' := by
  have HT : Hid (Calls Tryd.prog 69 #[.pointer (some ⟨g, 0, none⟩), .int .i64 n] w fun e w' => e = .returned (.string (t.extract a (a + n))) ∧ ∃ m, w' = (w.setCell ⟨g, 1, none⟩ (.int .i64 ((a : Int) + (n : Int)))).drew.drewN m) := take_ok g a n t w c0 c1 hz hs han
  have hsz : (t.extract a (a + n)).size = n := by simp; omega
  have hcv := fun w s => Lib.run_convert_string_bytes (P := Tryd.prog) w 9 77 5 s (u := .string) Tryd.underlying9 Tryd.underlying77 Tryd.underlying5
  have hB := fun w j hj => Lib.bytesWorld_cell w 5 (t.extract a (a + n)) j hj
  go_enter Tryd.func56, Tryd.ntmps56
  go_wp2_with fail
  refine HT.out.mono ?_
  rintro e w1 ⟨rfl, m, rfl⟩
  go_wp2_with fail
  obtain ⟨W0, hW0⟩ : ∃ W0, W0 = (w.setCell ⟨g, 1, none⟩ (.int .i64 ((a : Int) + (n : Int)))).drewN (1 + m) := ⟨_, rfl⟩
  rw [← hW0]
  have hB' : ∀ j, j < n → (Lib.bytesWorld W0 5 (t.extract a (a + n))).cell? ⟨W0.heap.size, j, none⟩ = some (.int .u8 ((t.extract a (a + n)).data.toList.getD j 0).toNat) := fun j hj => hB W0 j (by omega)
  have hX : W0.Extends (Lib.bytesWorld W0 5 (t.extract a (a + n))) := by
    rw [← run_bytesW W0 (t.extract a (a + n))]
    exact (World.Extends.refl W0).drew.alloc _
  have hX0 : (w.setCell ⟨g, 1, none⟩ (.int .i64 ((a : Int) + (n : Int)))).Extends W0 := by
    subst hW0
    generalize 1 + m = q
    exact ⟨rfl, rfl, rfl, Nat.le_refl _, fun _ _ => rfl, fun _ _ => rfl, fun _ _ => rfl⟩
  have hXX := hX0.trans hX
  obtain ⟨W1, hW1⟩ : ∃ W1, W1 = Lib.bytesWorld W0 5 (t.extract a (a + n)) := ⟨_, rfl⟩
  have hsW : W0.heap.size = w.heap.size := by rw [hW0]; simp
  rw [hsW] at hB'
  rw [← hW1] at hB' hXX ⊢
  clear hB hcv hX hX0 hW1 hW0
  go_loop [5, 13] (fun vn vi => ∃ (k : Nat) (x : Nat), vn = .int .i64 x ∧ vi = .int .i64 k ∧ k ≤ n ∧ Hid (x = rnum t a k))
    (fun _ vi => n - (intOf vi).toNat)
  case atStart => exact ⟨0, 0, rfl, rfl, by omega, rfl⟩
  case round =>
    obtain ⟨k, x, rfl, rfl, hk, hx⟩ := hrel
    by_cases hkn : k < n
    · have hc : decide ((k : Int) < (n : Int)) = true := by simp; omega
      have hcell := hB' k hkn
      have hi0 : (0 : Int) ≤ (k : Int) := by omega
      have hi1 : (k : Int) < (n : Int) := by omega
      have hi2 : ((k : Int)).toNat = k := by omega
      have hxl : x < 4294967296 := by
        have h := rnum_lt t a k
        have h3 : (256 : Nat) ^ k ≤ 256 ^ 3 := Nat.pow_le_pow_right (by omega) (by omega)
        rw [← hx.out] at h
        omega
      have hor := or_byte x (t.data[a + k]?.getD 0).toNat hxl (UInt8.toNat_lt _)
      have hH : Hid (x * 256 + (t.data[a + k]?.getD 0).toNat = rnum t a (k + 1)) := by
        show _ = _
        rw [hx.out]
        rfl
      go_wp2_with fail
      refine ⟨⟨k + 1, _, by simp, by simp, by omega, hH⟩, by simp [intOf]; omega⟩
    · have hc : decide ((k : Int) < (n : Int)) = false := by simp; omega
      have hkn2 : k = n := by omega
      have hH : Hid (x = rnum t a n) := by rw [← hkn2]; exact hx
      go_wp2_with fail
      simp [bodyPost, results, Tryd.results56]
      exact ⟨by rw [hH.out], hXX⟩

end Go.Proofs.YtogmkdhljifbpaaDoor
