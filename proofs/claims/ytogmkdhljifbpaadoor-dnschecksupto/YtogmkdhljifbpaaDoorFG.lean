/- dns.small of a text with no capital. -/
import Derived.Test.YtogmkdhljifbpaaDoorFE
import Derived.StillTactics
namespace Go.Proofs.YtogmkdhljifbpaaDoor
open Go.RowKit

set_option maxHeartbeats 1600000 in
set_option maxRecDepth 100000 in
theorem small_same (s : ByteArray) (w : World) (hs : s.size ≤ 1000) (hlow : ∀ j, j < s.size → 90 < (s.data.toList.getD j 0).toNat ∨ (s.data.toList.getD j 0).toNat < 65) :
    Calls Tryd.prog 72 #[.string s] w fun e w' => e = .returned (.string s) ∧ w.Extends w' := by
  have hcv := fun w s => Lib.run_convert_string_bytes (P := Tryd.prog) w 9 77 5 s (u := .string) Tryd.underlying9 Tryd.underlying77 Tryd.underlying5
  have hB' : ∀ j, j < s.size → (Lib.bytesWorld w 5 s).cell? ⟨w.heap.size, j, none⟩ = some (.int .u8 (s.data.toList.getD j 0).toNat) := fun j hj => Lib.bytesWorld_cell w 5 s j hj
  have hX : w.Extends (Lib.bytesWorld w 5 s) := by
    rw [← run_bytesW w s]
    exact (World.Extends.refl w).drew.alloc _
  obtain ⟨W1, hW1⟩ : ∃ W1, W1 = Lib.bytesWorld w 5 s := ⟨_, rfl⟩
  go_enter Tryd.func72, Tryd.ntmps72
  go_wp2_with fail
  rw [← hW1] at hB' hX ⊢
  clear hcv hW1
  have hsz2 : s.data.toList.length = s.size := by simp
  have hbk : ∀ cap, (convert 77 9 (.slice (some ⟨w.heap.size, 0, none⟩) s.size cap)).run Tryd.prog W1 = .ok (.string s) W1 := fun cap => by
    have h := run_convert_bytes_back (P := Tryd.prog) W1 77 9 5 ⟨w.heap.size, 0, none⟩ cap s.data.toList Tryd.underlying77 Tryd.underlying5 Tryd.underlying9 (fun j hj => by
      have h2 := hB' j (by omega)
      rw [List.getD_eq_getElem?_getD, List.getElem?_eq_getElem hj] at h2
      have ha : (⟨w.heap.size, 0, none⟩ : Addr).add j = ⟨w.heap.size, j, none⟩ := by
        by_cases hj0 : j = 0 <;> simp [Addr.add, hj0]
      rw [ha]
      simpa using h2)
    rw [hsz2] at h
    exact h
  go_loopw [10] (fun vi wr => ∃ (k : Nat), vi = .int .i64 k ∧ k ≤ s.size ∧ wr = W1)
    (fun vi _ => s.size - (intOf vi).toNat)
  case atStart => exact ⟨0, rfl, by omega, rfl⟩
  case round =>
    obtain ⟨k, rfl, hk, rfl⟩ := hrel
    by_cases hkn : k < s.size
    · have hc : decide ((k : Int) < (s.size : Int)) = true := by simp; omega
      have hcell := hB' k hkn
      have hi0 : (0 : Int) ≤ (k : Int) := by omega
      have hi1 : (k : Int) < (s.size : Int) := by omega
      have hi2 : ((k : Int)).toNat = k := by omega
      have hl := hlow k hkn
      generalize hb : (s.data.toList.getD k 0).toNat = b at hcell hl
      clear hB' hlow hbk hb
      have hnot : (decide ((65 : Int) ≤ (b : Int)) && decide ((b : Int) ≤ 90)) = false := by
        rcases hl with h | h <;> simp <;> omega
      by_cases h65 : 65 ≤ b
      · have hd1 : decide ((65 : Int) ≤ (b : Int)) = true := by simp; omega
        have hd2 : decide ((b : Int) ≤ 90) = false := by simp; omega
        go_wp2_with fail
        refine ⟨⟨k + 1, by simp, by omega, trivial⟩, by simp [intOf]; omega⟩
      · have hd1 : decide ((65 : Int) ≤ (b : Int)) = false := by simp; omega
        go_wp2_with fail
        refine ⟨⟨k + 1, by simp, by omega, trivial⟩, by simp [intOf]; omega⟩
    · have hc : decide ((k : Int) < (s.size : Int)) = false := by simp; omega
      go_wp2_with fail
      simp [bodyPost, results, Tryd.results72]
      exact hX

end Go.Proofs.YtogmkdhljifbpaaDoor
