
/- Places: checkAll, Far; what must be in any case. -/
import Derived.Test.YtmjdeacnapoijaaP2
namespace Go.Proofs.Ytmjdeacnapoijaa
open Go.RowKit

def dp : Pl := ⟨0, 0, 0, 0, 0⟩
def PRow (w : World) (b off : Nat) (ps : List Pl) : Prop := ∀ k, k < ps.length →
  w.cell? ⟨b, off + k * 5, none⟩ = some (.int .i64 (ps.getD k dp).x) ∧ w.cell? ⟨b, off + k * 5 + 1, none⟩ = some (.int .i64 (ps.getD k dp).y) ∧ w.cell? ⟨b, off + k * 5 + 2, none⟩ = some (.int .i64 (ps.getD k dp).z) ∧ w.cell? ⟨b, off + k * 5 + 3, none⟩ = some (.int .i64 (ps.getD k dp).h) ∧ w.cell? ⟨b, off + k * 5 + 4, none⟩ = some (.int .i64 (ps.getD k dp).s)
theorem PRow.below {w w' : World} {b off : Nat} {ps : List Pl} (h : PRow w b off ps) (hb : Below w.heap.size w w') : PRow w' b off ps := fun k hk => by
  obtain ⟨h0, h1, h2, h3, h4⟩ := h k hk
  have hlt : b < w.heap.size := World.block_lt_of_cell? w ⟨b, off + k * 5, none⟩ h0
  exact ⟨by rw [hb.cell hlt]; exact h0, by rw [hb.cell hlt]; exact h1, by rw [hb.cell hlt]; exact h2, by rw [hb.cell hlt]; exact h3, by rw [hb.cell hlt]; exact h4⟩

def chkPs : List Pl → Int
  | [] => 0
  | p :: r => if chkP p = 0 then chkPs r else 3
theorem chkPs_zero : ∀ (ps : List Pl), chkPs ps = 0 ↔ ∀ j, j < ps.length → chkP (ps.getD j dp) = 0
  | [] => by simp [chkPs]
  | p :: r => by
    unfold chkPs
    by_cases h : chkP p = 0
    · rw [if_pos h, chkPs_zero r]
      constructor
      · intro g j hj
        cases j with
        | zero => simpa using h
        | succ j => simpa using g j (by simpa using hj)
      · intro g j hj
        simpa using g (j + 1) (by simpa using hj)
    · rw [if_neg h]
      exact ⟨fun e => by simp at e, fun g => absurd (by simpa using g 0 (by simp)) h⟩
theorem chkPs_or : ∀ (ps : List Pl), chkPs ps = 0 ∨ chkPs ps = 3
  | [] => .inl rfl
  | p :: r => by
    unfold chkPs
    split
    · exact chkPs_or r
    · exact .inr rfl
theorem chkPs_bad {ps : List Pl} {k : Nat} (hk : k < ps.length) (h : chkP (ps.getD k dp) ≠ 0) : chkPs ps = 3 := by
  rcases chkPs_or ps with e | e
  · exact absurd ((chkPs_zero ps).1 e k hk) h
  · exact e

set_option maxHeartbeats 1600000 in
theorem checkAllP_any (ps : List Pl) (b off n cap : Nat) (w : World) (hn : ps.length = n) (hr : PRow w b off ps) (hsm : n ≤ 1000) :
    Calls Try.prog 23 #[.slice (some ⟨b, off, none⟩) n cap] w fun e w' => e = .returned (.int .i64 (chkPs ps)) ∧ Below w.heap.size w w' := by
  have HR : Hid (PRow w b off ps) := hr
  have HN : Hid (ps.length = n) := hn
  clear hr hn
  go_enter Try.func23, Try.ntmps23
  go_wp2
  go_loopw [8] (fun i w' => ∃ k : Nat, k ≤ n ∧ i = .int .i64 k ∧ Hid (Below w.heap.size w w') ∧ Hid (∀ j, j < k → chkP (ps.getD j dp) = 0)) (fun i _ => n - (intOf i).toNat)
  case atStart => exact ⟨0, Nat.zero_le _, rfl, Below.refl _ _, fun j hj => by omega⟩
  case round =>
    obtain ⟨k, hk, rfl, HB, HZ⟩ := hrel
    by_cases hlt : k < n
    · obtain ⟨c0, c1, c2, c3, c4⟩ := HR.out.below HB.out k (by rw [HN.out]; exact hlt)
      have HS : Hid (chkP (ps.getD k dp) = 0 → ∀ j, j < k + 1 → chkP (ps.getD j dp) = 0) := fun h j hj => by
        by_cases e : j = k
        · subst e; exact h
        · exact HZ.out j (by omega)
      have HX : Hid (chkP (ps.getD k dp) ≠ 0 → chkPs ps = chkP (ps.getD k dp)) := fun h => by
        rw [chkPs_bad (by rw [HN.out]; exact hlt) h]
        exact ((chkP_or _).resolve_left h).symm
      generalize ps.getD k dp = pk at *
      obtain ⟨x, y, z, h, s⟩ := pk
      simp only at c0 c1 c2 c3 c4
      clear HZ
      go_wp2_with fail
      refine (checkP_any ⟨x, y, z, h, s⟩ _).mono ?_
      rintro e w1 ⟨rfl, hb1⟩
      have HB1 : Hid (Below w.heap.size w w1) := (HB.out.alloc HB.out.size _).trans (hb1.mono (by have := HB.out.size; simp; omega))
      clear hb1 c0 c1 c2 c3 c4
      by_cases hc : chkP ⟨x, y, z, h, s⟩ = 0
      · have hc' : (chkP ⟨x, y, z, h, s⟩ != 0) = false := by simpa using hc
        have HS1 := HS.out hc
        have HS2 : Hid (∀ j, j < k + 1 → chkP (ps.getD j dp) = 0) := HS1
        clear HS1 HS HX hc
        go_wp2_with fail
        go_roundw
        case rel => exact ⟨k + 1, by omega, by go_num, HB1, HS2⟩
        case measure => simp [intOf]; omega
      · have hc' : (chkP ⟨x, y, z, h, s⟩ != 0) = true := by simpa using hc
        have HE : Hid (chkPs ps = chkP ⟨x, y, z, h, s⟩) := HX.out hc
        clear HS HX hc
        go_wp2_with fail
        go_ret
        exact ⟨retn HE.out.symm, HB1.out⟩
    · have HE : Hid (chkPs ps = 0) := (chkPs_zero ps).2 (fun j hj => HZ.out j (by have := HN.out; omega))
      clear HZ
      go_wp2_with fail
      go_ret
      exact ⟨retn HE.out.symm, HB.out⟩

end Go.Proofs.Ytmjdeacnapoijaa
