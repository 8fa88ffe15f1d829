
/- services: find. -/
import Derived.Test.YtjpcngkddejdjafSK7
namespace Go.Proofs.Ytjpcngkddejdjaf
namespace Sv
open Go.RowKit

/-- What find tells. -/
def fnd (ms : List Svc) (p : Nat) (f : Bool) : Svc := if f = true then ms.getD p dm else dm

set_option maxHeartbeats 1600000 in
theorem find2_any (ms : List Svc) (v : Value) (node idn : ByteArray) (w : World) (h : Sl w v ms) (hn : ms.length ≤ 40) (hr : Rise ms) :
    Calls Try.prog 29 #[v, .string node, .string idn] w fun e w' => ∃ (p : Nat) (f : Bool), e = .returned (.tuple #[.agg #[.string (fnd ms p f).node, .string (fnd ms p f).idn, .string (fnd ms p f).name, .string (fnd ms p f).tag, .int .i64 (fnd ms p f).addr, .int .i64 (fnd ms p f).port, .bool (fnd ms p f).passing, .int .i64 (fnd ms p f).version, .bool (fnd ms p f).gone], .bool f]) ∧ Below w.heap.size w w' ∧ At ms ⟨node, idn, ⟨#[]⟩, ⟨#[]⟩, 0, 0, false, 0, false⟩ p f := by
  obtain ⟨W0, hW0⟩ : ∃ W0, W0 = w.alloc (.cells #[.string ⟨#[]⟩, .string ⟨#[]⟩, .string ⟨#[]⟩, .string ⟨#[]⟩, .int .i64 0, .int .i64 0, .bool false, .int .i64 0, .bool false] 24) := ⟨_, rfl⟩
  have hb0 : Below w.heap.size w W0 := by rw [hW0]; exact (Below.refl _ _).alloc (Nat.le_refl _) _
  have hs0 : W0.heap.size = w.heap.size + 1 := by rw [hW0]; simp
  have hg0 : W0.heap[w.heap.size]? = some (.cells #[.string ⟨#[]⟩, .string ⟨#[]⟩, .string ⟨#[]⟩, .string ⟨#[]⟩, .int .i64 0, .int .i64 0, .bool false, .int .i64 0, .bool false] 24 (0, 0)) := by rw [hW0]; exact heap_alloc_new w _
  have HV : Hid (Sl W0 v ms) := h.below hb0
  have HF : Hid (Calls Try.prog 46 #[v, .agg #[.string node, .string idn, .string ⟨#[]⟩, .string ⟨#[]⟩, .int .i64 0, .int .i64 0, .bool false, .int .i64 0, .bool false], .func (.func 35) #[] #[]] W0 fun e w' => ∃ (p : Nat) (f : Bool), e = .returned (.tuple #[.int .i64 p, .bool f]) ∧ Below W0.heap.size W0 w' ∧ At ms ⟨node, idn, ⟨#[]⟩, ⟨#[]⟩, 0, 0, false, 0, false⟩ p f) :=
    find_any ms v ⟨node, idn, ⟨#[]⟩, ⟨#[]⟩, 0, 0, false, 0, false⟩ W0 HV.out (by omega) hr
  have HW0 : Hid (W0 = w.alloc (.cells #[.string ⟨#[]⟩, .string ⟨#[]⟩, .string ⟨#[]⟩, .string ⟨#[]⟩, .int .i64 0, .int .i64 0, .bool false, .int .i64 0, .bool false] 24)) := hW0
  clear hW0 h hr
  go_enter Try.func29, Try.ntmps29
  go_wp2_with fail
  rw [← HW0.out]
  refine HF.out.mono ?_
  rintro e w1 ⟨p, f, rfl, hb1, hat⟩
  have HAT : Hid (At ms ⟨node, idn, ⟨#[]⟩, ⟨#[]⟩, 0, 0, false, 0, false⟩ p f) := hat
  have HV1 : Hid (Sl w1 v ms) := HV.out.below hb1
  have hs1 := hb1.size
  have HB1 : Hid (Below w.heap.size w w1) := hb0.trans (hb1.mono (by omega))
  have hg1 : w1.heap[w.heap.size]? = some (.cells #[.string ⟨#[]⟩, .string ⟨#[]⟩, .string ⟨#[]⟩, .string ⟨#[]⟩, .int .i64 0, .int .i64 0, .bool false, .int .i64 0, .bool false] 24 (0, 0)) := (hb1.block w.heap.size (by omega)).trans hg0
  have t0 : w1.cell? ⟨w.heap.size, 0, none⟩ = some (.string ⟨#[]⟩) := cellsAt hg1 0
  have t1 : w1.cell? ⟨w.heap.size, 1, none⟩ = some (.string ⟨#[]⟩) := cellsAt hg1 1
  have t2 : w1.cell? ⟨w.heap.size, 2, none⟩ = some (.string ⟨#[]⟩) := cellsAt hg1 2
  have t3 : w1.cell? ⟨w.heap.size, 3, none⟩ = some (.string ⟨#[]⟩) := cellsAt hg1 3
  have t4 : w1.cell? ⟨w.heap.size, 4, none⟩ = some (.int .i64 0) := cellsAt hg1 4
  have t5 : w1.cell? ⟨w.heap.size, 5, none⟩ = some (.int .i64 0) := cellsAt hg1 5
  have t6 : w1.cell? ⟨w.heap.size, 6, none⟩ = some (.bool false) := cellsAt hg1 6
  have t7 : w1.cell? ⟨w.heap.size, 7, none⟩ = some (.int .i64 0) := cellsAt hg1 7
  have t8 : w1.cell? ⟨w.heap.size, 8, none⟩ = some (.bool false) := cellsAt hg1 8
  have hfz : ∀ o, w1.frozen? ⟨w.heap.size, o, none⟩ = false := fun o => by simp [World.frozen?, hg1]
  have hlt : w.heap.size < w1.heap.size := by omega
  clear hat HF HV hg0 hg1 hb0 hb1 HW0 hs0 hs1
  cases f
  · go_wp2_with fail
    exact bodyPost_ret (v := .tuple #[.agg #[.string ⟨#[]⟩, .string ⟨#[]⟩, .string ⟨#[]⟩, .string ⟨#[]⟩, .int .i64 0, .int .i64 0, .bool false, .int .i64 0, .bool false], .bool false]) (by simp [results, Try.results29, go_sem, t0, t1, t2, t3, t4, t5, t6, t7, t8]) rfl ⟨p, false, rfl, (((((((((HB1.out.setCell (p := ⟨w.heap.size, 0, none⟩) (Nat.le_refl _) _).setCell (p := ⟨w.heap.size, 1, none⟩) (Nat.le_refl _) _).setCell (p := ⟨w.heap.size, 2, none⟩) (Nat.le_refl _) _).setCell (p := ⟨w.heap.size, 3, none⟩) (Nat.le_refl _) _).setCell (p := ⟨w.heap.size, 4, none⟩) (Nat.le_refl _) _).setCell (p := ⟨w.heap.size, 5, none⟩) (Nat.le_refl _) _).setCell (p := ⟨w.heap.size, 6, none⟩) (Nat.le_refl _) _).setCell (p := ⟨w.heap.size, 7, none⟩) (Nat.le_refl _) _).setCell (p := ⟨w.heap.size, 8, none⟩) (Nat.le_refl _) _), HAT.out⟩
  · have hp : p < ms.length := (HAT.out.is.1 rfl).1
    obtain ⟨a, cap, rfl, _, hsl⟩ := HV1.out
    obtain ⟨b, off, hab, hgb, hrow⟩ : ∃ b off, a = some ⟨b, off, none⟩ ∧ b < w1.heap.size ∧ Row w1 b off ms := by
      rcases hsl with h | h
      · rw [h] at hp; simp at hp
      · exact h
    subst hab
    obtain ⟨c0, c1, c2, c3, c4, c5, c6, c7, c8⟩ := hrow p hp
    clear hrow hsl HV1
    generalize hm : ms.getD p dm = m at *
    have HM : Hid (fnd ms p true = m) := by show fnd ms p true = m; rw [fnd, if_pos rfl, hm]
    clear hm
    go_wp2_with fail
    exact bodyPost_ret (v := .tuple #[.agg #[.string m.node, .string m.idn, .string m.name, .string m.tag, .int .i64 m.addr, .int .i64 m.port, .bool m.passing, .int .i64 m.version, .bool m.gone], .bool true]) (by simp [results, Try.results29, go_sem, t0, t1, t2, t3, t4, t5, t6, t7, t8]) rfl ⟨p, true, by rw [HM.out], (((((((((HB1.out.setCell (p := ⟨w.heap.size, 0, none⟩) (Nat.le_refl _) _).setCell (p := ⟨w.heap.size, 1, none⟩) (Nat.le_refl _) _).setCell (p := ⟨w.heap.size, 2, none⟩) (Nat.le_refl _) _).setCell (p := ⟨w.heap.size, 3, none⟩) (Nat.le_refl _) _).setCell (p := ⟨w.heap.size, 4, none⟩) (Nat.le_refl _) _).setCell (p := ⟨w.heap.size, 5, none⟩) (Nat.le_refl _) _).setCell (p := ⟨w.heap.size, 6, none⟩) (Nat.le_refl _) _).setCell (p := ⟨w.heap.size, 7, none⟩) (Nat.le_refl _) _).setCell (p := ⟨w.heap.size, 8, none⟩) (Nat.le_refl _) _), HAT.out⟩

end Sv
end Go.Proofs.Ytjpcngkddejdjaf
