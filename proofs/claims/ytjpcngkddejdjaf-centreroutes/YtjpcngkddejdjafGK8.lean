
/- gateways: find. -/
import Derived.Test.YtjpcngkddejdjafGK7
namespace Go.Proofs.Ytjpcngkddejdjaf
namespace Gw
open Go.RowKit

/-- What find tells. -/
def fnd (ms : List Gwy) (p : Nat) (f : Bool) : Gwy := if f = true then ms.getD p dm else dm

set_option maxHeartbeats 1600000 in
theorem find2_any (ms : List Gwy) (v : Value) (name : ByteArray) (w : World) (h : Sl w v ms) (hn : ms.length ≤ 6) (hr : Rise ms) :
    Calls Try.prog 38 #[v, .string name] w fun e w' => ∃ (p : Nat) (f : Bool), e = .returned (.tuple #[.agg #[.string (fnd ms p f).centre, .int .i64 (fnd ms p f).addr, .int .i64 (fnd ms p f).version], .bool f]) ∧ Below w.heap.size w w' ∧ At ms ⟨name, 0, 0⟩ p f := by
  obtain ⟨W0, hW0⟩ : ∃ W0, W0 = w.alloc (.cells #[.string ⟨#[]⟩, .int .i64 0, .int .i64 0] 51) := ⟨_, rfl⟩
  have hb0 : Below w.heap.size w W0 := by rw [hW0]; exact (Below.refl _ _).alloc (Nat.le_refl _) _
  have hs0 : W0.heap.size = w.heap.size + 1 := by rw [hW0]; simp
  have hg0 : W0.heap[w.heap.size]? = some (.cells #[.string ⟨#[]⟩, .int .i64 0, .int .i64 0] 51 (0, 0)) := by rw [hW0]; exact heap_alloc_new w _
  have HV : Hid (Sl W0 v ms) := h.below hb0
  have HF : Hid (Calls Try.prog 56 #[v, .agg #[.string name, .int .i64 0, .int .i64 0], .func (.func 45) #[] #[]] W0 fun e w' => ∃ (p : Nat) (f : Bool), e = .returned (.tuple #[.int .i64 p, .bool f]) ∧ Below W0.heap.size W0 w' ∧ At ms ⟨name, 0, 0⟩ p f) :=
    find_any ms v ⟨name, 0, 0⟩ W0 HV.out (by omega) hr
  have HW0 : Hid (W0 = w.alloc (.cells #[.string ⟨#[]⟩, .int .i64 0, .int .i64 0] 51)) := hW0
  clear hW0 h hr
  go_enter Try.func38, Try.ntmps38
  go_wp2_with fail
  rw [← HW0.out]
  refine HF.out.mono ?_
  rintro e w1 ⟨p, f, rfl, hb1, hat⟩
  have HAT : Hid (At ms ⟨name, 0, 0⟩ p f) := hat
  have HV1 : Hid (Sl w1 v ms) := HV.out.below hb1
  have hs1 := hb1.size
  have HB1 : Hid (Below w.heap.size w w1) := hb0.trans (hb1.mono (by omega))
  have hg1 : w1.heap[w.heap.size]? = some (.cells #[.string ⟨#[]⟩, .int .i64 0, .int .i64 0] 51 (0, 0)) := (hb1.block w.heap.size (by omega)).trans hg0
  have t0 : w1.cell? ⟨w.heap.size, 0, none⟩ = some (.string ⟨#[]⟩) := cellsAt hg1 0
  have t1 : w1.cell? ⟨w.heap.size, 1, none⟩ = some (.int .i64 0) := cellsAt hg1 1
  have t2 : w1.cell? ⟨w.heap.size, 2, none⟩ = some (.int .i64 0) := cellsAt hg1 2
  have hfz : ∀ o, w1.frozen? ⟨w.heap.size, o, none⟩ = false := fun o => by simp [World.frozen?, hg1]
  have hlt : w.heap.size < w1.heap.size := by omega
  clear hat HF HV hg0 hg1 hb0 hb1 HW0 hs0 hs1
  cases f
  · go_wp2_with fail
    exact bodyPost_ret (v := .tuple #[.agg #[.string ⟨#[]⟩, .int .i64 0, .int .i64 0], .bool false]) (by simp [results, Try.results38, go_sem, t0, t1, t2]) rfl ⟨p, false, rfl, (((HB1.out.setCell (p := ⟨w.heap.size, 0, none⟩) (Nat.le_refl _) _).setCell (p := ⟨w.heap.size, 1, none⟩) (Nat.le_refl _) _).setCell (p := ⟨w.heap.size, 2, none⟩) (Nat.le_refl _) _), HAT.out⟩
  · have hp : p < ms.length := (HAT.out.is.1 rfl).1
    obtain ⟨a, cap, rfl, _, hsl⟩ := HV1.out
    obtain ⟨b, off, hab, hgb, hrow⟩ : ∃ b off, a = some ⟨b, off, none⟩ ∧ b < w1.heap.size ∧ Row w1 b off ms := by
      rcases hsl with h | h
      · rw [h] at hp; simp at hp
      · exact h
    subst hab
    obtain ⟨c0, c1, c2⟩ := hrow p hp
    clear hrow hsl HV1
    generalize hm : ms.getD p dm = m at *
    have HM : Hid (fnd ms p true = m) := by show fnd ms p true = m; rw [fnd, if_pos rfl, hm]
    clear hm
    go_wp2_with fail
    exact bodyPost_ret (v := .tuple #[.agg #[.string m.centre, .int .i64 m.addr, .int .i64 m.version], .bool true]) (by simp [results, Try.results38, go_sem, t0, t1, t2]) rfl ⟨p, true, by rw [HM.out], (((HB1.out.setCell (p := ⟨w.heap.size, 0, none⟩) (Nat.le_refl _) _).setCell (p := ⟨w.heap.size, 1, none⟩) (Nat.le_refl _) _).setCell (p := ⟨w.heap.size, 2, none⟩) (Nat.le_refl _) _), HAT.out⟩

end Gw
end Go.Proofs.Ytjpcngkddejdjaf
