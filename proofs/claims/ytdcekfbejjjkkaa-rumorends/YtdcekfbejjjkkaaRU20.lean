
/- The document's TakeRumors of no rumor. -/
import Derived.Test.YtdcekfbejjjkkaaRU19
namespace Go.Proofs.Ytdcekfbejjjkkaa
open Go.RowKit

set_option maxHeartbeats 3200000 in
set_option maxRecDepth 100000 in
theorem takeRumors_none (v : Value) (most times : Int) (w : World) (hv : RSl w v []) (hm1 : 1 ≤ most) :
    Calls Try.prog 15 #[v, .int .i64 most, .int .i64 times] w fun e w' => ∃ v1 v2, e = .returned (.tuple #[v1, v2]) ∧ Own w.heap.size w' v1 [] ∧ ROwn w.heap.size w' v2 [] ∧ Below w.heap.size w w' := by
  obtain ⟨i0, hi0, hz0, hzs, hzb⟩ := info_parts Try.infoR
  obtain ⟨l0, hl0, hm0, hms, hmb⟩ := info_parts Try.infoB
  obtain ⟨pa, ca, rfl, _, ha⟩ := hv
  clear ha
  simp only [List.length_nil]
  have hmk := fun w1 => run_make (P := Try.prog) w1 61 4 l0 (.bool false) Try.underlying61 hl0 hm0 .i64 .i64 0 0 (by omega) (by omega) (by rw [hmb]; omega) (by omega)
  have h0m : (0 : Int) < most := by omega
  rw [hms, Nat.mul_one, show (Value.bool false).cells = #[Value.bool false] from rfl] at hmk
  simp only [Int.toNat_zero] at hmk
  have TAILX : True := trivial
  have hB1 : Below w.heap.size w (w.alloc (.cells #[] 47)) := (Below.refl _ _).alloc (Nat.le_refl _) _
  cases pa with
  | none =>
    have hap : ∀ W, (Builtin.append_ #[22, 22] 22 #[.slice (some ⟨w.heap.size, 0, none⟩) 0 0, .slice none 0 ca]).run Try.prog W = .ok (.slice (some ⟨w.heap.size, 0, none⟩) 0 0) W := by
      intro W
      simp [Builtin.append_, run_underlying Try.underlying22, typeInfo, hi0, storeCells, Builtin.lenOf, Builtin.firstCells]
    have HB2 : Hid (∀ ob, Below w.heap.size w ((w.alloc (.cells #[] 47)).alloc ob)) := fun ob => hB1.alloc (by simp) ob
    clear hB1
    go_enter Try.func15, Try.ntmps15
    go_wp2_with fail
    refine wp_loop_rounds 1 ?_
    rw [rounds_succ]
    go_wp2_with fail
    refine wp_loop_rounds 1 ?_
    rw [rounds_succ]
    go_wp2_with fail
    go_ret2
    exact ⟨_, _, rfl, own_nil _ _, rown_nil _ _, HB2.out _⟩
  | some a =>
    have HO : Hid ((w.alloc (.cells #[] 47)).ownsRow w.heap.size 47 6 (.slice (some ⟨w.heap.size, 0, none⟩) 0 0) 0 []) := World.ownsRow_made w #[] 0 (Nat.le_refl _) (by unfold maxLen; omega) rfl
    go_enter Try.func15, Try.ntmps15
    go_wp2_with (at_builtin; refine wpList_append_own _ rfl _ _ 22 rfl w.heap.size 47 i0 _ 6 56 Try.underlying22 hi0 hz0 hzs hzb rfl (by omega) _ 0 [] rfl HO.out a 0 ca [] rfl rfl (by simp) (by simp) (by unfold maxLen; omega) (by omega) (by simp) ?_)
    intro v8 w1 r1 r2 r3
    have HB1 : Hid (Below w.heap.size w w1) := hB1.grown r2 (by simp) (fun k hk => by simp [Value.ownBlock] at hk; omega)
    have HB2 : Hid (∀ ob, Below w.heap.size w (w1.alloc ob)) := fun ob => HB1.out.alloc HB1.out.size ob
    obtain ⟨p8, c8, hv8⟩ : ∃ p c, v8 = .slice p 0 c := by
      rcases r1.2 with ⟨h, _⟩ | ⟨g, c, cur, h, _⟩
      · exact ⟨_, _, h⟩
      · exact ⟨_, _, h⟩
    subst hv8
    clear r1 r2 r3 hB1 HO
    go_wp2_with fail
    refine wp_loop_rounds 1 ?_
    rw [rounds_succ]
    go_wp2_with fail
    refine wp_loop_rounds 1 ?_
    rw [rounds_succ]
    go_wp2_with fail
    go_ret2
    exact ⟨_, _, rfl, own_nil _ _, rown_nil _ _, HB2.out _⟩

end Go.Proofs.Ytdcekfbejjjkkaa
