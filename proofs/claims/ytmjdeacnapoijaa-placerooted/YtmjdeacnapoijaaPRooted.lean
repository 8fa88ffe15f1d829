
/- The law PlaceRooted. -/
import Derived.Test.YtmjdeacnapoijaaP4
namespace Go.Proofs.Ytmjdeacnapoijaa
open Go.RowKit

set_option maxHeartbeats 1600000 in
theorem placeRooted_walk (n : Int) (w : World) (h1 : n ≤ 9223372036854775807) :
    Calls Try.prog 4 #[.int .i64 n] w fun e w' => e = .returned (.bool true) ∧ Below w.heap.size w w' := by
  by_cases h0 : 0 ≤ n
  · obtain ⟨r0, r1, r2⟩ := rt_is h0
    have r3 : rt n ≤ 3037000499 := by
      apply Classical.byContradiction; intro c
      have := sq_le (a := 3037000500) (b := rt n) (by omega) (by omega)
      omega
    have hR := fun w => Root_any n w h0 h1
    generalize rt n = r at *
    have q0 := sq_nonneg r
    by_cases hr : r = 3037000499
    · subst hr
      go_enter Try.func4, Try.ntmps4
      go_wp2_with fail
      refine (hR _).mono ?_
      rintro e w1 ⟨rfl, rfl⟩
      go_wp2_with fail
      refine (placeBegun_any _).mono ?_
      rintro e w2 ⟨rfl, hb2⟩
      go_wp2_with fail
      go_ret
      exact ⟨rfl, hb2⟩
    · have q1 := sq_le (a := r + 1) (b := 3037000499) (by omega) (by omega)
      go_enter Try.func4, Try.ntmps4
      go_wp2_with fail
      refine (hR _).mono ?_
      rintro e w1 ⟨rfl, rfl⟩
      go_wp2_with fail
      refine (placeBegun_any _).mono ?_
      rintro e w2 ⟨rfl, hb2⟩
      go_wp2_with fail
      go_ret
      exact ⟨rfl, hb2⟩
  · go_enter Try.func4, Try.ntmps4
    go_wp2_with fail
    refine (Root_bad n _ (by omega)).mono ?_
    rintro e w1 ⟨rfl, rfl⟩
    go_wp2_with fail
    refine (placeBegun_any _).mono ?_
    rintro e w2 ⟨rfl, hb2⟩
    go_wp2_with fail
    refine (placeBegun_any _).mono ?_
    rintro e w3 ⟨rfl, hb3⟩
    go_wp2_with fail
    go_ret
    exact ⟨rfl, hb2.trans (hb3.mono hb2.size)⟩

end Go.Proofs.Ytmjdeacnapoijaa
