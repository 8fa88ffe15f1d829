
/- gateways: what they must be beside an errno. -/
import Derived.Test.YtjpcngkddejdjafGK9
namespace Go.Proofs.Ytjpcngkddejdjaf
namespace Gw
open Go.RowKit

set_option maxHeartbeats 800000 in
theorem are_bad (e1 e2 : Int) (v2 : Value) (w : World) (hne : e2 ≠ 0) (heq : e1 = e2) :
    Calls Try.prog 21 #[.slice none 0 0, .int .i64 e1, .int .i64 e2, v2] w fun e w' => e = .returned (.bool true) ∧ Below w.heap.size w w' := by
  have he : (e2 != 0) = true := by simpa using hne
  have he2 : (e1 == e2) = true := by simpa using heq
  clear hne heq
  go_enter Try.func21, Try.ntmps21
  go_wp2_with (go_at_call 28; refine (same_any [] [] _ _ _ (sl_nil _) (sl_nil _) (by simp)).mono ?_; rintro e w' ⟨r, rfl, h1, h2⟩)
  go_ret
  exact ⟨ret_bool (by simpa using h1), h2⟩

set_option maxHeartbeats 800000 in
theorem are_ok (L : List Gwy) (e1 e2 : Int) (v1 v2 : Value) (w : World) (hz : e2 = 0) (heq : e1 = e2) (h1 : Sl w v1 L) (h2 : Sl w v2 L) (hn : L.length ≤ 1000) :
    Calls Try.prog 21 #[v1, .int .i64 e1, .int .i64 e2, v2] w fun e w' => e = .returned (.bool true) ∧ Below w.heap.size w w' := by
  have H1 : Hid (Sl w v1 L) := h1
  have H2 : Hid (Sl w v2 L) := h2
  have he : (e2 != 0) = false := by simpa using hz
  have he2 : (e1 == e2) = true := by simpa using heq
  clear h1 h2 hz heq
  go_enter Try.func21, Try.ntmps21
  go_wp2_with (go_at_call 28; refine (same_any L L _ _ _ H1.out H2.out hn).mono ?_; rintro e w' ⟨r, rfl, h1, h2⟩)
  go_ret
  exact ⟨ret_bool (by simpa using h1), h2⟩

end Gw
end Go.Proofs.Ytjpcngkddejdjaf
