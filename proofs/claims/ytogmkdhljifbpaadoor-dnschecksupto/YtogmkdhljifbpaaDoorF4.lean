/- Numbers in bytes. -/
import Derived.Test.YtogmkdhljifbpaaDoorF3
import Derived.Deep.RegionHeld3
import Derived.StillTactics
namespace Go.Proofs.YtogmkdhljifbpaaDoor
open Go.RowKit

/-- A number's byte. -/
def bt (n : Int) (m : Nat) : Int := IntKind.u8.wrap (n / 2 ^ (8 * (m : Int)).toNat)
/-- A number in k bytes, the upper one first. -/
def nbs (n : Int) : Nat → List Value
  | 0 => []
  | k + 1 => .int .u8 (bt n k) :: nbs n k

set_option maxHeartbeats 1600000 in
set_option maxRecDepth 100000 in
theorem wnumber_any (B b nb : Nat) (n : Int) (bs : List Value) (w : World) (h : IsW B b bs w) (hnb : nb ≤ 8) (hlen : bs.length ≤ 100000) (hBw : B ≤ w.heap.size) :
    Calls Tryd.prog 66 #[.pointer (some ⟨b, 0, none⟩), .int .i64 nb, .int .i64 n] w fun e w' => e = .returned (.tuple #[]) ∧ IsW B b (bs ++ nbs n nb) w' ∧ Kp B b w w' := by
  have HI : Hid (IsW B b bs w) := h
  clear h
  go_enter Tryd.func66, Tryd.ntmps66
  go_wp2_with fail
  go_loopw [6] (fun i wr => ∃ (k : Nat) (D : List Value), k ≤ nb ∧ i = .int .i64 ((k : Int) - 1) ∧ D.length + k ≤ 200000 ∧ Hid (D ++ nbs n k = bs ++ nbs n nb) ∧ Hid (IsW B b D wr) ∧ Hid (Kp B b w wr)) (fun i _ => (intOf i + 1).toNat)
  case atStart => exact ⟨nb, bs, Nat.le_refl _, by go_num, by omega, rfl, HI, Kp.refl _ _ _⟩
  case round =>
    obtain ⟨k, D, hk, rfl, hD, HN, HW, HB⟩ := hrel
    cases k with
    | zero =>
      have HW2 : Hid (IsW B b (bs ++ nbs n nb) wr) := (show IsW _ _ _ _ by rw [← HN.out, show nbs n 0 = [] from rfl, List.append_nil]; exact HW.out)
      go_wp2_with fail
      simp [bodyPost, results, Tryd.results66]
      exact ⟨HW2.out, HB.out⟩
    | succ m =>
      have e1 : (((m + 1 : Nat) : Int) - 1) = (m : Int) := by omega
      rw [e1]
      have hm0 : (0 : Int) ≤ (m : Int) := by omega
      have hmul : IntKind.i64.wrap (8 * (m : Int)) = 8 * (m : Int) := by rw [IntKind.wrap_i64]; omega
      have hBr : B ≤ wr.heap.size := Nat.le_trans hBw HB.out.size
      have HWd : Hid (IsW B b D wr.drew) := HW.out
      go_wp2_with fail
      go_region_held3 (fun _ => True) (trivial) (first
        | (go_at_call 79; refine (writeByte_any B b D _ _ HW.out (by omega) hBr).mono ?_; rintro e w5 ⟨rfl, hw5, hb5⟩)
        | (go_at_call 79; refine (writeByte_any B b D _ _ HWd.out (by omega) hBr).mono ?_; rintro e w5 ⟨rfl, hw5, hb5⟩))
      have HW6 : Hid (IsW B b (D ++ [.int .u8 (bt n m)]) w5) := (show IsW _ _ _ _ from .inr hw5)
      have HB6 : Hid (Kp B b w w5) := HB.out.drew.trans hb5
      have HN6 : Hid ((D ++ [.int .u8 (bt n m)]) ++ nbs n m = bs ++ nbs n nb) := (show _ = _ by rw [← HN.out, List.append_assoc]; rfl)
      clear hw5 hb5
      go_wp2_with fail
      exact ⟨⟨m, D ++ [.int .u8 (bt n m)], by omega, by go_num, by simp; omega, HN6, HW6, HB6⟩, by simp [intOf]⟩

end Go.Proofs.YtogmkdhljifbpaaDoor
