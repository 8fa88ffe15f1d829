
/- The law RumorEnds, of rumors that are wrong. -/
import Derived.Test.YtdcekfbejjjkkaaRE2
namespace Go.Proofs.Ytdcekfbejjjkkaa
open Go.RowKit

set_option maxHeartbeats 3200000 in
set_option maxRecDepth 100000 in
theorem ends_bad (rs : List Rum) (v : Value) (most times : Int) (w : World) (hv : RSl w v rs) (hl : rs.length ≤ 35184372088832) (hm1 : -9223372036854775808 ≤ most) (hm2 : most ≤ 9223372036854775807) (ht1 : -9223372036854775808 ≤ times) (ht2 : times ≤ 9223372036854775807) (h0 : chkR rs ≠ 0) :
    Calls Try.prog 6 #[v, .int .i64 most, .int .i64 times] w fun e w' => e = .returned (.bool true) ∧ Below w.heap.size w w' := by
  obtain ⟨l0, hl0, hm0, hms, hmb⟩ := info_parts Try.infoI
  have HV : Hid (RSl w v rs) := hv
  have HT : Hid (∀ most times w, RSl w v rs → Calls Try.prog 14 #[v, .int .i64 most, .int .i64 times] w fun e w' => e = .returned (.tuple #[.slice none 0 0, .slice none 0 0, .int .i64 (chkR rs)]) ∧ Below w.heap.size w w') := fun most times w hv => take_bad1 rs v most times w hv h0
  have HK : Hid (∀ w, RSl w v rs → Calls Try.prog 8 #[v] w fun e w' => e = .returned (.int .i64 (chkR rs)) ∧ Below w.heap.size w w') := fun w hv => checkRumors_any rs v w hv
  have hne : (chkR rs != 0) = true := by simpa using h0
  obtain ⟨pa, ca, rfl, _, _⟩ := hv
  clear h0
  generalize chkR rs = q at *
  generalize hN : rs.length = n at *
  clear hN
  go_enter Try.func6, Try.ntmps6
  go_wp2_with fail
  refine (rumorBegun_any _).mono ?_
  rintro e w1 ⟨rfl, hb1⟩
  have HB1 : Hid (Below w.heap.size w w1) := hb1
  clear hb1
  go_wp2_with fail
  refine (choose_any _ _ _ hm1 hm2 (by omega) (by omega)).mono ?_
  rintro e w' ⟨r1, rfl, g1, g2, hw⟩
  have hw2 := hw.symm
  clear hw
  subst hw2
  go_wp2_with fail
  refine (choose_any _ _ _ ht1 ht2 (by omega) (by omega)).mono ?_
  rintro e w' ⟨r2, rfl, g3, g4, hw⟩
  have hw2 := hw.symm
  clear hw
  subst hw2
  have hmk := run_make (P := Try.prog) w1 45 3 l0 (.int .i64 0) Try.underlying45 hl0 hm0 .i64 .i64 n n (by omega) (by omega) (by rw [hmb]; omega) (by omega)
  rw [hms, Nat.mul_one, Int.toNat_natCast, show (Value.int .i64 0).cells = #[Value.int .i64 0] from rfl] at hmk
  have HB2 : Hid (Below w.heap.size w (w1.alloc (.cells (madeCells #[Value.int .i64 0] n) 3))) := HB1.out.trans (((Below.refl w1.heap.size w1).alloc (Nat.le_refl _) _).mono HB1.out.size)
  go_wp2_with fail
  generalize w1.alloc (.cells (madeCells #[Value.int .i64 0] n) 3) = w2 at *
  clear hmk
  go_loopw [8, 9] (fun nv i wr => nv = .slice pa n ca ∧ i = .int .i64 0 ∧ wr = w2) (fun _ i _ => 1 - (intOf i).toNat)
  case atStart => exact ⟨rfl, rfl, rfl⟩
  case round =>
    obtain ⟨rfl, rfl, hwr⟩ := hrel
    subst hwr
    go_wp2_with fail
    refine (HT.out _ _ _ (HV.out.below HB2.out)).mono ?_
    rintro e w3 ⟨rfl, hb3⟩
    have HB3 : Hid (Below w.heap.size w w3) := HB2.out.trans (hb3.mono HB2.out.size)
    clear hb3
    go_wp2_with fail
    refine (HK.out _ (HV.out.below HB3.out)).mono ?_
    rintro e w4 ⟨rfl, hb4⟩
    have HB4 : Hid (Below w.heap.size w w4) := HB3.out.trans (hb4.mono HB3.out.size)
    clear hb4
    go_wp2_with fail
    go_ret
    exact ⟨rfl, HB4.out⟩

end Go.Proofs.Ytdcekfbejjjkkaa
