/- The law CentreRoutes. -/
import Derived.Test.YtjpcngkddejdjafGKG8
import Derived.Test.YtjpcngkddejdjafGKG2
import Derived.Deep.AppendLies
namespace Go.Proofs.Ytjpcngkddejdjaf
namespace Gw
open Go.RowKit

/-- What F3 says of a table and of the next one, of gateways that are right: which way the law goes. -/
theorem next_why {ms : List Gwy} {here to : ByteArray} {p : Nat} {f : Bool} (hat : At ms ⟨to, 0, 0⟩ p f) (hh : labB here = true) :
    (labB to = false ∧ nextE f here to = 1 ∧ nextA ms p f here to = 0) ∨ (labB to = true ∧ here = to ∧ nextE f here to = 6 ∧ nextA ms p f here to = 0) ∨
    (labB to = true ∧ here ≠ to ∧ f = false ∧ nextE f here to = 5 ∧ nextA ms p f here to = 0) ∨ (labB to = true ∧ here ≠ to ∧ f = true ∧ nextE f here to = 0 ∧ nextA ms p f here to = (ms.getD p dm).addr ∧ p < ms.length) := by
  cases ht : labB to
  · have h : nextE f here to = 1 := by simp [nextE, hh, ht]
    exact .inl ⟨rfl, h, by simp [nextA, h]⟩
  · by_cases he : here = to
    · have h : nextE f here to = 6 := by rw [nextE, hh, ht]; simp [he]
      exact .inr (.inl ⟨rfl, he, h, by simp [nextA, h]⟩)
    · cases f
      · have h : nextE false here to = 5 := by rw [nextE, hh, ht]; simp [he]
        exact .inr (.inr (.inl ⟨rfl, he, rfl, h, by simp [nextA, h]⟩))
      · have h : nextE true here to = 0 := by rw [nextE, hh, ht]; simp [he]
        exact .inr (.inr (.inr ⟨rfl, he, rfl, h, by rw [nextA, if_pos h, fnd, if_pos rfl], (hat.is.1 rfl).1⟩))

set_option maxHeartbeats 6400000 in
set_option maxRecDepth 100000 in
theorem routes_bad (ms : List Gwy) (v : Value) (here to : ByteArray) (w : World) (hv : Sl w v ms) (hl : ms.length ≤ 9223372036854775807) (h0 : chk ms ≠ 0) :
    Calls Try.prog 6 #[v, .string here, .string to] w fun e w' => e = .returned (.bool true) ∧ Below w.heap.size w w' := by
  have HV : Hid (Sl w v ms) := hv
  have HNE : Hid (chk ms ≠ 0) := h0
  have hec : (chk ms == 0) = false := by simpa using h0
  have hnc : (chk ms != 0) = true := by simpa using h0
  have HT : Hid (∀ W, Sl W v ms → Calls Try.prog 24 #[v, .string here] W fun e w' => e = .returned (.tuple #[.slice none 0 0, .int .i64 (chk ms)]) ∧ Below W.heap.size W w') := fun W h => table_bad ms v here W h h0
  have HX : Hid (∀ W, Sl W v ms → Calls Try.prog 25 #[v, .string here, .string to] W fun e w' => e = .returned (.tuple #[.int .i64 0, .int .i64 (chk ms)]) ∧ Below W.heap.size W w') := fun W h => next_bad ms v here to W h h0
  have HC : Hid (∀ W, Sl W v ms → Calls Try.prog 17 #[v] W fun e w' => e = .returned (.int .i64 (chk ms)) ∧ Below W.heap.size W w') := fun W h => refCheck_any ms v W h
  have HG : Hid (∀ W, Sl W v ms → Calls Try.prog 27 #[v, .string to] W fun e w' => ∃ r : Int, e = .returned (.int .i64 r) ∧ Hid (AtI ms to r) ∧ w' = W) := fun W h => refAt_any ms v to W h hl
  have hpos : 0 < ms.length := by
    cases ms with
    | nil => exact absurd chk_nil h0
    | cons x r => simp
  obtain ⟨pa, ca, hvv, _, _⟩ := hv
  subst hvv
  clear h0
  generalize chk ms = q at *
  generalize hN : ms.length = n at *
  clear hN
  go_enter Try.func6, Try.ntmps6
  go_wp2_with fail
  refine (HT.out _ HV.out).mono ?_
  rintro e w1 ⟨rfl, hb1⟩
  have HB1 : Hid (Below w.heap.size w w1) := hb1
  clear hb1
  go_wp2_with fail
  refine (HX.out _ (HV.out.below HB1.out)).mono ?_
  rintro e w2 ⟨rfl, hb2⟩
  have HB2 : Hid (Below w.heap.size w w2) := HB1.out.trans (hb2.mono HB1.out.size)
  clear hb2
  go_wp2_with fail
  refine (HC.out _ (HV.out.below HB2.out)).mono ?_
  rintro e w3 ⟨rfl, hb3⟩
  have HB3 : Hid (Below w.heap.size w w3) := HB2.out.trans (hb3.mono HB2.out.size)
  clear hb3
  go_wp2_with fail
  go_loopw [13, 14] (fun wv i wr => wv = .slice none 0 0 ∧ i = .int .i64 0 ∧ wr = w3) (fun _ _ _ => 0)
  case atStart => exact ⟨rfl, rfl, rfl⟩
  case round =>
    obtain ⟨rfl, rfl, hwr⟩ := hrel
    subst hwr
    go_wp2_with fail
    refine (HG.out _ (HV.out.below HB3.out)).mono ?_
    rintro e w' ⟨r, rfl, _, hw⟩
    have hw2 := hw.symm
    clear hw
    subst hw2
    go_wp2_with fail
    refine (begun_any _).mono ?_
    rintro e w5 ⟨rfl, hb5⟩
    have HB5 : Hid (Below w.heap.size w w5) := HB3.out.trans (hb5.mono HB3.out.size)
    clear hb5
    go_wp2_with fail
    go_loopw [17] (fun i wx => i = .int .i64 0 ∧ wx = w5) (fun _ _ => 0)
    case atStart => exact ⟨rfl, rfl⟩
    case round =>
      obtain ⟨rfl, hwx⟩ := hrel
      subst hwx
      go_wp2_with fail
      go_ret
      exact ⟨rfl, HB5.out⟩

set_option maxHeartbeats 6400000 in
set_option maxRecDepth 100000 in
theorem routes_form (ms : List Gwy) (v : Value) (here to : ByteArray) (w : World) (hv : Sl w v ms) (hs : here.size ≤ maxLen) (ht : to.size ≤ maxLen) (h0 : chk ms = 0) (hh : labB here = false) :
    Calls Try.prog 6 #[v, .string here, .string to] w fun e w' => e = .returned (.bool true) ∧ Below w.heap.size w w' := by
  have HV : Hid (Sl w v ms) := hv
  have hlen := (chk_zero h0).1
  obtain ⟨p, f, hat⟩ := at_any ms (chk_zero h0).2.1 ⟨to, 0, 0⟩
  have hE : nextE f here to = 1 := by simp [nextE, hh]
  have hA : nextA ms p f here to = 0 := by simp [nextA, hE]
  have HT : Hid (∀ W, Sl W v ms → Calls Try.prog 24 #[v, .string here] W fun e w' => e = .returned (.tuple #[.slice none 0 0, .int .i64 1]) ∧ Below W.heap.size W w') := fun W h => table_form ms v here W h h0 hs hh
  have HX : Hid (∀ W, Sl W v ms → Calls Try.prog 25 #[v, .string here, .string to] W fun e w' => e = .returned (.tuple #[.int .i64 0, .int .i64 1]) ∧ Below W.heap.size W w') := fun W h => by
    have h2 := next_good ms v here to W h h0 hs ht p f hat
    rw [hE, hA] at h2
    exact h2
  have HC : Hid (∀ W, Sl W v ms → Calls Try.prog 17 #[v] W fun e w' => e = .returned (.int .i64 0) ∧ Below W.heap.size W w') := fun W h => by
    have h2 := refCheck_any ms v W h
    rw [h0] at h2
    exact h2
  have HG : Hid (∀ W, Sl W v ms → Calls Try.prog 27 #[v, .string to] W fun e w' => ∃ r : Int, e = .returned (.int .i64 r) ∧ Hid (AtI ms to r) ∧ w' = W) := fun W h => refAt_any ms v to W h (by omega)
  obtain ⟨pa, ca, hvv, _, _⟩ := hv
  subst hvv
  clear h0 hat hE hA
  generalize hN : ms.length = n at *
  clear hN
  have hi1 : (0 < n) ∨ n = 0 := by omega
  rcases hi1 with hi1 | hi1
  all_goals
    try subst hi1
    go_enter Try.func6, Try.ntmps6
    go_wp2_with fail
    refine (HT.out _ HV.out).mono ?_
    rintro e w1 ⟨rfl, hb1⟩
    have HB1 : Hid (Below w.heap.size w w1) := hb1
    clear hb1
    go_wp2_with fail
    refine (HX.out _ (HV.out.below HB1.out)).mono ?_
    rintro e w2 ⟨rfl, hb2⟩
    have HB2 : Hid (Below w.heap.size w w2) := HB1.out.trans (hb2.mono HB1.out.size)
    clear hb2
    go_wp2_with fail
    refine (HC.out _ (HV.out.below HB2.out)).mono ?_
    rintro e w3 ⟨rfl, hb3⟩
    have HB3 : Hid (Below w.heap.size w w3) := HB2.out.trans (hb3.mono HB2.out.size)
    clear hb3
    go_wp2_with (go_at_call 26; refine (isLabel_any _ _ hs).mono ?_; rintro e w' ⟨rfl, hw⟩; have hw2 := hw.symm; clear hw; subst hw2; rw [hh])
    go_loopw [13, 14] (fun wv i wr => wv = .slice none 0 0 ∧ i = .int .i64 0 ∧ wr = w3) (fun _ _ _ => 0)
    case atStart => exact ⟨rfl, rfl, rfl⟩
    case round =>
      obtain ⟨rfl, rfl, hwr⟩ := hrel
      subst hwr
      go_wp2_with fail
      refine (HG.out _ (HV.out.below HB3.out)).mono ?_
      rintro e w' ⟨r, rfl, _, hw⟩
      have hw2 := hw.symm
      clear hw
      subst hw2
      go_wp2_with (go_at_call 26; refine (isLabel_any _ _ hs).mono ?_; rintro e w' ⟨rfl, hw⟩; have hw2 := hw.symm; clear hw; subst hw2; rw [hh])
      refine (begun_any _).mono ?_
      rintro e w5 ⟨rfl, hb5⟩
      have HB5 : Hid (Below w.heap.size w w5) := HB3.out.trans (hb5.mono HB3.out.size)
      clear hb5
      go_wp2_with fail
      go_loopw [17] (fun i wx => i = .int .i64 0 ∧ wx = w5) (fun _ _ => 0)
      case atStart => exact ⟨rfl, rfl⟩
      case round =>
        obtain ⟨rfl, hwx⟩ := hrel
        subst hwx
        go_wp2_with fail
        go_ret
        exact ⟨rfl, HB5.out⟩

end Gw
end Go.Proofs.Ytjpcngkddejdjaf
