/- What must be in any case; DnsChecks. -/
import Derived.Test.YtogmkdhljifbpaaDoorFK
import Derived.Test.YtogmkdhljifbpaaDoorQ7
namespace Go.Proofs.YtogmkdhljifbpaaDoor
open Go.RowKit Go.Lib

abbrev nameAB : ByteArray := ⟨#[97, 46, 98]⟩
abbrev textAB : ByteArray := ⟨#[1, 2, 0, 0, 0, 1, 0, 0, 0, 0, 0, 0, 1, 97, 1, 98, 0, 0, 1, 0, 1]⟩
theorem textAB_is : (⟨(wmsgL 258 0 1 false false nameAB).toArray⟩ : ByteArray) = textAB := by kernel_rfl
theorem chkAB : chkN nameAB = 0 := by kernel_rfl
theorem lenAB : (wmsgL 258 0 1 false false nameAB).length = 21 := by kernel_rfl

theorem readsAB : Reads textAB 258 0 1 nameAB := ⟨fun g w h => by
  have h := rmessage_none g 258 0 1 17 [⟨#[97]⟩, ⟨#[98]⟩] textAB w h (by decide) (by kernel_rfl) (by kernel_rfl) (by kernel_rfl) (by kernel_rfl) (by kernel_rfl) (by kernel_rfl) (by kernel_rfl)
    ⟨by kernel_rfl, by decide, by kernel_rfl, by kernel_rfl, by decide, by kernel_rfl, by decide, by kernel_rfl⟩ (by simp) (fun l hl => by
      simp only [List.mem_cons, List.not_mem_nil, or_false] at hl
      rcases hl with rfl | rfl <;> kernel_rfl) (by decide) (by decide) (by kernel_rfl) (by kernel_rfl) (by kernel_rfl) (by decide) (by kernel_rfl)
  exact h⟩

set_option maxHeartbeats 1600000 in
set_option maxRecDepth 100000 in
theorem dnsBegun_any (w : World) (hm : ML w) :
    Calls Tryd.prog 9 #[] w fun e w' => e = .returned (.bool true) ∧ Below w.heap.size w w' := by
  have HW : Hid (Calls Tryd.prog 12 #[msgV 258 0 1 false false nameAB] w fun e w' => e = .returned (.tuple #[.string textAB, .int .i64 0]) ∧ Below w.heap.size w w') := (show Calls _ _ _ _ _ by
    have h := write_none 258 0 1 false false nameAB w hm (by decide) (by decide) (by decide) chkAB (by decide) (by rw [lenAB]; omega)
    rw [textAB_is] at h
    exact h)
  have HR : Hid (∀ W, Calls Tryd.prog 16 #[.string textAB] W fun e w' => e = .returned (.tuple #[msgV 258 0 1 false false nameAB, .int .i64 0]) ∧ Below W.heap.size W w') := fun W => read_none 258 0 1 nameAB textAB W readsAB (by decide) (by decide) (by decide) (by decide) chkAB (by decide)
  have hsz : textAB.size = 21 := by kernel_rfl
  clear hm
  generalize textAB = T at *
  go_enter Tryd.func9, Tryd.ntmps9
  go_wp2_with fail
  refine HW.out.mono ?_
  rintro e w1 ⟨rfl, hb1⟩
  have HB1 : Hid (Below w.heap.size w w1) := hb1
  have hl1 := hb1.size
  clear hb1
  go_wp2_with fail
  refine (HR.out _).mono ?_
  rintro e w2 ⟨rfl, hb2⟩
  have HB2 : Hid (Below w.heap.size w w2) := HB1.out.trans (hb2.mono hl1)
  have hl2 := HB2.out.size
  clear hb2 HB1
  have h21 : ((T.size : Int) == 21) = true := by rw [hsz]; rfl
  go_wp2_with fail
  simp [bodyPost, results, Tryd.results9]
  exact HB2.out.alloc hl2 _

set_option maxHeartbeats 1600000 in
set_option maxRecDepth 100000 in
theorem dnsChecks_walk (s : ByteArray) (w : World) (hm : ML w) (hs : s.size ≤ 2000000) :
    Calls Tryd.prog 3 #[.string s] w fun e w' => e = .returned (.bool true) ∧ Below w.heap.size w w' := by
  have HB : Hid (Calls Tryd.prog 9 #[] w fun e w' => e = .returned (.bool true) ∧ Below w.heap.size w w') := dnsBegun_any w hm
  have HC : Hid (∀ W, Calls Tryd.prog 10 #[.string s] W fun e w' => e = .returned (.int .i64 (chkN s)) ∧ Below W.heap.size W w') := fun W => dnsCheck_any s W (by unfold maxLen; omega)
  have HR : Hid (∀ W, Calls Tryd.prog 11 #[.string s] W fun e w' => e = .returned (.int .i64 (chkN s)) ∧ Below W.heap.size W w') := fun W => rCheckName_any s W hs
  generalize chkN s = E at *
  clear hm hs
  go_enter Tryd.func3, Tryd.ntmps3
  go_wp2_with fail
  refine HB.out.mono ?_
  rintro e w1 ⟨rfl, hb1⟩
  have HB1 : Hid (Below w.heap.size w w1) := hb1
  have hl1 := hb1.size
  clear hb1
  go_wp2_with fail
  refine (HC.out _).mono ?_
  rintro e w2 ⟨rfl, hb2⟩
  have HB2 : Hid (Below w.heap.size w w2) := HB1.out.trans (hb2.mono hl1)
  have hl2 := HB2.out.size
  clear hb2 HB1
  go_wp2_with fail
  refine (HR.out _).mono ?_
  rintro e w3 ⟨rfl, hb3⟩
  have HB3 : Hid (Below w.heap.size w w3) := HB2.out.trans (hb3.mono hl2)
  clear hb3 HB2
  go_wp2_with fail
  go_ret
  exact ⟨rfl, HB3.out⟩

end Go.Proofs.YtogmkdhljifbpaaDoor
