/- QueryChecks. -/
import Derived.Test.YtadllmoepoehnaaDoorQD
import Derived.Lib.QuietBelow
namespace Go.Proofs.YtadllmoepoehnaaDoor
open Go.RowKit

abbrev bTest : ByteArray := ⟨#[116, 46, 115, 46, 115, 101, 114, 118, 105, 99, 101, 46, 99, 46, 109, 101, 115, 104]⟩
theorem test_err : prsE bTest = 0 := by kernel_rfl
theorem test_q : prsQ bTest = ⟨⟨#[115]⟩, ⟨#[116]⟩, ⟨#[]⟩, ⟨#[99]⟩⟩ := by kernel_rfl

set_option maxHeartbeats 1600000 in
set_option maxRecDepth 100000 in
theorem queryBegun_any (w : World) (hm : ML w) : Calls Tryd.prog 8 #[] w fun e w' => e = .returned (.bool true) ∧ Below w.heap.size w w' := by
  have HP : Hid (∀ W, Below w.heap.size w W → Calls Tryd.prog 12 #[.string bTest] W fun e w' => e = .returned (.tuple #[.agg #[.string ⟨#[115]⟩, .string ⟨#[116]⟩, .string ⟨#[]⟩, .string ⟨#[99]⟩], .int .i64 0]) ∧ Below W.heap.size W w') := fun W hW => by
    have h := parse_any bTest W (hm.below hW) (by decide)
    rw [test_err, test_q] at h
    exact h
  go_enter Tryd.func8, Tryd.ntmps8
  go_wp2_with fail
  refine (HP.out _ (Below.refl _ _)).mono ?_
  rintro e w1 ⟨rfl, hb1⟩
  have HB1 : Hid (Below w.heap.size w w1) := hb1
  clear hb1
  go_wp2_with fail
  go_ret
  exact ⟨rfl, HB1.out.alloc HB1.out.size _⟩

set_option maxHeartbeats 800000 in
theorem textIs_any (s : ByteArray) (e : Int) (w : World) (h : e ≠ 0 → s = ⟨#[]⟩) : Calls Tryd.prog 11 #[.string s, .int .i64 e, .int .i64 e, .string s] w fun x w' => x = .returned (.bool true) ∧ Below w.heap.size w w' := by
  by_cases h0 : e = 0
  · subst h0
    clear h
    go_enter Tryd.func11, Tryd.ntmps11
    go_wp2_with fail
    go_ret
    exact ⟨rfl, Below.refl _ _⟩
  · have hs := h h0
    subst hs
    have h1 : (e == 0) = false := by simpa using h0
    clear h
    go_enter Tryd.func11, Tryd.ntmps11
    go_wp2_with fail
    go_ret
    exact ⟨rfl, Below.refl _ _⟩

set_option maxHeartbeats 3200000 in
set_option maxRecDepth 100000 in
theorem queryChecks_walk (q : Qu) (w : World) (hm : ML w) (hq : q.ok) :
    Calls Tryd.prog 3 #[.agg #[.string q.service, .string q.tag, .string q.node, .string q.centre]] w fun e w' => e = .returned (.bool true) ∧ Below w.heap.size w w' := by
  have HP : Hid (∀ W, Calls Tryd.prog 6 #[.agg #[.string q.service, .string q.tag, .string q.node, .string q.centre]] W fun e w' => e = .returned (.tuple #[.string (prS q), .int .i64 (prE q)]) ∧ Below W.heap.size W w') := fun W => print_any q W hq
  have HPO : Hid (∀ W, Calls Tryd.prog 7 #[.agg #[.string q.service, .string q.tag, .string q.node, .string q.centre]] W fun e w' => e = .returned (.tuple #[.string (prS q), .int .i64 (prE q)]) ∧ Below W.heap.size W w') := fun W => printOf_any q W hq
  have HC : Hid (∀ W, Calls Tryd.prog 9 #[.agg #[.string q.service, .string q.tag, .string q.node, .string q.centre]] W fun e w' => e = .returned (.int .i64 (chkQ q)) ∧ Below W.heap.size W w') := fun W => qCheck_any q W hq
  have HRC : Hid (∀ W, Calls Tryd.prog 10 #[.agg #[.string q.service, .string q.tag, .string q.node, .string q.centre]] W fun e w' => e = .returned (.int .i64 (chkQ q)) ∧ Below W.heap.size W w') := fun W => rCheckQ_any q W hq
  have HB : Hid (∀ W, Below w.heap.size w W → Calls Tryd.prog 8 #[] W fun e w' => e = .returned (.bool true) ∧ Below W.heap.size W w') := fun W hW => queryBegun_any W (hm.below hW)
  have HT : Hid (∀ W, Calls Tryd.prog 11 #[.string (prS q), .int .i64 (prE q), .int .i64 (prE q), .string (prS q)] W fun x w' => x = .returned (.bool true) ∧ Below W.heap.size W w') := fun W => textIs_any _ _ W (fun h => by unfold prS; rw [if_neg h])
  generalize prS q = S at *
  generalize prE q = E at *
  generalize chkQ q = C at *
  obtain ⟨qs, qt, qn, qc⟩ := q
  simp only at HP HPO HC HRC ⊢
  clear hm hq
  go_enter Tryd.func3, Tryd.ntmps3
  go_wp2_with fail
  refine (HP.out _).mono ?_
  rintro e w1 ⟨rfl, hb1⟩
  obtain ⟨f0, f1, f2, f3, HB1, hl1⟩ := qbox hb1
  clear hb1
  go_wp2_with fail
  refine (HPO.out _).mono ?_
  rintro e w2 ⟨rfl, hb2⟩
  have HB2 : Hid (Below w.heap.size w w2) := HB1.out.trans (hb2.mono (Nat.le_of_lt hl1))
  have hl2 : w.heap.size < w2.heap.size := Nat.lt_of_lt_of_le hl1 hb2.size
  have g0 := (hb2.cell (p := ⟨w.heap.size, 0, none⟩) hl1).trans f0
  have g1 := (hb2.cell (p := ⟨w.heap.size, 1, none⟩) hl1).trans f1
  have g2 := (hb2.cell (p := ⟨w.heap.size, 2, none⟩) hl1).trans f2
  have g3 := (hb2.cell (p := ⟨w.heap.size, 3, none⟩) hl1).trans f3
  clear f0 f1 f2 f3 hb2
  have F0 : ∀ d os, (Go.Sort.grow (redrawn w2 d) os).cell? ⟨w.heap.size, 0, none⟩ = some (.string qs) := cell_regrown g0
  have F1 : ∀ d os, (Go.Sort.grow (redrawn w2 d) os).cell? ⟨w.heap.size, 1, none⟩ = some (.string qt) := cell_regrown g1
  have F2 : ∀ d os, (Go.Sort.grow (redrawn w2 d) os).cell? ⟨w.heap.size, 2, none⟩ = some (.string qn) := cell_regrown g2
  have F3 : ∀ d os, (Go.Sort.grow (redrawn w2 d) os).cell? ⟨w.heap.size, 3, none⟩ = some (.string qc) := cell_regrown g3
  have N1 : ∀ d os, Calls Tryd.prog 8 #[] (Go.Sort.grow (redrawn w2 d) os) fun e w'' => e = .returned (.bool true) ∧ ∃ p : Regrown, w'' = Go.Sort.grow (redrawn w2 p.d) p.os := fun d os => Calls.regrown_of (HB.out _ (HB2.out.trans ((below_regrown w2 d os).mono (Nat.le_of_lt hl2))))
  have N2 : ∀ d os, Calls Tryd.prog 9 #[.agg #[.string qs, .string qt, .string qn, .string qc]] (Go.Sort.grow (redrawn w2 d) os) fun e w'' => e = .returned (.int .i64 C) ∧ ∃ p : Regrown, w'' = Go.Sort.grow (redrawn w2 p.d) p.os := fun d os => Calls.regrown_of (HC.out _)
  have N3 : ∀ d os, Calls Tryd.prog 10 #[.agg #[.string qs, .string qt, .string qn, .string qc]] (Go.Sort.grow (redrawn w2 d) os) fun e w'' => e = .returned (.int .i64 C) ∧ ∃ p : Regrown, w'' = Go.Sort.grow (redrawn w2 p.d) p.os := fun d os => Calls.regrown_of (HRC.out _)
  have N4 : ∀ d os, Calls Tryd.prog 11 #[.string S, .int .i64 E, .int .i64 E, .string S] (Go.Sort.grow (redrawn w2 d) os) fun e w'' => e = .returned (.bool true) ∧ ∃ p : Regrown, w'' = Go.Sort.grow (redrawn w2 p.d) p.os := fun d os => Calls.regrown_of (HT.out _)
  clear HP HPO HC HRC HB HT g0 g1 g2 g3
  go_wp2_with fail
  refine wp_region_quiet_below (by kernel_rfl) (by kernel_rfl) ?_
  repeat (quiet_step (first | exact N1 _ _ | exact N2 _ _ | exact N3 _ _ | exact N4 _ _))
  refine wpQuiet_nil ?_
  intro _ hw'
  obtain ⟨⟨dq, osq⟩, hw''⟩ := hw'
  subst hw''
  have HB5 : Hid (Below w2.heap.size w2 (Go.Sort.grow (redrawn w2 dq) osq)) := below_regrown w2 dq osq
  clear N1 N2 N3 N4 F0 F1 F2 F3
  generalize Go.Sort.grow (redrawn w2 dq) osq = w5 at *
  go_wp2_with fail
  go_ret
  exact ⟨rfl, HB2.out.trans (HB5.out.mono (Nat.le_of_lt hl2))⟩

end Go.Proofs.YtadllmoepoehnaaDoor
