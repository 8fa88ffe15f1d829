/- QueryBack. -/
import Derived.Test.YtadllmoepoehnaaDoorQE
import Derived.Test.YtadllmoepoehnaaDoorQF
namespace Go.Proofs.YtadllmoepoehnaaDoor
open Go.RowKit

theorem prsQ_ok (s : ByteArray) : (prsQ s).ok := by
  unfold prsQ
  by_cases h : prsE s = 0
  · rw [if_pos h]
    have h0 : chkN s = 0 := by
      by_cases h0 : chkN s = 0
      · exact h0
      · unfold prsE at h; rw [if_neg h0] at h; exact h
    have hl : (lbs s).length ≤ 8 := by rw [lbs_len]; exact (chkN_zero h0).2.1
    have hd : (lbs s).dropLast.length = (lbs s).length - 1 := List.length_dropLast
    exact gss_ok (by omega) (fun x hx => lbs_small h0 x ((List.dropLast_sublist _).subset hx))
  · rw [if_neg h]
    exact ⟨by decide, by decide, by decide, by decide⟩

set_option maxHeartbeats 3200000 in
set_option maxRecDepth 100000 in
theorem queryBack_walk (q : Qu) (s : ByteArray) (w : World) (hm : ML w) (hq : q.ok) (hs : s.size ≤ maxLen) :
    Calls Tryd.prog 5 #[.agg #[.string q.service, .string q.tag, .string q.node, .string q.centre], .string s] w fun e w' => e = .returned (.bool true) ∧ Below w.heap.size w w' := by
  have HB : Hid (∀ W, Below w.heap.size w W → Calls Tryd.prog 8 #[] W fun e w' => e = .returned (.bool true) ∧ Below W.heap.size W w') := fun W hW => queryBegun_any W (hm.below hW)
  have HP : Hid (∀ W, Calls Tryd.prog 6 #[.agg #[.string q.service, .string q.tag, .string q.node, .string q.centre]] W fun e w' => e = .returned (.tuple #[.string (prS q), .int .i64 (prE q)]) ∧ Below W.heap.size W w') := fun W => print_any q W hq
  have HPP : Hid (prE q = 0 → ∀ W, Below w.heap.size w W → Calls Tryd.prog 12 #[.string (prS q)] W fun e w' => e = .returned (.tuple #[.agg #[.string q.service, .string q.tag, .string q.node, .string q.centre], .int .i64 0]) ∧ Below W.heap.size W w') := fun h0 W hW => by
    obtain ⟨h1, h2⟩ := back_one h0
    have hz : (prS q).size ≤ maxLen := by
      rw [show prS q = prt q from if_pos h0]
      have hc : chkQ q = 0 := by
        by_cases hc : chkQ q = 0
        · exact hc
        · unfold prE at h0; rw [if_neg hc] at h0; exact h0
      have := prt_size hc
      unfold maxLen; omega
    have h := parse_any (prS q) W (hm.below hW) hz
    rw [h1, h2] at h
    exact h
  have HPN : Hid (∀ W, Below w.heap.size w W → Calls Tryd.prog 12 #[.string s] W fun e w' => e = .returned (.tuple #[.agg #[.string (prsQ s).service, .string (prsQ s).tag, .string (prsQ s).node, .string (prsQ s).centre], .int .i64 (prsE s)]) ∧ Below W.heap.size W w') := fun W hW => parse_any s W (hm.below hW) hs
  have HPX : Hid (prsE s = 0 → ∀ W, Calls Tryd.prog 6 #[.agg #[.string (prsQ s).service, .string (prsQ s).tag, .string (prsQ s).node, .string (prsQ s).centre]] W fun e w' => e = .returned (.tuple #[.string s, .int .i64 0]) ∧ Below W.heap.size W w') := fun h0 W => by
    have h := print_any (prsQ s) W (prsQ_ok s)
    obtain ⟨h1, h2⟩ := back_two h0
    rw [h1, h2] at h
    exact h
  generalize prS q = S at *
  generalize prE q = E at *
  generalize prsE s = F at *
  generalize prsQ s = X at *
  obtain ⟨qs, qt, qn, qc⟩ := q
  obtain ⟨xs, xt, xn, xc⟩ := X
  simp only at HP HPP HPN HPX ⊢
  clear hm hq hs
  go_enter Tryd.func5, Tryd.ntmps5
  go_wp2_with fail
  refine (HB.out _ ((Below.refl _ _).alloc (Nat.le_refl _) _)).mono ?_
  rintro e w1 ⟨rfl, hb1⟩
  obtain ⟨f0, f1, f2, f3, HB1, hl1⟩ := qbox hb1
  clear hb1 HB
  go_wp2_with fail
  refine (HP.out _).mono ?_
  rintro e w2 ⟨rfl, hb2⟩
  have HB2 : Hid (Below w.heap.size w w2) := HB1.out.trans (hb2.mono (Nat.le_of_lt hl1))
  have hl2 : w.heap.size < w2.heap.size := Nat.lt_of_lt_of_le hl1 hb2.size
  have g0 := (hb2.cell (p := ⟨w.heap.size, 0, none⟩) hl1).trans f0
  have g1 := (hb2.cell (p := ⟨w.heap.size, 1, none⟩) hl1).trans f1
  have g2 := (hb2.cell (p := ⟨w.heap.size, 2, none⟩) hl1).trans f2
  have g3 := (hb2.cell (p := ⟨w.heap.size, 3, none⟩) hl1).trans f3
  clear f0 f1 f2 f3 hb2 HP
  by_cases hE : E = 0
  · have HPQ : Hid (∀ W, Below w.heap.size w W → Calls Tryd.prog 12 #[.string S] W fun e w' => e = .returned (.tuple #[.agg #[.string qs, .string qt, .string qn, .string qc], .int .i64 0]) ∧ Below W.heap.size W w') := HPP.out hE
    subst hE
    go_wp2_with fail
    refine (HPQ.out _ HB2.out).mono ?_
    rintro e w3 ⟨rfl, hb3⟩
    have HB3 : Hid (Below w.heap.size w w3) := HB2.out.trans (hb3.mono (Nat.le_of_lt hl2))
    have f0 := (hb3.cell (p := ⟨w.heap.size, 0, none⟩) hl2).trans g0
    have f1 := (hb3.cell (p := ⟨w.heap.size, 1, none⟩) hl2).trans g1
    have f2 := (hb3.cell (p := ⟨w.heap.size, 2, none⟩) hl2).trans g2
    have f3 := (hb3.cell (p := ⟨w.heap.size, 3, none⟩) hl2).trans g3
    have hl3 : w.heap.size < w3.heap.size := Nat.lt_of_lt_of_le hl2 hb3.size
    clear g0 g1 g2 g3 hb3
    have HB3A : Hid (Below w.heap.size w (w3.alloc (.cells #[.string qs, .string qt, .string qn, .string qc] 23))) := HB3.out.alloc HB3.out.size _
    go_wp2_with fail
    refine (HPN.out _ HB3A.out).mono ?_
    rintro e w4 ⟨rfl, hb4⟩
    have HB4 : Hid (Below w.heap.size w w4) := Below.trans HB3A.out (hb4.mono (Below.size HB3A.out))
    clear hb4
    by_cases hF : F = 0
    · have HPZ : Hid (∀ W, Calls Tryd.prog 6 #[.agg #[.string xs, .string xt, .string xn, .string xc]] W fun e w' => e = .returned (.tuple #[.string s, .int .i64 0]) ∧ Below W.heap.size W w') := HPX.out hF
      subst hF
      go_wp2_with fail
      refine (HPZ.out _).mono ?_
      rintro e w5 ⟨rfl, hb5⟩
      obtain ⟨_, _, _, _, HB5, _⟩ := qbox hb5
      go_wp2_with fail
      go_ret
      exact ⟨rfl, HB4.out.trans (HB5.out.mono HB4.out.size)⟩
    · have k1 : (F == 0) = false := by simpa using hF
      go_wp2_with fail
      go_ret
      exact ⟨rfl, HB4.out.alloc HB4.out.size _⟩
  · have h1 : (E == 0) = false := by simpa using hE
    go_wp2_with fail
    refine (HPN.out _ HB2.out).mono ?_
    rintro e w4 ⟨rfl, hb4⟩
    have HB4 : Hid (Below w.heap.size w w4) := Below.trans HB2.out (hb4.mono (Below.size HB2.out))
    clear hb4
    by_cases hF : F = 0
    · have HPZ : Hid (∀ W, Calls Tryd.prog 6 #[.agg #[.string xs, .string xt, .string xn, .string xc]] W fun e w' => e = .returned (.tuple #[.string s, .int .i64 0]) ∧ Below W.heap.size W w') := HPX.out hF
      subst hF
      go_wp2_with fail
      refine (HPZ.out _).mono ?_
      rintro e w5 ⟨rfl, hb5⟩
      obtain ⟨_, _, _, _, HB5, _⟩ := qbox hb5
      go_wp2_with fail
      go_ret
      exact ⟨rfl, HB4.out.trans (HB5.out.mono HB4.out.size)⟩
    · have k1 : (F == 0) = false := by simpa using hF
      go_wp2_with fail
      go_ret
      exact ⟨rfl, HB4.out.alloc HB4.out.size _⟩

end Go.Proofs.YtadllmoepoehnaaDoor
