/- Print. -/
import Derived.Test.YtadllmoepoehnaaDoorQ9
namespace Go.Proofs.YtadllmoepoehnaaDoor
open Go.RowKit

theorem jn_le : ∀ (xs : List (List UInt8)), (∀ x ∈ xs, x.length ≤ 30) → (jn xs).length ≤ 31 * xs.length
  | [], _ => by simp [jn]
  | [x], h => by have := h x List.mem_cons_self; simp [jn]; omega
  | x :: y :: r, h => by
    have h1 := h x List.mem_cons_self
    have h2 := jn_le (y :: r) (fun z hz => h z (List.mem_cons_of_mem _ hz))
    show (x ++ 46 :: jn (y :: r)).length ≤ _
    simp only [List.length_append, List.length_cons] at h2 ⊢
    omega
theorem fil_cons (s : ByteArray) (r : List ByteArray) : (((s :: r).filter fun x => !decide (x.size = 0)).map bytes) = opt s ++ (r.filter fun x => !decide (x.size = 0)).map bytes := by
  by_cases h : s.size = 0
  · rw [opt_none h, List.filter_cons_of_neg (by simp [h])]; rfl
  · rw [opt_full h, List.filter_cons_of_pos (by simp [h])]; rfl
theorem fil5 (sv tg ce : ByteArray) : (([tg, sv, bServ, ce, bMesh].filter fun x => !decide (x.size = 0)).map bytes) = opt tg ++ (opt sv ++ ([lServ] ++ (opt ce ++ [lMesh]))) := by
  rw [fil_cons, fil_cons, fil_cons, fil_cons, fil_cons]; rfl
theorem fil4 (nd ce : ByteArray) : (([nd, bNode, ce, bMesh].filter fun x => !decide (x.size = 0)).map bytes) = opt nd ++ ([lNode] ++ (opt ce ++ [lMesh])) := by
  rw [fil_cons, fil_cons, fil_cons, fil_cons]; rfl
theorem opt_le {s : ByteArray} (h : s.size ≤ 30) : ∀ x ∈ opt s, x.length ≤ 30 := fun x hx => by
  unfold opt at hx
  split at hx
  · cases hx
  · simp at hx; subst hx; simpa [bytes] using h
theorem opt_len (s : ByteArray) : (opt s).length ≤ 1 := by unfold opt; split <;> simp
theorem len5 {sv tg ce : ByteArray} (h1 : sv.size ≤ 30) (h2 : tg.size ≤ 30) (h3 : ce.size ≤ 30) : (jn (opt tg ++ (opt sv ++ ([lServ] ++ (opt ce ++ [lMesh]))))).length ≤ 155 := by
  refine Nat.le_trans (jn_le _ fun x hx => ?_) ?_
  · simp only [List.mem_append, List.mem_singleton] at hx
    rcases hx with h | h | h | h | h
    · exact opt_le h2 x h
    · exact opt_le h1 x h
    · subst h; decide
    · exact opt_le h3 x h
    · subst h; decide
  · have a := opt_len tg; have b := opt_len sv; have c := opt_len ce
    simp only [List.length_append, List.length_singleton]; omega
theorem len4 {nd ce : ByteArray} (h1 : nd.size ≤ 30) (h3 : ce.size ≤ 30) : (jn (opt nd ++ ([lNode] ++ (opt ce ++ [lMesh])))).length ≤ 155 := by
  refine Nat.le_trans (jn_le _ fun x hx => ?_) ?_
  · simp only [List.mem_append, List.mem_singleton] at hx
    rcases hx with h | h | h | h
    · exact opt_le h1 x h
    · subst h; decide
    · exact opt_le h3 x h
    · subst h; decide
  · have a := opt_len nd; have c := opt_len ce
    simp only [List.length_append, List.length_singleton]; omega
theorem join5 (sv tg ce : ByteArray) (W : World) (g : Nat) (hg : W.heap[g]? = some (.cells #[.string tg, .string sv, .string bServ, .string ce, .string bMesh] 9 (0, 0))) (h1 : sv.size ≤ 30) (h2 : tg.size ≤ 30) (h3 : ce.size ≤ 30) :
    Calls Tryd.prog 14 #[.slice (some ⟨g, 0, none⟩) 5 5] W fun e w' => e = .returned (.string (mk (jn (opt tg ++ (opt sv ++ ([lServ] ++ (opt ce ++ [lMesh]))))))) ∧ Below g W w' := by
  have h := join_any [tg, sv, bServ, ce, bMesh] W g hg (by simp) (by rw [fil5]; exact Nat.le_trans (len5 h1 h2 h3) (by omega))
  rw [fil5] at h
  exact h
theorem join4 (nd ce : ByteArray) (W : World) (g : Nat) (hg : W.heap[g]? = some (.cells #[.string nd, .string bNode, .string ce, .string bMesh] 9 (0, 0))) (h1 : nd.size ≤ 30) (h3 : ce.size ≤ 30) :
    Calls Tryd.prog 14 #[.slice (some ⟨g, 0, none⟩) 4 4] W fun e w' => e = .returned (.string (mk (jn (opt nd ++ ([lNode] ++ (opt ce ++ [lMesh])))))) ∧ Below g W w' := by
  have h := join_any [nd, bNode, ce, bMesh] W g hg (by simp) (by rw [fil4]; exact Nat.le_trans (len4 h1 h3) (by omega))
  rw [fil4] at h
  exact h

theorem prt_size {q : Qu} (h : chkQ q = 0) : (prt q).size ≤ 155 := by
  obtain ⟨_, z1, z2, z3, z4, _⟩ := chkQ_zero h
  unfold prt pLabs
  rw [mk_size]
  split
  · exact len5 (labE_size z1) (labE_size z2) (labE_size z4)
  · exact len4 (labE_size z3) (labE_size z4)

set_option maxHeartbeats 3200000 in
set_option maxRecDepth 100000 in
theorem print_any (q : Qu) (w : World) (hq : q.ok) :
    Calls Tryd.prog 6 #[.agg #[.string q.service, .string q.tag, .string q.node, .string q.centre]] w fun e w' => e = .returned (.tuple #[.string (prS q), .int .i64 (prE q)]) ∧ Below w.heap.size w w' := by
  have HCQ : Hid (∀ W, Calls Tryd.prog 9 #[.agg #[.string q.service, .string q.tag, .string q.node, .string q.centre]] W fun e w' => e = .returned (.int .i64 (chkQ q)) ∧ Below W.heap.size W w') := fun W => qCheck_any q W hq
  by_cases h0 : chkQ q = 0
  · obtain ⟨_, z1, z2, z3, z4, _⟩ := chkQ_zero h0
    have y1 := labE_size z1
    have y2 := labE_size z2
    have y3 := labE_size z3
    have y4 := labE_size z4
    have hps := prt_size h0
    have HJ5 : Hid (∀ (W : World) (g : Nat), W.heap[g]? = some (.cells #[.string q.tag, .string q.service, .string bServ, .string q.centre, .string bMesh] 9 (0, 0)) → Calls Tryd.prog 14 #[.slice (some ⟨g, 0, none⟩) 5 5] W fun e w' => e = .returned (.string (mk (jn (opt q.tag ++ (opt q.service ++ ([lServ] ++ (opt q.centre ++ [lMesh]))))))) ∧ Below g W w') := fun W g h => join5 _ _ _ W g h y1 y2 y4
    have HJ4 : Hid (∀ (W : World) (g : Nat), W.heap[g]? = some (.cells #[.string q.node, .string bNode, .string q.centre, .string bMesh] 9 (0, 0)) → Calls Tryd.prog 14 #[.slice (some ⟨g, 0, none⟩) 4 4] W fun e w' => e = .returned (.string (mk (jn (opt q.node ++ ([lNode] ++ (opt q.centre ++ [lMesh])))))) ∧ Below g W w') := fun W g h => join4 _ _ W g h y3 y4
    have HDC : Hid (∀ W, Calls Tryd.prog 15 #[.string (prt q)] W fun e w' => e = .returned (.int .i64 (chkN (prt q))) ∧ Below W.heap.size W w') := fun W => dnsCheck_any _ W (by unfold maxLen; omega)
    have HE : Hid (prE q = chkN (prt q)) := if_pos h0
    have HS : Hid (prS q = if prE q = 0 then prt q else ⟨#[]⟩) := rfl
    have HP : Hid (prt q = if q.node.size = 0 then mk (jn (opt q.tag ++ (opt q.service ++ ([lServ] ++ (opt q.centre ++ [lMesh]))))) else mk (jn (opt q.node ++ ([lNode] ++ (opt q.centre ++ [lMesh]))))) := (show prt q = _ by unfold prt pLabs; split <;> rfl)
    rw [h0] at HCQ
    generalize mk (jn (opt q.tag ++ (opt q.service ++ ([lServ] ++ (opt q.centre ++ [lMesh]))))) = N5 at *
    generalize mk (jn (opt q.node ++ ([lNode] ++ (opt q.centre ++ [lMesh])))) = N4 at *
    generalize prS q = S at *
    generalize hce : chkN (prt q) = ce' at *
    generalize prt q = T at *
    generalize prE q = E at *
    clear h0 hq hce z1 z2 z3 z4 y1 y2 y3 y4 hps
    obtain ⟨sv, tg, nd, ce⟩ := q
    simp only at HCQ HJ5 HJ4 HP ⊢
    go_enter Tryd.func6, Tryd.ntmps6
    go_wp2_with fail
    refine (HCQ.out _).mono ?_
    rintro e w1 ⟨rfl, hb1⟩
    obtain ⟨f0, f1, f2, f3, HB1, hl1⟩ := qbox hb1
    clear hb1
    go_wp2_with fail
    refine (HJ5.out _ _ (new_at _ rfl)).mono ?_
    rintro e w2 ⟨rfl, hb2⟩
    have HB2 : Hid (Below w1.heap.size w1 w2) := ((Below.refl _ _).alloc (Nat.le_refl _) _).trans hb2
    have g0 := (HB2.out.cell (p := ⟨w.heap.size, 0, none⟩) hl1).trans f0
    have g1 := (HB2.out.cell (p := ⟨w.heap.size, 1, none⟩) hl1).trans f1
    have g2 := (HB2.out.cell (p := ⟨w.heap.size, 2, none⟩) hl1).trans f2
    have g3 := (HB2.out.cell (p := ⟨w.heap.size, 3, none⟩) hl1).trans f3
    have hl2 : w1.heap.size ≤ w2.heap.size := HB2.out.size
    clear f0 f1 f2 f3 hb2
    by_cases hn : nd.size = 0
    · have HT : N5 = T := by rw [HP.out, if_pos hn]
      subst HT
      have en := isempty hn
      subst en
      clear hn HP
      go_wp2_with fail
      refine (HDC.out _).mono ?_
      rintro e w4 ⟨rfl, hb4⟩
      have HBT : Hid (Below w.heap.size w w4) := (HB1.out.trans (HB2.out.mono (Nat.le_of_lt hl1))).trans (hb4.mono (by omega))
      clear hb4
      by_cases hz : ce' = 0
      · have HS2 : Hid (S = N5) := prS_ret HS.out (by rw [HE.out]; exact hz)
        subst hz
        go_wp2_with fail
        go_ret2
        exact ⟨ret2_eq HS2.out.symm HE.out.symm, HBT.out⟩
      · have HS2 : Hid (S = ⟨#[]⟩) := (show S = ⟨#[]⟩ by rw [HS.out, if_neg (by rw [HE.out]; exact hz)])
        have hz2 : (ce' == 0) = false := by simpa using hz
        go_wp2_with fail
        go_ret2
        exact ⟨ret2_eq HS2.out.symm HE.out.symm, HBT.out⟩
    · have HT : N4 = T := by rw [HP.out, if_neg hn]
      subst HT
      obtain ⟨n1, n2⟩ := nempty hn
      clear hn HP
      go_wp2_with fail
      refine (HJ4.out _ _ (new_at _ rfl)).mono ?_
      rintro e w3 ⟨rfl, hb3⟩
      have HB3 : Hid (Below w2.heap.size w2 w3) := ((Below.refl _ _).alloc (Nat.le_refl _) _).trans hb3
      have hl3 : w2.heap.size ≤ w3.heap.size := HB3.out.size
      clear hb3
      go_wp2_with fail
      refine (HDC.out _).mono ?_
      rintro e w4 ⟨rfl, hb4⟩
      have HBT : Hid (Below w.heap.size w w4) := ((HB1.out.trans (HB2.out.mono (Nat.le_of_lt hl1))).trans (HB3.out.mono (by omega))).trans (hb4.mono (by omega))
      clear hb4
      by_cases hz : ce' = 0
      · have HS2 : Hid (S = N4) := prS_ret HS.out (by rw [HE.out]; exact hz)
        subst hz
        go_wp2_with fail
        go_ret2
        exact ⟨ret2_eq HS2.out.symm HE.out.symm, HBT.out⟩
      · have HS2 : Hid (S = ⟨#[]⟩) := (show S = ⟨#[]⟩ by rw [HS.out, if_neg (by rw [HE.out]; exact hz)])
        have hz2 : (ce' == 0) = false := by simpa using hz
        go_wp2_with fail
        go_ret2
        exact ⟨ret2_eq HS2.out.symm HE.out.symm, HBT.out⟩
  · have HE : Hid (prE q = chkQ q) := if_neg h0
    have HS : Hid (prS q = ⟨#[]⟩) := if_neg (by rw [HE.out]; exact h0)
    rw [HE.out, HS.out]
    have h1 : (chkQ q == 0) = false := by simpa using h0
    clear HE HS
    generalize chkQ q = r at *
    go_enter Tryd.func6, Tryd.ntmps6
    go_wp2_with (go_at_call 9; refine (HCQ.out _).mono ?_; rintro e w1 ⟨rfl, hb1⟩)
    go_ret2
    exact ⟨rfl, ((Below.refl _ _).alloc (Nat.le_refl _) _).trans (hb1.mono (by simp))⟩

end Go.Proofs.YtadllmoepoehnaaDoor
