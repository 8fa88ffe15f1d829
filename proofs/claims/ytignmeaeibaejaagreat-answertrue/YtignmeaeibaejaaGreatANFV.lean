
/- AnswerTrue. -/
import Derived.Test.YtignmeaeibaejaaGreatANTV
namespace Go.Proofs.YtignmeaeibaejaaGreat
open Go.RowKit

theorem rget_mem {L : List Rc.Rec} {i : Nat} (h : i < L.length) : L.getD i Rc.dm ∈ L := by
  rw [List.getD, List.getElem?_eq_getElem h]
  exact List.getElem_mem h
theorem anR_known {q : Qu} {t : Int} {here : ByteArray} {sv : List Sv.Svc} {ms : List Mem} {p : Pl} {wh : List Wh.Whe} (he : (anR q t here sv ms p wh).e = 0) : KnOk here sv ms p wh := by
  unfold anR at he
  by_cases h1 : asE q t = 0
  · rw [if_pos h1] at he
    by_cases h2 : knE here sv ms p wh = 0
    · exact knOk h2
    · rw [if_neg h2] at he; exact absurd he h2
  · rw [if_neg h1] at he; exact absurd he h1
set_option maxHeartbeats 12800000 in
set_option maxRecDepth 1000000 in
theorem answerTrue_walk (here : ByteArray) (ps pm pw : Option Addr) (ns cs nm cm nw cw : Nat) (px py pz ph pq : Int) (q : Qu) (sv : List Sv.Svc) (ms : List Mem) (wh : List Wh.Whe) (w : World) (hq : q.ok) (hh : here.size ≤ maxLen) (hs : Sv.Sl w (.slice ps ns cs) sv) (hm : Sl w (.slice pm nm cm) ms) (hw : Wh.Sl w (.slice pw nw cw) wh) :
    Calls Tryz.prog 4 #[.agg #[.string q.service, .string q.tag, .string q.node, .string q.centre], .agg (knA here (.slice ps ns cs) (.slice pm nm cm) px py pz ph pq (.slice pw nw cw))] w fun e w' => e = .returned (.bool true) ∧ Below w.heap.size w w' := by
  have HS : Hid (Sv.Sl w (.slice ps ns cs) sv) := hs
  have HM : Hid (Sl w (.slice pm nm cm) ms) := hm
  have HW : Hid (Wh.Sl w (.slice pw nw cw) wh) := hw
  have hC1 := fun (W : World) (a1 : Sv.Sl W (.slice ps ns cs) sv) (a2 : Sl W (.slice pm nm cm) ms) (a3 : Wh.Sl W (.slice pw nw cw) wh) => Records_any here ps pm pw ns cs nm cm nw cw px py pz ph pq q 1 sv ms wh W hq hh a1 a2 a3
  have HC1 : Hid _ := hC1
  have HFEW : Hid ((anR q 1 here sv ms ⟨px, py, pz, ph, pq⟩ wh).rs.length ≤ 20) := anR_few q 1 here sv ms ⟨px, py, pz, ph, pq⟩ wh
  have HKN : Hid ((anR q 1 here sv ms ⟨px, py, pz, ph, pq⟩ wh).e = 0 → KnOk here sv ms ⟨px, py, pz, ph, pq⟩ wh) := fun h => anR_known h
  have HALL : Hid (q.node.size = 0 → ¬ (q.centre.size ≠ 0 ∧ q.centre ≠ here) → (anR q 1 here sv ms ⟨px, py, pz, ph, pq⟩ wh).e = 0 → ∀ r ∈ (anR q 1 here sv ms ⟨px, py, pz, ph, pq⟩ wh).rs, ∃ s ∈ sv, okS q ms r.addr s = true) := fun a b c => true_all a b c
  have HNO : Hid ((q.centre.size ≠ 0 ∧ q.centre ≠ here) → (anR q 1 here sv ms ⟨px, py, pz, ph, pq⟩ wh).rs = []) := fun h => true_none h
  clear hC1 hs hm hw hq
  generalize anR q 1 here sv ms ⟨px, py, pz, ph, pq⟩ wh = A at *
  obtain ⟨qs, qt, qn, qc⟩ := q
  simp only at *
  obtain ⟨W, hW⟩ : ∃ W, W = (w.alloc (.cells #[.string qs, .string qt, .string qn, .string qc] 23)).alloc (.cells (knA here (.slice ps ns cs) (.slice pm nm cm) px py pz ph pq (.slice pw nw cw)) 30) := ⟨_, rfl⟩
  have hbW : Below w.heap.size w W := by rw [hW]; exact ((Below.refl _ _).alloc (Nat.le_refl _) _).alloc (by simp) _
  have HG0 : Hid (W.heap[w.heap.size]? = some (.cells #[.string qs, .string qt, .string qn, .string qc] 23 (0, 0))) := by rw [hW, Below.heap_alloc _ _ _ (by simp)]; exact heap_alloc_new w _
  have HG1 : Hid (W.heap[w.heap.size + 1]? = some (.cells (knA here (.slice ps ns cs) (.slice pm nm cm) px py pz ph pq (.slice pw nw cw)) 30 (0, 0))) := by
    rw [hW]
    have h := heap_alloc_new (w.alloc (.cells #[.string qs, .string qt, .string qn, .string qc] 23)) (.cells (knA here (.slice ps ns cs) (.slice pm nm cm) px py pz ph pq (.slice pw nw cw)) 30)
    show _ = _
    simpa using h
  have hsW : w.heap.size + 2 ≤ W.heap.size := by rw [hW]; simp
  have HBW : Hid _ := hbW
  clear hbW
  go_enter Tryz.func4, Tryz.ntmps4
  go_wp2_with fail
  rw [← hW]
  clear hW
  refine (answerBegun_any _).mono ?_
  rintro e w1 ⟨rfl, hb1⟩
  have hs1 := hb1.size
  have HB1 : Hid (Below w.heap.size w w1) := HBW.out.trans (hb1.mono (by omega))
  have k0 : w1.heap[w.heap.size]? = some (.cells #[.string qs, .string qt, .string qn, .string qc] 23 (0, 0)) := (hb1.block _ (by omega)).trans HG0.out
  have k1 : w1.heap[w.heap.size + 1]? = some (.cells (knA here (.slice ps ns cs) (.slice pm nm cm) px py pz ph pq (.slice pw nw cw)) 30 (0, 0)) := (hb1.block _ (by omega)).trans HG1.out
  have q0 : w1.cell? ⟨w.heap.size, 0, none⟩ = some (.string qs) := cellsAt k0 0
  have q1 : w1.cell? ⟨w.heap.size, 1, none⟩ = some (.string qt) := cellsAt k0 1
  have q2 : w1.cell? ⟨w.heap.size, 2, none⟩ = some (.string qn) := cellsAt k0 2
  have q3 : w1.cell? ⟨w.heap.size, 3, none⟩ = some (.string qc) := cellsAt k0 3
  have d0 : w1.cell? ⟨w.heap.size + 1, 0, none⟩ = some (.string here) := cellsAt k1 0
  have d1 : w1.cell? ⟨w.heap.size + 1, 1, none⟩ = some (.slice ps ns cs) := cellsAt k1 1
  have d2 : w1.cell? ⟨w.heap.size + 1, 2, none⟩ = some (.slice pm nm cm) := cellsAt k1 2
  have d3 : w1.cell? ⟨w.heap.size + 1, 3, none⟩ = some (.int .i64 px) := cellsAt k1 3
  have d4 : w1.cell? ⟨w.heap.size + 1, 4, none⟩ = some (.int .i64 py) := cellsAt k1 4
  have d5 : w1.cell? ⟨w.heap.size + 1, 5, none⟩ = some (.int .i64 pz) := cellsAt k1 5
  have d6 : w1.cell? ⟨w.heap.size + 1, 6, none⟩ = some (.int .i64 ph) := cellsAt k1 6
  have d7 : w1.cell? ⟨w.heap.size + 1, 7, none⟩ = some (.int .i64 pq) := cellsAt k1 7
  have d8 : w1.cell? ⟨w.heap.size + 1, 8, none⟩ = some (.slice pw nw cw) := cellsAt k1 8
  have HK0 : Hid _ := k0
  have HK1 : Hid _ := k1
  clear k0 k1 hb1 HG0 HG1 HBW
  go_wp2_with fail
  refine Calls.mono (HC1.out w1 (HS.out.below HB1.out) (HM.out.below HB1.out) (HW.out.below HB1.out)) ?_
  rintro e w2 ⟨v, rfl, ho, hb2⟩
  have hs2 := hb2.size
  have HB2 : Hid (Below w.heap.size w w2) := HB1.out.trans (hb2.mono (by omega))
  clear q0 q1 q2 q3 d0 d1 d2 d3 d4 d5 d6 d7 d8
  have k0 : w2.heap[w.heap.size]? = some (.cells #[.string qs, .string qt, .string qn, .string qc] 23 (0, 0)) := (hb2.block _ (by omega)).trans HK0.out
  have k1 : w2.heap[w.heap.size + 1]? = some (.cells (knA here (.slice ps ns cs) (.slice pm nm cm) px py pz ph pq (.slice pw nw cw)) 30 (0, 0)) := (hb2.block _ (by omega)).trans HK1.out
  have q0 : w2.cell? ⟨w.heap.size, 0, none⟩ = some (.string qs) := cellsAt k0 0
  have q1 : w2.cell? ⟨w.heap.size, 1, none⟩ = some (.string qt) := cellsAt k0 1
  have q2 : w2.cell? ⟨w.heap.size, 2, none⟩ = some (.string qn) := cellsAt k0 2
  have q3 : w2.cell? ⟨w.heap.size, 3, none⟩ = some (.string qc) := cellsAt k0 3
  have d0 : w2.cell? ⟨w.heap.size + 1, 0, none⟩ = some (.string here) := cellsAt k1 0
  have d1 : w2.cell? ⟨w.heap.size + 1, 1, none⟩ = some (.slice ps ns cs) := cellsAt k1 1
  have d2 : w2.cell? ⟨w.heap.size + 1, 2, none⟩ = some (.slice pm nm cm) := cellsAt k1 2
  have d3 : w2.cell? ⟨w.heap.size + 1, 3, none⟩ = some (.int .i64 px) := cellsAt k1 3
  have d4 : w2.cell? ⟨w.heap.size + 1, 4, none⟩ = some (.int .i64 py) := cellsAt k1 4
  have d5 : w2.cell? ⟨w.heap.size + 1, 5, none⟩ = some (.int .i64 pz) := cellsAt k1 5
  have d6 : w2.cell? ⟨w.heap.size + 1, 6, none⟩ = some (.int .i64 ph) := cellsAt k1 6
  have d7 : w2.cell? ⟨w.heap.size + 1, 7, none⟩ = some (.int .i64 pq) := cellsAt k1 7
  have d8 : w2.cell? ⟨w.heap.size + 1, 8, none⟩ = some (.slice pw nw cw) := cellsAt k1 8
  have HS2 : Hid (Sv.Sl w2 (.slice ps ns cs) sv) := HS.out.below HB2.out
  have HM2 : Hid (Sl w2 (.slice pm nm cm) ms) := HM.out.below HB2.out
  clear k0 k1 hb2 HK0 HK1
  obtain ⟨ars, acd, ae⟩ := A
  simp only at *
  obtain ⟨pv, cv, hvv⟩ := rcown_slice ho
  obtain ⟨nr, hnr⟩ : ∃ nr, nr = ars.length := ⟨_, rfl⟩
  rw [← hnr] at hvv
  subst hvv
  have HO : Hid (Rc.Own w1.heap.size w2 (.slice pv nr cv) ars) := ho
  have HNR : Hid (nr = ars.length) := hnr
  have hn20 : nr ≤ 20 := by rw [hnr]; exact HFEW.out
  clear ho hnr
  by_cases he : ae = 0
  case neg =>
    have he' : (ae != 0) = true := by simpa using he
    clear HALL HNO HKN
    go_wp2_with fail
    go_ret
    exact ⟨rfl, HB2.out⟩
  case pos =>
  have HALL2 : Hid (qn.size = 0 → ¬ (qc.size ≠ 0 ∧ qc ≠ here) → ∀ r ∈ ars, ∃ s ∈ sv, okS ⟨qs, qt, qn, qc⟩ ms r.addr s = true) := fun a b => HALL.out a b he
  have HKN2 : Hid (KnOk here sv ms ⟨px, py, pz, ph, pq⟩ wh) := HKN.out he
  subst he
  clear HALL HKN
  by_cases hnz : qn.size = 0
  case neg =>
    obtain ⟨e1, e2⟩ := nempty hnz
    clear hnz HALL2 HNO
    go_wp2_with fail
    go_ret
    exact ⟨rfl, HB2.out⟩
  case pos =>
  have g4 : qn.toList = [] := by rw [isempty hnz, Lib.toList_data]
  have g3 : (qn.toList == []) = true := by rw [g4]; rfl
  clear g4
  by_cases hc : qc.size ≠ 0 ∧ qc ≠ here
  · obtain ⟨e1, e2⟩ := nempty hc.1
    obtain ⟨e3, e4⟩ := beq_name hc.2
    have hz : nr = 0 := by rw [HNR.out, HNO.out hc]; rfl
    clear hc HALL2 HNO hnz
    subst hz
    go_wp2_with fail
    go_ret
    exact ⟨rfl, HB2.out⟩
  have HAL3 : Hid (∀ r ∈ ars, ∃ s ∈ sv, okS ⟨qs, qt, qn, qc⟩ ms r.addr s = true) := HALL2.out hnz hc
  have hcc : ((qc.toList == []) = true ∧ qc.toList = []) ∨ ((qc.toList == []) = false ∧ ¬ qc.toList = [] ∧ (qc.toList == here.toList) = true ∧ qc.toList = here.toList) := by
    by_cases h : qc.size = 0
    · have e := isempty h
      have h2 : qc.toList = [] := by rw [e, Lib.toList_data]
      exact .inl ⟨by rw [h2]; rfl, h2⟩
    · have e : qc = here := by
        by_cases e : qc = here
        · exact e
        · exact absurd ⟨h, e⟩ hc
      exact .inr ⟨(nempty h).1, (nempty h).2, by rw [e]; simp, by rw [e]⟩
  clear hc hnz HALL2 HNO
  have HQ0 : Hid _ := q0
  have HQ1 : Hid _ := q1
  have HD1 : Hid _ := d1
  have HD2 : Hid _ := d2
  have hsl : ns ≤ 1000 := by
    have h := (Sv.chk_zero HKN2.out.sv).1
    obtain ⟨_, _, hfe, _, _⟩ := HS.out
    simp only [Value.slice.injEq] at hfe
    have := hfe.2.1
    omega
  rcases hcc with ⟨g1, -⟩ | ⟨g1, g2, g5, -⟩
  all_goals
    go_wp2_with fail
    go_loopw [8] (fun iv wr => ∃ i : Nat, i ≤ nr ∧ iv = .int .i64 i ∧ Hid (Below w2.heap.size w2 wr)) (fun iv _ => nr - (intOf iv).toNat)
    case atStart => exact ⟨0, Nat.zero_le _, rfl, Below.refl _ _⟩
    case round =>
      obtain ⟨i, hin, rfl, HB⟩ := hrel
      have hsr := HB.out.size
      by_cases hlt : i < nr
      · obtain ⟨gb, gc, hgv⟩ := Rc.own_form HO.out i (by rw [← HNR.out]; exact hlt)
        simp only [Value.slice.injEq] at hgv
        obtain ⟨hp, -, hcv⟩ := hgv
        subst hp
        subst hcv
        have ho2 : Rc.Own w1.heap.size w2 (.slice (some ⟨gb, 0, none⟩) ars.length cv) ars := by
          have h := HO.out
          rw [HNR.out] at h
          exact h
        have hgl : gb < w2.heap.size := (World.ownsRow.lt ho2 gb rfl).2
        obtain ⟨-, -, -, c3, -, -, -⟩ := Rc.own_cells ho2 i (by rw [← HNR.out]; exact hlt)
        have HI : Hid (∃ s ∈ sv, okS ⟨qs, qt, qn, qc⟩ ms (ars.getD i Rc.dm).addr s = true) := HAL3.out _ (rget_mem (by rw [← HNR.out]; exact hlt))
        have HC3 : Hid (w2.cell? ⟨gb, 0 + i * 7 + 3, none⟩ = some (.int .i64 (ars.getD i Rc.dm).addr)) := by show _ = _; rw [Nat.zero_add]; exact c3
        clear c3 ho2 q0 q1 q2 q3 d0 d1 d2 d3 d4 d5 d6 d7 d8
        generalize (ars.getD i Rc.dm).addr = ra at *
        have hqb2 : w.heap.size < w2.heap.size := by omega
        have hkb2 : w.heap.size + 1 < w2.heap.size := by omega
        go_upto_block 1 with fail
        refine rb1 wr ⟨qs, qt, qn, qc⟩ sv ms w.heap.size (w.heap.size + 1) gb 0 nr cv i ns cs nm cm ps pm ra _ HKN2.out.ms hsl hlt (by omega) (by omega) (by omega) ((HB.out.cell hqb2).trans HQ0.out) ((HB.out.cell hqb2).trans HQ1.out) ((HB.out.cell hkb2).trans HD1.out) ((HB.out.cell hkb2).trans HD2.out) ((HB.out.cell hgl).trans HC3.out) (HM2.out.below HB.out) (HS2.out.below HB.out) HI ?_
        intro _ _ _ _ _ _ _ _ _ _ _ _ _ _ _ _ _ _ _ _ _ _ _ _ _ _ _ _ _ _ _ _ _ _ _ _ _ _ _ _ _ _ _ _ _ _ _ _ _ _ _ _ _ _ _ _ _ _ _ _ _ _ _ _ _ _ _ _ _ _ _ _ _ _ _ wx hb
        have HB3 : Hid (Below w2.heap.size w2 wx) := HB.out.trans (hb.out.mono hsr)
        clear hb
        go_wp2_with fail
        go_roundw
        case rel => exact ⟨i + 1, by omega, by go_num, HB3⟩
        case measure => simp [intOf]; omega
      · go_wp2_with fail
        go_ret
        exact ⟨by first | rfl | simp <;> omega, HB2.out.trans (HB.out.mono HB2.out.size)⟩

end Go.Proofs.YtignmeaeibaejaaGreat
