
/- PlaceSorts, whole. -/
import Derived.Test.YtmjdeacnapoijaaPS9
import Derived.Test.YtmjdeacnapoijaaPW
namespace Go.Proofs.Ytmjdeacnapoijaa
open Go.RowKit

set_option maxHeartbeats 800000 in
theorem sameT_any (l : List ByteArray) (v1 v2 : Value) (w : World) (h1 : TSl w v1 l) (h2 : TSl w v2 l) (hn : l.length ≤ 1000) :
    Calls Try.prog 21 #[v1, v2] w fun e w' => e = .returned (.bool true) ∧ Below w.heap.size w w' := by
  obtain ⟨p1, c1, hv1, _, hr1⟩ := h1
  obtain ⟨p2, c2, hv2, _, hr2⟩ := h2
  subst hv1 hv2
  have H1 : Hid (0 < l.length → ∃ g o, p1 = some ⟨g, o, none⟩ ∧ g < w.heap.size ∧ ∀ j, j < l.length → w.cell? ⟨g, o + j, none⟩ = some (.string (l.getD j ByteArray.empty))) := fun hpos => by
    rcases hr1 with h | h
    · rw [h] at hpos; simp at hpos
    · exact h
  have H2 : Hid (0 < l.length → ∃ g o, p2 = some ⟨g, o, none⟩ ∧ g < w.heap.size ∧ ∀ j, j < l.length → w.cell? ⟨g, o + j, none⟩ = some (.string (l.getD j ByteArray.empty))) := fun hpos => by
    rcases hr2 with h | h
    · rw [h] at hpos; simp at hpos
    · exact h
  clear hr1 hr2
  generalize hna : l.length = n at *
  clear hna
  go_enter Try.func21, Try.ntmps21
  go_wp2_with fail
  go_loopw [5] (fun i w' => ∃ k : Nat, k ≤ n ∧ i = .int .i64 k ∧ Below w.heap.size w w') (fun i _ => n - (intOf i).toNat)
  case atStart => exact ⟨0, Nat.zero_le _, rfl, Below.refl _ _⟩
  case round =>
    obtain ⟨k, hk, rfl, hbl⟩ := hrel
    obtain ⟨hbc, hbf⟩ := bcell hbl
    have hsz := hbl.size
    by_cases hlt : k < n
    · obtain ⟨g1, o1, e1, hl1, hc1⟩ := H1.out (by omega)
      obtain ⟨g2, o2, e2, hl2, hc2⟩ := H2.out (by omega)
      subst e1 e2
      have d1 := hc1 k hlt
      have d2 := hc2 k hlt
      clear hc1 hc2
      generalize l.getD k ByteArray.empty = s at *
      go_wp2_with fail
      go_quiet (fail)
      go_wp2_with fail
      go_roundw
      case rel => exact ⟨k + 1, by omega, by go_num, below_drewN hbl _⟩
      case measure => simp [intOf]; omega
    · go_wp2_with fail
      go_ret
      exact ⟨rfl, hbl⟩

theorem chkPs_snoc : ∀ (xs : List Pl) (x : Pl), chkPs xs = 0 → chkPs (xs ++ [x]) = chkP x
  | [], x, _ => by
    show (if chkP x = 0 then chkPs [] else 3) = chkP x
    rcases chkP_or x with h | h <;> simp [h, chkPs]
  | y :: r, x, h => by
    have hy : chkP y = 0 := by
      unfold chkPs at h
      by_cases hy : chkP y = 0
      · exact hy
      · rw [if_neg hy] at h; omega
    have hr : chkPs r = 0 := by unfold chkPs at h; rwa [if_pos hy] at h
    rw [List.cons_append]
    unfold chkPs
    rw [if_pos hy]
    exact chkPs_snoc r x hr
theorem chkPs_step (p : Pl) (ms : List Wh.Whe) (k : Nat) (hk : k < ms.length) (h : chkPs (p :: ((plcs ms).map toPl).take k) = 0) : chkPs (p :: ((plcs ms).map toPl).take (k + 1)) = chkP (toPl (plc (ms.getD k Wh.dm))) := by
  have hk2 : k < ((plcs ms).map toPl).length := by simp [plcs_len]; exact hk
  rw [List.take_succ_eq_append_getElem hk2, ← List.cons_append, chkPs_snoc _ _ h]
  simp [plcs, List.getD, List.getElem?_eq_getElem hk]
theorem chkPs_early (p : Pl) (ms : List Wh.Whe) (k : Nat) (h : chkPs (p :: ((plcs ms).map toPl).take k) ≠ 0) : chkPs (p :: (plcs ms).map toPl) = 3 ∧ chkPs (p :: ((plcs ms).map toPl).take k) = 3 := by
  refine ⟨?_, (chkPs_or _).resolve_left h⟩
  rcases chkPs_or (p :: (plcs ms).map toPl) with e | e
  · exfalso
    apply h
    rw [chkPs_zero] at e ⊢
    intro j hj
    have h2 : j < (p :: (plcs ms).map toPl).length := by
      have : ((p :: ((plcs ms).map toPl).take k)).length ≤ (p :: (plcs ms).map toPl).length := by simp; exact Nat.min_le_right _ _
      omega
    have := e j h2
    rw [show (p :: ((plcs ms).map toPl).take k) = (p :: (plcs ms).map toPl).take (k + 1) from rfl] at hj ⊢
    rw [show ((p :: (plcs ms).map toPl).take (k + 1)).getD j dp = (p :: (plcs ms).map toPl).getD j dp by
      have : j < k + 1 := by rw [List.length_take] at hj; omega
      simp only [List.getD, List.getElem?_take_of_lt this]]
    exact this
  · exact e

theorem tsl_nil (w : World) : TSl w (.slice none 0 0) [] := ⟨none, 0, rfl, fun j => by simp, .inl rfl⟩

/-- What Sort answers, all in all. -/
def sortE (p : Pl) (ms : List Wh.Whe) (ns : List ByteArray) : Int := if 100 < ms.length ∨ 100 < ns.length then 2 else chkPs (p :: (plcs ms).map toPl)
def sortL (p : Pl) (ms : List Wh.Whe) (ns : List ByteArray) : List ByteArray := if sortE p ms ns = 0 then srt p ms ns else []

theorem Sort_any (p : Pl) (ms : List Wh.Whe) (v vn : Value) (ns : List ByteArray) (w : World) (hv : Wh.Sl w v ms) (ht : TSl w vn ns) :
    Calls Try.prog 19 #[.agg #[.int .i64 p.x, .int .i64 p.y, .int .i64 p.z, .int .i64 p.h, .int .i64 p.s], v, vn] w fun e w' => ∃ v', e = .returned (.tuple #[v', .int .i64 (sortE p ms ns)]) ∧ TSl w' v' (sortL p ms ns) ∧ FrB w.heap.size w' v' ∧ Below w.heap.size w w' := by
  obtain ⟨a1, c1, hvv, _, _⟩ := id hv
  obtain ⟨a2, c2, hvn, _, _⟩ := id ht
  by_cases hm : 100 < ms.length ∨ 100 < ns.length
  · have hE : sortE p ms ns = 2 := by unfold sortE; rw [if_pos hm]
    have hL : sortL p ms ns = [] := by unfold sortL; rw [hE]; rfl
    rw [hE, hL, hvv, hvn]
    refine (sort_many p a1 a2 _ _ c1 c2 w hm).mono ?_
    rintro e w' ⟨rfl, hb⟩
    exact ⟨_, rfl, tsl_nil _, (fun g hg => by cases hg), hb⟩
  · have hE : sortE p ms ns = chkPs (p :: (plcs ms).map toPl) := by unfold sortE; rw [if_neg hm]
    rcases chkPs_or (p :: (plcs ms).map toPl) with h0 | h3
    · have hL : sortL p ms ns = srt p ms ns := by unfold sortL; rw [hE, h0]; rfl
      rw [hE, hL, h0]
      exact sort_good p ms v vn ns w hv ht (by omega) (by omega) h0
    · have hL : sortL p ms ns = [] := by unfold sortL; rw [hE, h3]; rfl
      rw [hE, hL, h3]
      by_cases hz : ms.length = 0
      · have hms := List.length_eq_zero_iff.1 hz
        subst hms
        rw [hvv, hvn]
        refine (sort_bad0 p a1 a2 ns.length c1 c2 w (by omega) h3).mono ?_
        rintro e w' ⟨rfl, hb⟩
        exact ⟨_, rfl, tsl_nil _, (fun g hg => by cases hg), hb⟩
      · rw [hvn]
        refine (sort_bad1 p ms v a2 ns.length c2 w hv (by omega) (by omega) (by omega) h3).mono ?_
        rintro e w' ⟨rfl, hb⟩
        exact ⟨_, rfl, tsl_nil _, (fun g hg => by cases hg), hb⟩

theorem sortL_len (p : Pl) (ms : List Wh.Whe) (ns : List ByteArray) : (sortL p ms ns).length ≤ 1000 := by
  unfold sortL
  by_cases h : sortE p ms ns = 0
  · rw [if_pos h]
    unfold sortE at h
    by_cases hm : 100 < ms.length ∨ 100 < ns.length
    · rw [if_pos hm] at h; omega
    · have h2 : (srt p ms ns).length = ns.length := by
        unfold srt
        have := So.insAll_len (ltN (dV (Dd (farW p) ms ms.length))) ns (swoN _) ns.length (Nat.le_refl _)
        rwa [List.take_length] at this
      omega
  · rw [if_neg h]; simp
theorem sortE_zero {p : Pl} {ms : List Wh.Whe} {ns : List ByteArray} (h : sortE p ms ns = 0) : ms.length ≤ 100 ∧ ns.length ≤ 100 ∧ OkP p ∧ ∀ j, j < ms.length → OkP (toPl (plc (ms.getD j Wh.dm))) := by
  unfold sortE at h
  by_cases hm : 100 < ms.length ∨ 100 < ns.length
  · rw [if_pos hm] at h; omega
  · rw [if_neg hm] at h
    have hz := (chkPs_zero _).1 h
    refine ⟨by omega, by omega, (okP_iff p).1 (by have := hz 0 (by simp); simpa using this), fun j hj => ?_⟩
    have := hz (j + 1) (by simp [plcs_len]; exact hj)
    refine (okP_iff _).1 ?_
    simpa [List.getD, plcs, List.getElem?_eq_getElem hj] using this

set_option maxHeartbeats 3200000 in
set_option maxRecDepth 100000 in
theorem placeSorts_walk (p : Pl) (ms : List Wh.Whe) (v vn : Value) (ns : List ByteArray) (w : World) (hv : Wh.Sl w v ms) (ht : TSl w vn ns) (hms : ms.length ≤ maxLen) (hns : ns.length ≤ maxLen) :
    Calls Try.prog 8 #[.agg #[.int .i64 p.x, .int .i64 p.y, .int .i64 p.z, .int .i64 p.h, .int .i64 p.s], v, vn] w fun e w' => e = .returned (.bool true) ∧ Below w.heap.size w w' := by
  have HS : Hid (∀ W, Below w.heap.size w W → Calls Try.prog 19 #[.agg #[.int .i64 p.x, .int .i64 p.y, .int .i64 p.z, .int .i64 p.h, .int .i64 p.s], v, vn] W fun e w' => ∃ v', e = .returned (.tuple #[v', .int .i64 (sortE p ms ns)]) ∧ Hid (TSl w' v' (sortL p ms ns)) ∧ Below W.heap.size W w') := fun W h => (Sort_any p ms v vn ns W (hv.below h) (ht.below h)).mono fun e w' ⟨v', h1, h2, _, h3⟩ => ⟨v', h1, h2, h3⟩
  obtain ⟨a1, c1, hvv, _, _⟩ := id hv
  obtain ⟨a2, c2, hvn, _, _⟩ := id ht
  subst hvv hvn
  have HST : Hid (∀ v1 v2 W, TSl W v1 (sortL p ms ns) → TSl W v2 (sortL p ms ns) → Calls Try.prog 21 #[v1, v2] W fun e w' => e = .returned (.bool true) ∧ Below W.heap.size W w') := fun v1 v2 W h1 h2 => sameT_any _ v1 v2 W h1 h2 (sortL_len p ms ns)
  have HOF : Hid (sortE p ms ns = 0 → ∀ W, Below w.heap.size w W → Calls Try.prog 20 #[.agg #[.int .i64 p.x, .int .i64 p.y, .int .i64 p.z, .int .i64 p.h, .int .i64 p.s], .slice a1 ms.length c1, .slice a2 ns.length c2] W fun e w' => ∃ v', e = .returned v' ∧ Hid (TSl w' v' (sortL p ms ns)) ∧ Below W.heap.size W w') := fun h0 W h => by
    obtain ⟨q1, q2, q3, q4⟩ := sortE_zero h0
    refine (sortOf_any p ms _ _ ns W (hv.below h) (ht.below h) q1 q2 q3 q4).mono ?_
    rintro e w' ⟨v', rfl, h1, h2⟩
    refine ⟨v', rfl, ?_, h2⟩
    show TSl _ _ _
    unfold sortL
    rw [h0]
    exact h1
  have HN0 : Hid (sortE p ms ns ≠ 0 → ∀ W, TSl W (.slice none 0 0) (sortL p ms ns)) := fun h0 W => by
    unfold sortL
    rw [if_neg h0]
    exact tsl_nil W
  have HCE : Hid (sortE p ms ns = if 100 < ms.length ∨ 100 < ns.length then 2 else chkPs (p :: (plcs ms).map toPl)) := rfl
  obtain ⟨_, _, _, _, hrow⟩ := id hv
  have HROW : Hid (ms = [] ∨ ∃ b off, a1 = some ⟨b, off, none⟩ ∧ b < w.heap.size ∧ Wh.Row w b off ms) := by
    obtain ⟨a', c', e', _, hr⟩ := hv
    simp only [Value.slice.injEq, true_and] at e'
    obtain ⟨rfl, rfl⟩ := e'
    exact hr
  unfold maxLen at hms hns
  clear hv ht hrow
  generalize sortL p ms ns = SL at *
  generalize hse : sortE p ms ns = E at *
  clear hse
  go_enter Try.func8, Try.ntmps8
  go_wp2_with fail
  refine (HS.out _ ((Below.refl _ _).alloc (Nat.le_refl _) _)).mono ?_
  rintro e w1 ⟨v1, rfl, HT1, hb1⟩
  have hga : w1.heap[w.heap.size]? = some (.cells #[.int .i64 p.x, .int .i64 p.y, .int .i64 p.z, .int .i64 p.h, .int .i64 p.s] 29 (0, 0)) := (hb1.block _ (by simp)).trans (heap_alloc_new w _)
  have HG : Hid (w1.heap[w.heap.size]? = some (.cells #[.int .i64 p.x, .int .i64 p.y, .int .i64 p.z, .int .i64 p.h, .int .i64 p.s] 29 (0, 0))) := hga
  have f0 : w1.cell? ⟨w.heap.size, 0, none⟩ = some (.int .i64 p.x) := cellsAt hga 0
  have f1 : w1.cell? ⟨w.heap.size, 1, none⟩ = some (.int .i64 p.y) := cellsAt hga 1
  have f2 : w1.cell? ⟨w.heap.size, 2, none⟩ = some (.int .i64 p.z) := cellsAt hga 2
  have f3 : w1.cell? ⟨w.heap.size, 3, none⟩ = some (.int .i64 p.h) := cellsAt hga 3
  have f4 : w1.cell? ⟨w.heap.size, 4, none⟩ = some (.int .i64 p.s) := cellsAt hga 4
  have HB1 : Hid (Below w.heap.size w w1) := ((Below.refl _ _).alloc (Nat.le_refl _) _).trans (hb1.mono (by simp))
  have hlw : w.heap.size < w1.heap.size := (Array.getElem?_eq_some_iff.1 hga).1
  clear hb1 HS hga
  by_cases hmany : 100 < ms.length ∨ 100 < ns.length
  · have HE : Hid (E = 2) := (show E = 2 by rw [HCE.out, if_pos hmany])
    have HNN : Hid (∀ W, TSl W (.slice none 0 0) SL) := HN0.out (by rw [HE.out]; decide)
    have HE2 := HE.out
    subst HE2
    have hc : decide (100 < (ms.length : Int)) = true ∨ (decide (100 < (ms.length : Int)) = false ∧ decide (100 < (ns.length : Int)) = true) := by
      simp only [decide_eq_true_eq, decide_eq_false_iff_not]; omega
    clear HCE HN0 HOF hmany HROW HE
    generalize ms.length = n at *
    generalize ns.length = nl at *
    rcases hc with h1 | ⟨h1, h2⟩
    all_goals
      go_wp2_with fail
      go_loopw [9, 10] (fun wv i wr => wv = .int .i64 2 ∧ i = .int .i64 0 ∧ wr = w1) (fun _ _ _ => 0)
      case atStart => exact ⟨rfl, rfl, rfl⟩
      case round =>
        obtain ⟨rfl, rfl, hw⟩ := hrel
        subst hw
        go_wp2_with (first | (go_at_call 10; refine (placeBegun_any _).mono ?_; rintro e w2 ⟨rfl, hb2⟩) | (go_at_call 21; refine (HST.out _ _ _ (HT1.out.below hb2) (HNN.out _)).mono ?_; rintro e w3 ⟨rfl, hb3⟩))
        all_goals
          go_ret
          exact ⟨rfl, (HB1.out.trans (hb2.mono HB1.out.size)).trans (hb3.mono (Nat.le_trans HB1.out.size hb2.size))⟩
  · have HE : Hid (E = chkPs (p :: (plcs ms).map toPl)) := (show E = _ by rw [HCE.out, if_neg hmany])
    have h1 : decide (100 < (ms.length : Int)) = false := by simp; omega
    have h2 : decide (100 < (ns.length : Int)) = false := by simp; omega
    have hn100 : ms.length ≤ 100 := by omega
    clear HCE hmany
    go_wp2_with (go_at_call 16; refine (checkPlace_any p _).mono ?_; rintro e w2 ⟨rfl, rfl⟩)
    have HB2 : Hid (Below w1.heap.size w1 (w1.alloc (.cells #[.int .i64 p.x, .int .i64 p.y, .int .i64 p.z, .int .i64 p.h, .int .i64 p.s] 29))) := (Below.refl _ _).alloc (Nat.le_refl _) _
    have HC0 : Hid (chkPs (p :: ((plcs ms).map toPl).take 0) = chkP p) := (show chkPs [p] = chkP p by unfold chkPs chkPs; rcases chkP_or p with h | h <;> simp [h])
    have HCS : Hid (∀ k, k < ms.length → chkPs (p :: ((plcs ms).map toPl).take k) = 0 → chkPs (p :: ((plcs ms).map toPl).take (k + 1)) = chkP (toPl (plc (ms.getD k Wh.dm)))) := fun k hk h => chkPs_step p ms k hk h
    have HCB : Hid (∀ k, chkPs (p :: ((plcs ms).map toPl).take k) ≠ 0 → E = 3 ∧ chkPs (p :: ((plcs ms).map toPl).take k) = 3) := fun k h => by
      rw [HE.out]; exact chkPs_early p ms k h
    have HCE : Hid (∀ k, k = ms.length → chkPs (p :: ((plcs ms).map toPl).take k) = E) := fun k h => by
      rw [HE.out, List.take_of_length_le (by simp [plcs_len]; omega)]
    generalize hcf : (fun k => chkPs (p :: ((plcs ms).map toPl).take k)) = cf at *
    have hcf2 : ∀ k, chkPs (p :: ((plcs ms).map toPl).take k) = cf k := fun k => by rw [← hcf]
    simp only [hcf2] at HC0 HCS HCB HCE
    clear hcf hcf2 HE
    generalize hna : ms.length = n at *
    have HNA : Hid (ms.length = n) := hna
    clear hna
    rw [← HC0.out]
    go_loopw [9, 10] (fun wv i wr => ∃ k : Nat, k ≤ n ∧ wv = .int .i64 (cf k) ∧ i = .int .i64 k ∧ Hid (Below w1.heap.size w1 wr)) (fun _ i _ => n - (intOf i).toNat)
    case atStart => exact ⟨0, Nat.zero_le _, rfl, rfl, HB2⟩
    case round =>
      obtain ⟨k, hk, rfl, rfl, HBR⟩ := hrel
      by_cases hz : cf k = 0 ∧ k < n
      · obtain ⟨hz, hlt⟩ := hz
        obtain ⟨b, off, hp1, hl1, hr⟩ : ∃ b off, a1 = some ⟨b, off, none⟩ ∧ b < w.heap.size ∧ Wh.Row w b off ms := by
          rcases HROW.out with h | h
          · have := HNA.out; rw [h] at this; simp at this; omega
          · exact h
        subst hp1
        obtain ⟨_, r1, r2, r3, r4, r5⟩ := hr k (by rw [HNA.out]; exact hlt)
        have HST2 := HCS.out k hlt hz
        have HW : Hid (Below w.heap.size w wr) := HB1.out.trans (HBR.out.mono HB1.out.size)
        have g1 := (HW.out.cell (p := ⟨b, off + k * 6 + 1, none⟩) hl1).trans r1
        have g2 := (HW.out.cell (p := ⟨b, off + k * 6 + 2, none⟩) hl1).trans r2
        have g3 := (HW.out.cell (p := ⟨b, off + k * 6 + 3, none⟩) hl1).trans r3
        have g4 := (HW.out.cell (p := ⟨b, off + k * 6 + 4, none⟩) hl1).trans r4
        have g5 := (HW.out.cell (p := ⟨b, off + k * 6 + 5, none⟩) hl1).trans r5
        clear hr r1 r2 r3 r4 r5
        have hq : toPl (plc (ms.getD k Wh.dm)) = ⟨(ms.getD k Wh.dm).x, (ms.getD k Wh.dm).y, (ms.getD k Wh.dm).z, (ms.getD k Wh.dm).h, (ms.getD k Wh.dm).s⟩ := rfl
        rw [hq] at HST2
        have HS3 : Hid (cf (k + 1) = chkP ⟨(ms.getD k Wh.dm).x, (ms.getD k Wh.dm).y, (ms.getD k Wh.dm).z, (ms.getD k Wh.dm).h, (ms.getD k Wh.dm).s⟩) := HST2
        clear HST2 hq
        generalize ms.getD k Wh.dm = q at *
        rw [hz]
        go_wp2_with (go_at_call 16; refine (checkPlace_any ⟨q.x, q.y, q.z, q.h, q.s⟩ _).mono ?_; rintro e w2 ⟨rfl, rfl⟩)
        rw [← HS3.out]
        exact ⟨⟨k + 1, by omega, rfl, by go_num, HBR.out.alloc HBR.out.size _⟩, by simp [intOf]; omega⟩
      · have HW : Hid (Below w.heap.size w wr) := HB1.out.trans (HBR.out.mono HB1.out.size)
        have HTR : Hid (TSl wr v1 SL) := HT1.out.below HBR.out
        by_cases h0 : cf k = 0
        · have hkn : k = n := by omega
          have hE0 : E = 0 := by rw [← HCE.out k hkn]; exact h0
          have HO : Hid (∀ W, Below w.heap.size w W → Calls Try.prog 20 #[.agg #[.int .i64 p.x, .int .i64 p.y, .int .i64 p.z, .int .i64 p.h, .int .i64 p.s], .slice a1 n c1, .slice a2 ns.length c2] W fun e w' => ∃ v', e = .returned v' ∧ Hid (TSl w' v' SL) ∧ Below W.heap.size W w') := HOF.out hE0
          have hgr : wr.heap[w.heap.size]? = some (.cells #[.int .i64 p.x, .int .i64 p.y, .int .i64 p.z, .int .i64 p.h, .int .i64 p.s] 29 (0, 0)) := (HBR.out.block _ hlw).trans HG.out
          have e0 : wr.cell? ⟨w.heap.size, 0, none⟩ = some (.int .i64 p.x) := cellsAt hgr 0
          have e1 : wr.cell? ⟨w.heap.size, 1, none⟩ = some (.int .i64 p.y) := cellsAt hgr 1
          have e2 : wr.cell? ⟨w.heap.size, 2, none⟩ = some (.int .i64 p.z) := cellsAt hgr 2
          have e3 : wr.cell? ⟨w.heap.size, 3, none⟩ = some (.int .i64 p.h) := cellsAt hgr 3
          have e4 : wr.cell? ⟨w.heap.size, 4, none⟩ = some (.int .i64 p.s) := cellsAt hgr 4
          rw [h0]
          clear hgr hz HOF HN0 HCB HCE HCS HC0 h0
          subst hkn hE0
          go_wp2_with (first | (go_at_call 20; refine (HO.out _ HW.out).mono ?_; rintro e w2 ⟨v2, rfl, HT2, hb2⟩) | (go_at_call 10; refine (placeBegun_any _).mono ?_; rintro e w3 ⟨rfl, hb3⟩) | (go_at_call 21; refine (HST.out _ _ _ ((HTR.out.below hb2).below hb3) (HT2.out.below hb3)).mono ?_; rintro e w4 ⟨rfl, hb4⟩))
          go_ret
          exact ⟨rfl, ((HW.out.trans (hb2.mono HW.out.size)).trans (hb3.mono (Nat.le_trans HW.out.size hb2.size))).trans (hb4.mono (Nat.le_trans (Nat.le_trans HW.out.size hb2.size) hb3.size))⟩
        · obtain ⟨hE3, hc3⟩ := HCB.out k h0
          have HNN : Hid (∀ W, TSl W (.slice none 0 0) SL) := HN0.out (by rw [hE3]; decide)
          rw [hc3]
          clear hz HOF HN0 HCB HCE HCS HC0 h0 hc3
          subst hE3
          go_wp2_with (first | (go_at_call 10; refine (placeBegun_any _).mono ?_; rintro e w3 ⟨rfl, hb3⟩) | (go_at_call 21; refine (HST.out _ _ _ (HTR.out.below hb3) (HNN.out _)).mono ?_; rintro e w4 ⟨rfl, hb4⟩))
          all_goals
            go_ret
            exact ⟨rfl, (HW.out.trans (hb3.mono HW.out.size)).trans (hb4.mono (Nat.le_trans HW.out.size hb3.size))⟩

end Go.Proofs.Ytmjdeacnapoijaa
