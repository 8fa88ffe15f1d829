/- Parse. -/
import Derived.Test.YtadllmoepoehnaaDoorQC
namespace Go.Proofs.YtadllmoepoehnaaDoor
open Go.RowKit

def lbs (s : ByteArray) : List ByteArray := (spl s.data.toList).map mk
def prQ (s : ByteArray) : Qu := gss (lbs s).dropLast
def lst (s : ByteArray) : ByteArray := (lbs s).getD ((lbs s).length - 1) ByteArray.empty
def prsE (s : ByteArray) : Int := if chkN s = 0 then (if lst s = bMesh then (if prE (prQ s) = 0 ∧ prS (prQ s) = s then 0 else 1) else 8) else chkN s
def prsQ (s : ByteArray) : Qu := if prsE s = 0 then prQ s else qE

theorem chkN_zero {s : ByteArray} (h : chkN s = 0) : s.size ≤ 120 ∧ (spl s.data.toList).length ≤ 8 ∧ ∀ x ∈ spl s.data.toList, x.length ≤ 30 := by
  unfold chkN at h
  by_cases h0 : s.size = 0
  · have := isempty h0
    subst this
    exact ⟨by omega, by decide, by decide⟩
  · rw [if_neg h0] at h
    by_cases h1 : (spl s.data.toList).all labL = false
    · rw [if_pos h1] at h; omega
    · rw [if_neg h1] at h
      by_cases h2 : 8 < (spl s.data.toList).length ∨ 120 < s.size
      · rw [if_pos h2] at h; omega
      · refine ⟨by omega, by omega, fun x hx => ?_⟩
        have h3 : (spl s.data.toList).all labL = true := by simpa using h1
        exact (labL_size (List.all_eq_true.1 h3 x hx)).2
theorem lbs_len (s : ByteArray) : (lbs s).length = (spl s.data.toList).length := by unfold lbs; rw [List.length_map]
theorem lbs_pos (s : ByteArray) : 0 < (lbs s).length := by rw [lbs_len]; exact List.length_pos_iff.2 (spl_ne _)
theorem lbs_small {s : ByteArray} (h : chkN s = 0) : ∀ x ∈ lbs s, x.size ≤ 30 := fun x hx => by
  obtain ⟨y, hy, rfl⟩ := List.mem_map.1 hx
  rw [mk_size]
  exact (chkN_zero h).2.2 y hy
theorem sub_small {L : List ByteArray} (hn : L.length ≤ 8) (h : ∀ x ∈ L, x.size ≤ 30) {a b : Nat} : (jn (((L.drop a).take b).map bytes)).length ≤ 248 := by
  refine Nat.le_trans (jn_le _ fun x hx => ?_) ?_
  · obtain ⟨y, hy, rfl⟩ := List.mem_map.1 hx
    have := h y (List.mem_of_mem_drop (List.mem_of_mem_take hy))
    simpa [bytes] using this
  · rw [List.length_map, List.length_take, List.length_drop]; omega
theorem getD_small {L : List ByteArray} (h : ∀ x ∈ L, x.size ≤ 30) (j : Nat) : (L.getD j ByteArray.empty).size ≤ 30 := by
  by_cases hj : j < L.length
  · rw [show L.getD j ByteArray.empty = L[j] by simp [List.getD, List.getElem?_eq_getElem hj]]
    exact h _ (List.getElem_mem hj)
  · rw [show L.getD j ByteArray.empty = ByteArray.empty by simp [List.getD, List.getElem?_eq_none (by omega : L.length ≤ j)]]; decide
theorem jB_small {L : List ByteArray} (hn : L.length ≤ 8) (h : ∀ x ∈ L, x.size ≤ 30) (a b : Nat) : (jB ((L.drop a).take b)).size ≤ 248 := by
  unfold jB
  rw [mk_size]
  exact sub_small hn h
theorem gss_ok {L : List ByteArray} (hn : L.length ≤ 8) (h : ∀ x ∈ L, x.size ≤ 30) : (gss L).ok := by
  have hd : ∀ a, (jB (L.drop a)).size ≤ 248 := fun a => by
    have := jB_small hn h a L.length
    rwa [List.take_of_length_le (by rw [List.length_drop]; omega)] at this
  have ht : ∀ a, (jB (L.take a)).size ≤ 248 := fun a => by
    have := jB_small hn h 0 a
    rwa [List.drop_zero] at this
  have hg := getD_small h
  have e0 : (ByteArray.mk #[]).size = 0 := rfl
  unfold gss
  split
  · exact ⟨by decide, by decide, by decide, by decide⟩
  · have h1 := hd ((wAt L).toNat + 1)
    have h2 := ht ((wAt L).toNat - 1)
    have h3 := hg ((wAt L).toNat - 1)
    split
    · refine ⟨?_, ?_, ?_, ?_⟩ <;> unfold maxLen <;> simp only [e0] <;> omega
    · refine ⟨?_, ?_, ?_, ?_⟩ <;> unfold maxLen <;> simp only [e0] <;> omega

set_option maxHeartbeats 3200000 in
set_option maxRecDepth 100000 in
theorem parse_any (s : ByteArray) (w : World) (hm : ML w) (hs : s.size ≤ maxLen) :
    Calls Tryd.prog 12 #[.string s] w fun e w' => e = .returned (.tuple #[.agg #[.string (prsQ s).service, .string (prsQ s).tag, .string (prsQ s).node, .string (prsQ s).centre], .int .i64 (prsE s)]) ∧ Below w.heap.size w w' := by
  have HDC : Hid (∀ W, Calls Tryd.prog 15 #[.string s] W fun e w' => e = .returned (.int .i64 (chkN s)) ∧ Below W.heap.size W w') := fun W => dnsCheck_any s W hs
  by_cases h0 : chkN s = 0
  · obtain ⟨b1, b2, _⟩ := chkN_zero h0
    have HSP : Hid (∀ W, Below w.heap.size w W → Calls Tryd.prog 20 #[.string s, .string ⟨#[46]⟩] W fun e w' => e = .returned (.slice (some ⟨W.heap.size, 0, none⟩) (lbs s).length (lbs s).length) ∧ w' = W.alloc (.cells ((lbs s).map Value.string).toArray 9)) := fun W hW => by
      have h := split_any s W (hm.below hW) (by omega)
      rw [← lbs_len] at h
      exact h
    have hlen : (lbs s).length ≤ 8 := by rw [lbs_len]; exact b2
    have hsmall := lbs_small h0
    have hpos := lbs_pos s
    have hdl : (lbs s).dropLast.length = (lbs s).length - 1 := List.length_dropLast
    have hdm : ∀ x ∈ (lbs s).dropLast, x.size ≤ 30 := fun x hx => hsmall x ((List.dropLast_sublist _).subset hx)
    have HGU : Hid (∀ (g : Nat) (W : World), W.heap[g]? = some (.cells ((lbs s).map Value.string).toArray 9 (0, 0)) → Calls Tryd.prog 21 #[.slice (some ⟨g, 0, none⟩) ((lbs s).length - 1) (lbs s).length] W fun e w' => e = .returned (.agg #[.string (prQ s).service, .string (prQ s).tag, .string (prQ s).node, .string (prQ s).centre]) ∧ Below W.heap.size W w') := fun g W hg => by
      have h := guess_any (lbs s).dropLast g (lbs s).length W (fun j hj => by
        rw [Nat.zero_add, cellsAt hg]
        have hj2 : j < (lbs s).length := by omega
        simp [List.getD, hj2, show j < (lbs s).length - 1 by omega]) (Array.getElem?_eq_some_iff.1 hg).1 (by omega) (by omega) (fun L' ⟨a, b, e⟩ => by
        rw [e]
        exact Nat.le_trans (sub_small (by omega) hdm) (by omega))
      rw [hdl] at h
      exact h
    have HPR : Hid (∀ W, Calls Tryd.prog 6 #[.agg #[.string (prQ s).service, .string (prQ s).tag, .string (prQ s).node, .string (prQ s).centre]] W fun e w' => e = .returned (.tuple #[.string (prS (prQ s)), .int .i64 (prE (prQ s))]) ∧ Below W.heap.size W w') := fun W => print_any (prQ s) W (gss_ok (by omega) hdm)
    have HE : Hid (prsE s = if lst s = bMesh then (if prE (prQ s) = 0 ∧ prS (prQ s) = s then 0 else 1) else 8) := (show prsE s = _ by unfold prsE; rw [if_pos h0])
    have HQ : Hid (prsQ s = if prsE s = 0 then prQ s else qE) := rfl
    have HLA : Hid (∀ (g : Nat) (W : World), W.heap[g]? = some (.cells ((lbs s).map Value.string).toArray 9 (0, 0)) → W.cell? ⟨g, (lbs s).length - 1, none⟩ = some (.string (lst s))) := fun g W hg => by
      rw [cellsAt hg]
      have hj2 : (lbs s).length - 1 < (lbs s).length := by omega
      simp [lst, List.getD, hj2]
    rw [h0] at HDC
    clear hsmall hdl hdm b1 b2 hm h0
    generalize prsE s = E at *
    generalize prsQ s = Q at *
    generalize prE (prQ s) = pe at *
    generalize prS (prQ s) = ps at *
    generalize prQ s = q at *
    generalize lst s = la at *
    generalize hLL : (lbs s).map Value.string = LV at *
    clear hLL
    generalize (lbs s).length = n at *
    obtain ⟨qs, qt, qn, qc⟩ := q
    simp only at HGU HPR HQ
    go_enter Tryd.func12, Tryd.ntmps12
    go_wp2_with fail
    refine (HDC.out _).mono ?_
    rintro e w1 ⟨rfl, hb1⟩
    obtain ⟨f0, f1, f2, f3, HB1, hl1⟩ := qbox hb1
    obtain ⟨_, hfz⟩ := qboxf hb1
    have z0 := hfz 0
    have z1 := hfz 1
    have z2 := hfz 2
    have z3 := hfz 3
    clear hb1 hfz
    go_wp2_with fail
    refine (HSP.out _ HB1.out).mono ?_
    rintro e w2 ⟨rfl, hw2⟩
    have HB12 : Hid (Below w1.heap.size w1 w2) := (show Below _ _ _ by rw [hw2]; exact (Below.refl _ _).alloc (Nat.le_refl _) _)
    have hgl : w2.heap[w1.heap.size]? = some (.cells LV.toArray 9 (0, 0)) := by rw [hw2]; exact heap_alloc_new w1 _
    have HGL : Hid (w2.heap[w1.heap.size]? = some (.cells LV.toArray 9 (0, 0))) := hgl
    have cl := HLA.out _ _ hgl
    have hl2 : w.heap.size < w2.heap.size := Nat.lt_of_lt_of_le hl1 HB12.out.size
    have HB2 : Hid (Below w.heap.size w w2) := HB1.out.trans (HB12.out.mono (Nat.le_of_lt hl1))
    have g0 := (HB12.out.cell (p := ⟨w.heap.size, 0, none⟩) hl1).trans f0
    have g1 := (HB12.out.cell (p := ⟨w.heap.size, 1, none⟩) hl1).trans f1
    have g2 := (HB12.out.cell (p := ⟨w.heap.size, 2, none⟩) hl1).trans f2
    have g3 := (HB12.out.cell (p := ⟨w.heap.size, 3, none⟩) hl1).trans f3
    have y0 := (HB12.out.frozen (p := ⟨w.heap.size, 0, none⟩) hl1).trans z0
    have y1 := (HB12.out.frozen (p := ⟨w.heap.size, 1, none⟩) hl1).trans z1
    have y2 := (HB12.out.frozen (p := ⟨w.heap.size, 2, none⟩) hl1).trans z2
    have y3 := (HB12.out.frozen (p := ⟨w.heap.size, 3, none⟩) hl1).trans z3
    have hwm : IntKind.i64.wrap ((n : Int) - 1) = ((n - 1 : Nat) : Int) := by rw [IntKind.wrap_i64]; omega
    have him : ((n - 1 : Nat) : Int) < (n : Int) := by omega
    have him0 : (0 : Int) ≤ ((n - 1 : Nat) : Int) := by omega
    have hic : ((n - 1 : Nat) : Int) ≤ (n : Int) := by omega
    clear f0 f1 f2 f3 z0 z1 z2 z3 hgl hw2 HSP HLA
    generalize hmm : n - 1 = m at *
    clear hmm
    by_cases hla : la = bMesh
    · have HE2 : Hid (E = if pe = 0 ∧ ps = s then 0 else 1) := (show E = _ by rw [HE.out, if_pos hla])
      subst hla
      clear HE
      go_wp2_with fail
      refine (HGU.out _ _ HGL.out).mono ?_
      rintro e w3 ⟨rfl, hb3⟩
      have r0 := (hb3.cell (p := ⟨w.heap.size, 0, none⟩) hl2).trans g0
      have r1 := (hb3.cell (p := ⟨w.heap.size, 1, none⟩) hl2).trans g1
      have r2 := (hb3.cell (p := ⟨w.heap.size, 2, none⟩) hl2).trans g2
      have r3 := (hb3.cell (p := ⟨w.heap.size, 3, none⟩) hl2).trans g3
      have x0 := (hb3.frozen (p := ⟨w.heap.size, 0, none⟩) hl2).trans y0
      have x1 := (hb3.frozen (p := ⟨w.heap.size, 1, none⟩) hl2).trans y1
      have x2 := (hb3.frozen (p := ⟨w.heap.size, 2, none⟩) hl2).trans y2
      have x3 := (hb3.frozen (p := ⟨w.heap.size, 3, none⟩) hl2).trans y3
      have hl3 : w.heap.size < w3.heap.size := Nat.lt_of_lt_of_le hl2 hb3.size
      have HB3 : Hid (Below w.heap.size w w3) := HB2.out.trans (hb3.mono (Nat.le_of_lt hl2))
      clear g0 g1 g2 g3 y0 y1 y2 y3 hb3 cl HGL HGU
      go_wp2_with fail
      refine (HPR.out _).mono ?_
      rintro e w4 ⟨rfl, hb4⟩
      obtain ⟨q0, q1, q2, q3, HB34, hl34⟩ := qbox hb4
      have g0 := (HB34.out.cell (p := ⟨w.heap.size, 0, none⟩) hl3).trans r0
      have g1 := (HB34.out.cell (p := ⟨w.heap.size, 1, none⟩) hl3).trans r1
      have g2 := (HB34.out.cell (p := ⟨w.heap.size, 2, none⟩) hl3).trans r2
      have g3 := (HB34.out.cell (p := ⟨w.heap.size, 3, none⟩) hl3).trans r3
      have y0 := (HB34.out.frozen (p := ⟨w.heap.size, 0, none⟩) hl3).trans x0
      have y1 := (HB34.out.frozen (p := ⟨w.heap.size, 1, none⟩) hl3).trans x1
      have y2 := (HB34.out.frozen (p := ⟨w.heap.size, 2, none⟩) hl3).trans x2
      have y3 := (HB34.out.frozen (p := ⟨w.heap.size, 3, none⟩) hl3).trans x3
      have HB4 : Hid (Below w.heap.size w w4) := HB3.out.trans (HB34.out.mono (Nat.le_of_lt hl3))
      clear r0 r1 r2 r3 x0 x1 x2 x3 hb4 HPR
      by_cases hpe : pe = 0
      · subst hpe
        by_cases hps : ps = s
        · subst hps
          have HE3 : Hid (E = 0) := (show E = 0 by rw [HE2.out]; simp)
          have HQ2 : Hid (Q = ⟨qs, qt, qn, qc⟩) := (show Q = _ by rw [HQ.out, HE3.out]; rfl)
          clear HE2 HQ
          go_wp2_with fail
          exact bodyPost_ret (v := .tuple #[.agg #[.string qs, .string qt, .string qn, .string qc], .int .i64 0]) (by simp [results, Tryd.results12, go_sem, g0, g1, g2, g3]) rfl ⟨by rw [HE3.out, HQ2.out]; try rfl, (((HB4.out.setCell (p := ⟨w.heap.size, 0, none⟩) (Nat.le_refl _) _).setCell (p := ⟨w.heap.size, 1, none⟩) (Nat.le_refl _) _).setCell (p := ⟨w.heap.size, 2, none⟩) (Nat.le_refl _) _).setCell (p := ⟨w.heap.size, 3, none⟩) (Nat.le_refl _) _⟩
        · have HE3 : Hid (E = 1) := (show E = 1 by rw [HE2.out, if_neg (fun h => hps h.2)])
          have HQ2 : Hid (Q = qE) := (show Q = qE by rw [HQ.out, HE3.out]; rfl)
          obtain ⟨k1, k2⟩ := beq_name hps
          clear HE2 HQ hps
          go_wp2_with fail
          exact bodyPost_ret (v := .tuple #[.agg #[.string ⟨#[]⟩, .string ⟨#[]⟩, .string ⟨#[]⟩, .string ⟨#[]⟩], .int .i64 1]) (by simp [results, Tryd.results12, go_sem, g0, g1, g2, g3]) rfl ⟨by rw [HE3.out, HQ2.out]; try rfl, (((HB4.out.setCell (p := ⟨w.heap.size, 0, none⟩) (Nat.le_refl _) _).setCell (p := ⟨w.heap.size, 1, none⟩) (Nat.le_refl _) _).setCell (p := ⟨w.heap.size, 2, none⟩) (Nat.le_refl _) _).setCell (p := ⟨w.heap.size, 3, none⟩) (Nat.le_refl _) _⟩
      · have HE3 : Hid (E = 1) := (show E = 1 by rw [HE2.out, if_neg (fun h => hpe h.1)])
        have HQ2 : Hid (Q = qE) := (show Q = qE by rw [HQ.out, HE3.out]; rfl)
        have k1 : (pe == 0) = false := by simpa using hpe
        clear HE2 HQ
        go_wp2_with fail
        exact bodyPost_ret (v := .tuple #[.agg #[.string ⟨#[]⟩, .string ⟨#[]⟩, .string ⟨#[]⟩, .string ⟨#[]⟩], .int .i64 1]) (by simp [results, Tryd.results12, go_sem, g0, g1, g2, g3]) rfl ⟨by rw [HE3.out, HQ2.out]; try rfl, (((HB4.out.setCell (p := ⟨w.heap.size, 0, none⟩) (Nat.le_refl _) _).setCell (p := ⟨w.heap.size, 1, none⟩) (Nat.le_refl _) _).setCell (p := ⟨w.heap.size, 2, none⟩) (Nat.le_refl _) _).setCell (p := ⟨w.heap.size, 3, none⟩) (Nat.le_refl _) _⟩
    · have HE2 : Hid (E = 8) := (show E = _ by rw [HE.out, if_neg hla])
      have HQ2 : Hid (Q = qE) := (show Q = qE by rw [HQ.out, HE2.out]; rfl)
      obtain ⟨m1, m2⟩ := ne_mesh hla
      clear HE HQ hla
      go_wp2_with fail
      exact bodyPost_ret (v := .tuple #[.agg #[.string ⟨#[]⟩, .string ⟨#[]⟩, .string ⟨#[]⟩, .string ⟨#[]⟩], .int .i64 8]) (by simp [results, Tryd.results12, go_sem, g0, g1, g2, g3]) rfl ⟨by rw [HE2.out, HQ2.out]; rfl, (((HB2.out.setCell (p := ⟨w.heap.size, 0, none⟩) (Nat.le_refl _) _).setCell (p := ⟨w.heap.size, 1, none⟩) (Nat.le_refl _) _).setCell (p := ⟨w.heap.size, 2, none⟩) (Nat.le_refl _) _).setCell (p := ⟨w.heap.size, 3, none⟩) (Nat.le_refl _) _⟩
  · have HE : Hid (prsE s = chkN s) := (show prsE s = _ by unfold prsE; rw [if_neg h0])
    have HQ : Hid (prsQ s = qE) := (show prsQ s = qE by unfold prsQ; rw [if_neg (by rw [HE.out]; exact h0)])
    rw [HE.out, HQ.out]
    have h1 : (chkN s == 0) = false := by simpa using h0
    clear HE HQ
    generalize chkN s = r at *
    go_enter Tryd.func12, Tryd.ntmps12
    go_wp2_with fail
    refine (HDC.out _).mono ?_
    rintro e w1 ⟨rfl, hb1⟩
    obtain ⟨f0, f1, f2, f3, HB1, hl1⟩ := qbox hb1
    obtain ⟨_, hfz⟩ := qboxf hb1
    have z0 := hfz 0
    have z1 := hfz 1
    have z2 := hfz 2
    have z3 := hfz 3
    clear hb1 hfz
    go_wp2_with fail
    exact bodyPost_ret (v := .tuple #[.agg #[.string ⟨#[]⟩, .string ⟨#[]⟩, .string ⟨#[]⟩, .string ⟨#[]⟩], .int .i64 r]) (by simp [results, Tryd.results12, go_sem, f0, f1, f2, f3]) rfl ⟨rfl, (((HB1.out.setCell (p := ⟨w.heap.size, 0, none⟩) (Nat.le_refl _) _).setCell (p := ⟨w.heap.size, 1, none⟩) (Nat.le_refl _) _).setCell (p := ⟨w.heap.size, 2, none⟩) (Nat.le_refl _) _).setCell (p := ⟨w.heap.size, 3, none⟩) (Nat.le_refl _) _⟩

end Go.Proofs.YtadllmoepoehnaaDoor
