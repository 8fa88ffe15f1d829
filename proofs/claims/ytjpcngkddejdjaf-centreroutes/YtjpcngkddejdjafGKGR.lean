/- The law CentreRoutes, of gateways that are right. -/
import Derived.Test.YtjpcngkddejdjafGKG9
import Derived.Deep.RegionHeld3
import Derived.OwnWalk
import Derived.StillTactics
namespace Go.Proofs.Ytjpcngkddejdjaf
namespace Gw
open Go.RowKit

theorem own_slice {base : Nat} {w : World} {e : TypeId} {s : Nat} {v : Value} {n : Nat} {xs : List Value} (h : w.ownsRow base e s v n xs) : ∃ a c, v = .slice a n c := by
  rcases h.2 with ⟨h1, h2⟩ | ⟨g, c, cur, h1, _⟩
  · exact ⟨none, 0, by rw [h1, h2]⟩
  · exact ⟨_, _, h1⟩

set_option maxHeartbeats 6400000 in
set_option maxRecDepth 100000 in
theorem routes_good (ms : List Gwy) (v : Value) (here to : ByteArray) (w : World) (hv : Sl w v ms) (hs : here.size ≤ maxLen) (ht : to.size ≤ maxLen) (h0 : chk ms = 0) (hh : labB here = true) :
    Calls Try.prog 6 #[v, .string here, .string to] w fun e w' => e = .returned (.bool true) ∧ Below w.heap.size w w' := by
  obtain ⟨i0, hi0, hz0, hzs, hzb⟩ := info_parts Try.infoRt
  have HV : Hid (Sl w v ms) := hv
  have hlen := (chk_zero h0).1
  have HRI : Hid (Rise ms) := (chk_zero h0).2.1
  obtain ⟨p, f, hat⟩ := at_any ms (chk_zero h0).2.1 ⟨to, 0, 0⟩
  have HAT : Hid (At ms ⟨to, 0, 0⟩ p f) := hat
  have HT : Hid (∀ W, Sl W v ms → Calls Try.prog 24 #[v, .string here] W fun e w' => ∃ v', e = .returned (.tuple #[v', .int .i64 0]) ∧ Hid (Rt.Own W.heap.size w' v' (tableL ms here)) ∧ Below W.heap.size W w') := fun W h => table_good ms v here W h h0 hs hh
  have HX : Hid (∀ W, Sl W v ms → Calls Try.prog 25 #[v, .string here, .string to] W fun e w' => e = .returned (.tuple #[.int .i64 (nextA ms p f here to), .int .i64 (nextE f here to)]) ∧ Below W.heap.size W w') := fun W h => next_good ms v here to W h h0 hs ht p f hat
  have HC : Hid (∀ W, Sl W v ms → Calls Try.prog 17 #[v] W fun e w' => e = .returned (.int .i64 0) ∧ Below W.heap.size W w') := fun W h => by
    have h2 := refCheck_any ms v W h
    rw [h0] at h2
    exact h2
  have HG : Hid (∀ W, Sl W v ms → Calls Try.prog 27 #[v, .string to] W fun e w' => e = .returned (.int .i64 (if f = true then (p : Int) else -1)) ∧ w' = W) := fun W h => by
    refine (refAt_any ms v to W h (by omega)).mono ?_
    rintro e w' ⟨r, rfl, hI, rfl⟩
    have h2 := atI_at (t := ⟨to, 0, 0⟩) hI.out HAT.out HRI.out
    refine ⟨?_, rfl⟩
    cases f
    · rw [h2.2 rfl]; rfl
    · rw [h2.1 rfl]; rfl
  have hwhy := next_why (here := here) hat hh
  have hsA : Hid (∀ s : ByteArray, (s = here ∨ s = to) → s.size ≤ maxLen) := by rintro s (rfl | rfl) <;> assumption
  obtain ⟨pa, ca, hvv, _, ha⟩ := hv
  have HA : Hid (ms = [] ∨ ∃ b off, pa = some ⟨b, off, none⟩ ∧ b < w.heap.size ∧ Row w b off ms) := ha
  subst hvv
  clear h0 hat ha
  generalize nextA ms p f here to = nA at *
  generalize nextE f here to = nE at *
  generalize hN : ms.length = n at *
  have HN : Hid (ms.length = n) := hN
  clear hN
  go_enter Try.func6, Try.ntmps6
  go_wp2_with fail
  refine (HT.out _ HV.out).mono ?_
  rintro e w1 ⟨vt, rfl, HO1, hb1⟩
  have HB1 : Hid (Below w.heap.size w w1) := hb1
  clear hb1
  go_wp2_with fail
  refine (HX.out _ (HV.out.below HB1.out)).mono ?_
  rintro e w2 ⟨rfl, hb2⟩
  have HB2 : Hid (Below w.heap.size w w2) := HB1.out.trans (hb2.mono HB1.out.size)
  have HO2 : Hid (Rt.Own w.heap.size w2 vt (tableL ms here)) := HO1.out.below hb2
  clear hb2
  go_wp2_with fail
  refine (HC.out _ (HV.out.below HB2.out)).mono ?_
  rintro e w3 ⟨rfl, hb3⟩
  have HB3 : Hid (Below w.heap.size w w3) := HB2.out.trans (hb3.mono HB2.out.size)
  have HO3 : Hid (Rt.Own w.heap.size w3 vt (tableL ms here)) := HO2.out.below hb3
  have hz3 : w.heap.size ≤ w3.heap.size := HB3.out.size
  clear hb3
  go_wp2_with (go_at_call 26; refine (isLabel_any _ _ hs).mono ?_; rintro e w' ⟨rfl, hw⟩; have hw2 := hw.symm; clear hw; subst hw2; rw [hh])
  go_loopw [13, 14] (fun wv i wr => ∃ k : Nat, k ≤ n ∧ i = .int .i64 k ∧ Below w3.heap.size w3 wr ∧ Hid (Rt.Own w3.heap.size wr wv (tableL (ms.take k) here))) (fun _ i _ => n - (intOf i).toNat)
  case atStart => exact ⟨0, Nat.zero_le _, rfl, Below.refl _ _, Rt.own_nil _ _⟩
  case round =>
    obtain ⟨k, hk, rfl, hbl, HO⟩ := hrel
    have hsz := hbl.size
    by_cases hlt : k < n
    · obtain ⟨b1, o1, hp1, hl1, hr1⟩ : ∃ b off, pa = some ⟨b, off, none⟩ ∧ b < w.heap.size ∧ Row w b off ms := by
        rcases HA.out with h | h
        · have := HN.out; rw [h] at this; simp at this; omega
        · exact h
      subst hp1
      have hbw : Below w.heap.size w wr := HB3.out.trans (hbl.mono hz3)
      obtain ⟨c0, c1, _⟩ := (hr1.later hbw hl1) k (by rw [HN.out]; exact hlt)
      clear hr1
      have hkl : k < ms.length := by rw [HN.out]; exact hlt
      have HY : Hid (((ms.getD k dm).centre.toList == here.toList) = false → tableL (ms.take (k + 1)) here = tableL (ms.take k) here ++ [⟨(ms.getD k dm).centre, (ms.getD k dm).addr⟩]) := fun h => tableL_yes hkl h
      have HNO : Hid (((ms.getD k dm).centre.toList == here.toList) = true → tableL (ms.take (k + 1)) here = tableL (ms.take k) here) := fun h => tableL_no hkl h
      have hll2 : (tableL (ms.take k) here).length ≤ 6 := by have h1 := tableL_len (ms.take k) here; have h2 : (ms.take k).length ≤ k := List.length_take_le _ _; omega
      generalize (ms.getD k dm).addr = ad at *
      generalize (ms.getD k dm).centre = cn at *
      generalize hL2 : tableL (ms.take (k + 1)) here = L2 at *
      have HL2 : Hid (tableL (ms.take (k + 1)) here = L2) := hL2
      clear hL2
      generalize tableL (ms.take k) here = L at *
      rcases hq : (cn.toList == here.toList) with _ | _
      · have HST : Hid (L2 = L ++ [⟨cn, ad⟩]) := HY.out hq
        have hq2 : (cn.toList != here.toList) = true := by rw [bne, hq]; rfl
        clear HY HNO
        have av : u13.ownBlock ≠ some b1 := fun h => by have := (HO.out.lt b1 h).1; omega
        have hown : wr.ownsRow w3.heap.size 53 2 u13 L.length (Rt.fl L) := HO.out
        have lg : b1 < wr.heap.size := by omega
        have hk0' : (0 : Int) ≤ (k : Int) := Int.natCast_nonneg _
        have hk1' : (k : Int) < (n : Int) := by omega
        have h63 : L.length + 1 ≤ maxLen := by unfold maxLen; omega
        have hbt : (L.length + 1) * 24 ≤ 140737488355328 := by omega
        go_wp2_with fail
        go_region_held3 (fun w' => w'.cell? ⟨b1, o1 + k * 3, none⟩ = some (.string cn) ∧ w'.cell? ⟨b1, o1 + k * 3 + 1, none⟩ = some (.int .i64 ad))
          (first
            | go_keep
            | (go_split_ands
               refine ⟨?_, ?_⟩
               · (rw [hgrow.cell_far _ (by simp; omega) (Ne.symm av)]; assumption)
               · (rw [hgrow.cell_far _ (by simp; omega) (Ne.symm av)]; assumption)))
          ((refine step_append_lies _ (by rfl) _ _ _ (by rfl) w3.heap.size 53 i0 _ 2 24 Try.underlying44 hi0 hz0 hzs hzb rfl (by omega) u13 L.length (Rt.fl L) (by rfl) ((hown.alloc _).drew)
              ⟨wr.heap.size, 0, none⟩ 1 1 [.string cn, .int .i64 ad] (by rfl) (by rfl) (World.news_of_block (cs := #[.string cn, .int .i64 ad]) (t := 53) (fr := (0, 0)) (heap_alloc_new wr _)) (by simp [Value.oneCell'])
              (by omega) h63 hbt (by simp; omega) (wr.heap.size + 1) (by simp) ?_; intro gg cap w5 hown1 hgrow hat hlt))
        have HBX : Hid (Below w3.heap.size w3 w5) := (hbl.alloc hsz _).drew.grown hgrow (by simp; omega) (fun j hj => (HO.out.lt j hj).1)
        have HOX : Hid (Rt.Own w3.heap.size w5 (.slice (some ⟨gg, 0, none⟩) (L.length + 1) cap) (L ++ [⟨cn, ad⟩])) := Rt.own_snoc hown1
        clear hown1 hgrow hat hlt
        go_wp2_with fail
        exact ⟨⟨k + 1, by omega, by go_num, HBX.out, by rw [HL2.out, HST.out]; exact HOX.out⟩, by simp [intOf]; omega⟩
      · have HST : Hid (L2 = L) := HNO.out hq
        have hq2 : (cn.toList != here.toList) = false := by rw [bne, hq]; rfl
        clear HY HNO
        go_wp2_with fail
        exact ⟨⟨k + 1, by omega, by go_num, hbl, by rw [HL2.out, HST.out]; exact HO.out⟩, by simp [intOf]; omega⟩
    · have hkn : k = n := by omega
      subst hkn
      have HOW : Hid (Rt.Own w3.heap.size wr u13 (tableL ms here)) := by
        have h := HO.out
        rw [List.take_of_length_le (by rw [HN.out]; exact Nat.le_refl _)] at h
        exact h
      have HOT : Hid (Rt.Own w.heap.size wr vt (tableL ms here)) := HO3.out.below hbl
      have HBW : Hid (Below w.heap.size w wr) := HB3.out.trans (hbl.mono hz3)
      have hll : (tableL ms here).length ≤ 6 := by have h1 := tableL_len ms here; have h2 := HN.out; omega
      obtain ⟨au, cu, hvu⟩ := own_slice HOW.out
      obtain ⟨at0, ct, hvt⟩ := own_slice HOT.out
      subst hvu
      subst hvt
      clear HO hbl HO3 HO2 HO1 HB2 HB1
      generalize hTL : tableL ms here = TL at *
      clear hTL
      generalize hln : TL.length = ln at *
      have HLN : Hid (TL.length = ln) := hln
      clear hln
      rcases hwhy with ⟨l1, e1, e2⟩ | ⟨l1, he, e1, e2⟩ | ⟨l1, he, hf, e1, e2⟩ | ⟨l1, he, hf, e1, e2, hpl⟩
      · subst e1 e2
        go_wp2_with fail
        refine (HG.out _ (HV.out.below HBW.out)).mono ?_
        rintro e w' ⟨rfl, hw⟩
        have hw2 := hw.symm
        clear hw
        subst hw2
        generalize (if f = true then (p : Int) else -1) = ra at *
        go_wp2_with (go_at_call 26; refine (isLabel_any _ _ (hsA.out _ (by simp))).mono ?_; rintro e w' ⟨rfl, hw⟩; have hw2 := hw.symm; clear hw; subst hw2; first | rw [hh] | rw [l1])
        refine (begun_any _).mono ?_
        rintro e w6 ⟨rfl, hb6⟩
        have hb6s := hb6.size
        have HOW6 : Hid (Rt.Own w3.heap.size w6 (.slice au ln cu) TL) := HOW.out.below hb6
        have HOT6 : Hid (Rt.Own w.heap.size w6 (.slice at0 ln ct) TL) := HOT.out.below hb6
        have HB6 : Hid (Below w.heap.size w w6) := HBW.out.trans (hb6.mono HBW.out.size)
        clear hb6 HOW HOT HBW
        go_wp2_with fail
        go_loopw [17] (fun i wx => ∃ j : Nat, j ≤ ln ∧ i = .int .i64 j ∧ Hid (Below w6.heap.size w6 wx)) (fun i _ => ln - (intOf i).toNat)
        case atStart => exact ⟨0, Nat.zero_le _, rfl, Below.refl _ _⟩
        case round =>
          obtain ⟨j, hj, rfl, HW⟩ := hrel
          have HDN : Hid (∀ m, Below w6.heap.size w6 (wr.drewN m)) := fun m => HW.out.trans ((show Below wr.heap.size wr (wr.drewN m) from ⟨rfl, rfl, rfl, Nat.le_refl _, fun _ _ => rfl⟩).mono HW.out.size)
          by_cases hjl : j < ln
          · obtain ⟨ga, hga⟩ : ∃ ga, at0 = some ⟨ga, 0, none⟩ := by
              obtain ⟨g, c, h⟩ := Rt.own_form HOT6.out j (by rw [HLN.out]; exact hjl)
              simp only [Value.slice.injEq] at h
              exact ⟨g, h.1⟩
            obtain ⟨gb, hgb⟩ : ∃ gb, au = some ⟨gb, 0, none⟩ := by
              obtain ⟨g, c, h⟩ := Rt.own_form HOW6.out j (by rw [HLN.out]; exact hjl)
              simp only [Value.slice.injEq] at h
              exact ⟨g, h.1⟩
            subst hga hgb
            obtain ⟨x0, x1⟩ := Rt.own_cells (ms := TL) (by rw [HLN.out]; exact HOT6.out.below HW.out) j (by rw [HLN.out]; exact hjl)
            obtain ⟨y0, y1⟩ := Rt.own_cells (ms := TL) (by rw [HLN.out]; exact HOW6.out.below HW.out) j (by rw [HLN.out]; exact hjl)
            have hneq := neqR (TL.getD j Rt.dm) (TL.getD j Rt.dm)
            rw [(sameR_iff _ _).2 rfl] at hneq
            have hg5 : Try.prog.eqGuardType Try.prog.depth 53 = false := by kernel_rfl
            generalize TL.getD j Rt.dm = rt at *
            go_wp2_with fail
            go_quiet (fail)
            go_wp2_with fail
            exact ⟨⟨j + 1, by omega, by go_num, HDN.out _⟩, by simp [intOf]; omega⟩
          · go_wp2_with fail
            go_ret
            exact ⟨rfl, HB6.out.trans (HW.out.mono HB6.out.size)⟩
      · subst e1 e2
        subst he
        go_wp2_with fail
        refine (HG.out _ (HV.out.below HBW.out)).mono ?_
        rintro e w' ⟨rfl, hw⟩
        have hw2 := hw.symm
        clear hw
        subst hw2
        generalize (if f = true then (p : Int) else -1) = ra at *
        go_wp2_with (go_at_call 26; refine (isLabel_any _ _ (hsA.out _ (by simp))).mono ?_; rintro e w' ⟨rfl, hw⟩; have hw2 := hw.symm; clear hw; subst hw2; first | rw [hh] | rw [l1])
        refine (begun_any _).mono ?_
        rintro e w6 ⟨rfl, hb6⟩
        have hb6s := hb6.size
        have HOW6 : Hid (Rt.Own w3.heap.size w6 (.slice au ln cu) TL) := HOW.out.below hb6
        have HOT6 : Hid (Rt.Own w.heap.size w6 (.slice at0 ln ct) TL) := HOT.out.below hb6
        have HB6 : Hid (Below w.heap.size w w6) := HBW.out.trans (hb6.mono HBW.out.size)
        clear hb6 HOW HOT HBW
        go_wp2_with fail
        go_loopw [17] (fun i wx => ∃ j : Nat, j ≤ ln ∧ i = .int .i64 j ∧ Hid (Below w6.heap.size w6 wx)) (fun i _ => ln - (intOf i).toNat)
        case atStart => exact ⟨0, Nat.zero_le _, rfl, Below.refl _ _⟩
        case round =>
          obtain ⟨j, hj, rfl, HW⟩ := hrel
          have HDN : Hid (∀ m, Below w6.heap.size w6 (wr.drewN m)) := fun m => HW.out.trans ((show Below wr.heap.size wr (wr.drewN m) from ⟨rfl, rfl, rfl, Nat.le_refl _, fun _ _ => rfl⟩).mono HW.out.size)
          by_cases hjl : j < ln
          · obtain ⟨ga, hga⟩ : ∃ ga, at0 = some ⟨ga, 0, none⟩ := by
              obtain ⟨g, c, h⟩ := Rt.own_form HOT6.out j (by rw [HLN.out]; exact hjl)
              simp only [Value.slice.injEq] at h
              exact ⟨g, h.1⟩
            obtain ⟨gb, hgb⟩ : ∃ gb, au = some ⟨gb, 0, none⟩ := by
              obtain ⟨g, c, h⟩ := Rt.own_form HOW6.out j (by rw [HLN.out]; exact hjl)
              simp only [Value.slice.injEq] at h
              exact ⟨g, h.1⟩
            subst hga hgb
            obtain ⟨x0, x1⟩ := Rt.own_cells (ms := TL) (by rw [HLN.out]; exact HOT6.out.below HW.out) j (by rw [HLN.out]; exact hjl)
            obtain ⟨y0, y1⟩ := Rt.own_cells (ms := TL) (by rw [HLN.out]; exact HOW6.out.below HW.out) j (by rw [HLN.out]; exact hjl)
            have hneq := neqR (TL.getD j Rt.dm) (TL.getD j Rt.dm)
            rw [(sameR_iff _ _).2 rfl] at hneq
            have hg5 : Try.prog.eqGuardType Try.prog.depth 53 = false := by kernel_rfl
            generalize TL.getD j Rt.dm = rt at *
            go_wp2_with fail
            go_quiet (fail)
            go_wp2_with fail
            exact ⟨⟨j + 1, by omega, by go_num, HDN.out _⟩, by simp [intOf]; omega⟩
          · go_wp2_with fail
            go_ret
            exact ⟨rfl, HB6.out.trans (HW.out.mono HB6.out.size)⟩
      · subst e1 e2
        subst hf
        obtain ⟨g1, g2⟩ := beq_name he
        clear he
        go_wp2_with fail
        refine (HG.out _ (HV.out.below HBW.out)).mono ?_
        rintro e w' ⟨rfl, hw⟩
        have hw2 := hw.symm
        clear hw
        subst hw2
        rw [if_neg Bool.false_ne_true]
        go_wp2_with (go_at_call 26; refine (isLabel_any _ _ (hsA.out _ (by simp))).mono ?_; rintro e w' ⟨rfl, hw⟩; have hw2 := hw.symm; clear hw; subst hw2; first | rw [hh] | rw [l1])
        refine (begun_any _).mono ?_
        rintro e w6 ⟨rfl, hb6⟩
        have hb6s := hb6.size
        have HOW6 : Hid (Rt.Own w3.heap.size w6 (.slice au ln cu) TL) := HOW.out.below hb6
        have HOT6 : Hid (Rt.Own w.heap.size w6 (.slice at0 ln ct) TL) := HOT.out.below hb6
        have HB6 : Hid (Below w.heap.size w w6) := HBW.out.trans (hb6.mono HBW.out.size)
        clear hb6 HOW HOT HBW
        go_wp2_with fail
        go_loopw [17] (fun i wx => ∃ j : Nat, j ≤ ln ∧ i = .int .i64 j ∧ Hid (Below w6.heap.size w6 wx)) (fun i _ => ln - (intOf i).toNat)
        case atStart => exact ⟨0, Nat.zero_le _, rfl, Below.refl _ _⟩
        case round =>
          obtain ⟨j, hj, rfl, HW⟩ := hrel
          have HDN : Hid (∀ m, Below w6.heap.size w6 (wr.drewN m)) := fun m => HW.out.trans ((show Below wr.heap.size wr (wr.drewN m) from ⟨rfl, rfl, rfl, Nat.le_refl _, fun _ _ => rfl⟩).mono HW.out.size)
          by_cases hjl : j < ln
          · obtain ⟨ga, hga⟩ : ∃ ga, at0 = some ⟨ga, 0, none⟩ := by
              obtain ⟨g, c, h⟩ := Rt.own_form HOT6.out j (by rw [HLN.out]; exact hjl)
              simp only [Value.slice.injEq] at h
              exact ⟨g, h.1⟩
            obtain ⟨gb, hgb⟩ : ∃ gb, au = some ⟨gb, 0, none⟩ := by
              obtain ⟨g, c, h⟩ := Rt.own_form HOW6.out j (by rw [HLN.out]; exact hjl)
              simp only [Value.slice.injEq] at h
              exact ⟨g, h.1⟩
            subst hga hgb
            obtain ⟨x0, x1⟩ := Rt.own_cells (ms := TL) (by rw [HLN.out]; exact HOT6.out.below HW.out) j (by rw [HLN.out]; exact hjl)
            obtain ⟨y0, y1⟩ := Rt.own_cells (ms := TL) (by rw [HLN.out]; exact HOW6.out.below HW.out) j (by rw [HLN.out]; exact hjl)
            have hneq := neqR (TL.getD j Rt.dm) (TL.getD j Rt.dm)
            rw [(sameR_iff _ _).2 rfl] at hneq
            have hg5 : Try.prog.eqGuardType Try.prog.depth 53 = false := by kernel_rfl
            generalize TL.getD j Rt.dm = rt at *
            go_wp2_with fail
            go_quiet (fail)
            go_wp2_with fail
            exact ⟨⟨j + 1, by omega, by go_num, HDN.out _⟩, by simp [intOf]; omega⟩
          · go_wp2_with fail
            go_ret
            exact ⟨rfl, HB6.out.trans (HW.out.mono HB6.out.size)⟩
      · subst e1
        subst hf
        obtain ⟨b1, o1, hp1, hl1, hr1⟩ : ∃ b off, pa = some ⟨b, off, none⟩ ∧ b < w.heap.size ∧ Row w b off ms := by
          rcases HA.out with h | h
          · have := HN.out; rw [h] at this; simp at this; omega
          · exact h
        subst hp1
        have hpk : p < k := hpl
        obtain ⟨_, c1, _⟩ := (hr1.later HBW.out hl1) p (by rw [HN.out]; exact hpk)
        rw [← e2] at c1
        clear hr1 e2
        obtain ⟨g1, g2⟩ := beq_name he
        clear he
        go_wp2_with fail
        refine (HG.out _ (HV.out.below HBW.out)).mono ?_
        rintro e w' ⟨rfl, hw⟩
        have hw2 := hw.symm
        clear hw
        subst hw2
        rw [if_pos trivial]
        go_wp2_with (go_at_call 26; refine (isLabel_any _ _ (hsA.out _ (by simp))).mono ?_; rintro e w' ⟨rfl, hw⟩; have hw2 := hw.symm; clear hw; subst hw2; first | rw [hh] | rw [l1])
        refine (begun_any _).mono ?_
        rintro e w6 ⟨rfl, hb6⟩
        have hb6s := hb6.size
        have HOW6 : Hid (Rt.Own w3.heap.size w6 (.slice au ln cu) TL) := HOW.out.below hb6
        have HOT6 : Hid (Rt.Own w.heap.size w6 (.slice at0 ln ct) TL) := HOT.out.below hb6
        have HB6 : Hid (Below w.heap.size w w6) := HBW.out.trans (hb6.mono HBW.out.size)
        clear hb6 HOW HOT HBW
        go_wp2_with fail
        go_loopw [17] (fun i wx => ∃ j : Nat, j ≤ ln ∧ i = .int .i64 j ∧ Hid (Below w6.heap.size w6 wx)) (fun i _ => ln - (intOf i).toNat)
        case atStart => exact ⟨0, Nat.zero_le _, rfl, Below.refl _ _⟩
        case round =>
          obtain ⟨j, hj, rfl, HW⟩ := hrel
          have HDN : Hid (∀ m, Below w6.heap.size w6 (wr.drewN m)) := fun m => HW.out.trans ((show Below wr.heap.size wr (wr.drewN m) from ⟨rfl, rfl, rfl, Nat.le_refl _, fun _ _ => rfl⟩).mono HW.out.size)
          by_cases hjl : j < ln
          · obtain ⟨ga, hga⟩ : ∃ ga, at0 = some ⟨ga, 0, none⟩ := by
              obtain ⟨g, c, h⟩ := Rt.own_form HOT6.out j (by rw [HLN.out]; exact hjl)
              simp only [Value.slice.injEq] at h
              exact ⟨g, h.1⟩
            obtain ⟨gb, hgb⟩ : ∃ gb, au = some ⟨gb, 0, none⟩ := by
              obtain ⟨g, c, h⟩ := Rt.own_form HOW6.out j (by rw [HLN.out]; exact hjl)
              simp only [Value.slice.injEq] at h
              exact ⟨g, h.1⟩
            subst hga hgb
            obtain ⟨x0, x1⟩ := Rt.own_cells (ms := TL) (by rw [HLN.out]; exact HOT6.out.below HW.out) j (by rw [HLN.out]; exact hjl)
            obtain ⟨y0, y1⟩ := Rt.own_cells (ms := TL) (by rw [HLN.out]; exact HOW6.out.below HW.out) j (by rw [HLN.out]; exact hjl)
            have hneq := neqR (TL.getD j Rt.dm) (TL.getD j Rt.dm)
            rw [(sameR_iff _ _).2 rfl] at hneq
            have hg5 : Try.prog.eqGuardType Try.prog.depth 53 = false := by kernel_rfl
            generalize TL.getD j Rt.dm = rt at *
            go_wp2_with fail
            go_quiet (fail)
            go_wp2_with fail
            exact ⟨⟨j + 1, by omega, by go_num, HDN.out _⟩, by simp [intOf]; omega⟩
          · go_wp2_with fail
            go_ret
            exact ⟨rfl, HB6.out.trans (HW.out.mono HB6.out.size)⟩

theorem centreRoutes_walk (ms : List Gwy) (v : Value) (here to : ByteArray) (w : World) (hv : Sl w v ms) (hl : ms.length ≤ maxLen) (hs : here.size ≤ maxLen) (ht : to.size ≤ maxLen) :
    Calls Try.prog 6 #[v, .string here, .string to] w fun e w' => e = .returned (.bool true) ∧ Below w.heap.size w w' := by
  by_cases h0 : chk ms = 0
  · cases hh : labB here
    · exact routes_form ms v here to w hv hs ht h0 hh
    · exact routes_good ms v here to w hv hs ht h0 hh
  · exact routes_bad ms v here to w hv (by unfold maxLen at hl; omega) h0

end Gw
end Go.Proofs.Ytjpcngkddejdjaf
