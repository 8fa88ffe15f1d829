
/- The law CentreOrders. -/
import Derived.Test.YtjpcngkddejdjafGKG7
namespace Go.Proofs.Ytjpcngkddejdjaf
namespace Gw
open Go.RowKit

def sameR (x y : Rt.Rte) : Bool := x.centre.toList == y.centre.toList && x.addr == y.addr
theorem sameR_iff (x y : Rt.Rte) : sameR x y = true ↔ x = y := by
  obtain ⟨c1, a1⟩ := x
  obtain ⟨c2, a2⟩ := y
  simp only [sameR, Bool.and_eq_true, beq_iff_eq, Rt.Rte.mk.injEq, Lib.toList_data]
  exact ⟨fun h => ⟨ba_ext h.1, h.2⟩, fun h => ⟨by rw [h.1], h.2⟩⟩

theorem eqInR (m1 m2 : Rt.Rte) (w : World) : (Op.equalIn 10000 53 (.agg #[.string m1.centre, .int .i64 m1.addr]) (.agg #[.string m2.centre, .int .i64 m2.addr])).run Try.prog w = .ok (sameR m1 m2) w := by
  have u3 := Try.underlying3
  have u9 := Try.underlying9
  have a3 := Try.isAgg3
  have z3 := Try.sizeOf3
  have a9 := Try.isAgg9
  have z9 := Try.sizeOf9
  have hS : Try.prog.underlying 53 = some (.struct (Try.prog.fieldsOf 53)) := by kernel_rfl
  have hp : Try.prog.stoodInHeld 53 = false := by kernel_rfl
  rw [show (10000 : Nat) = 9999 + 1 from rfl, run_equalIn_agg w 9999 53 _ _ hS hp]
  simp only [Program.fieldsOf, Try.underlying53]
  go_simp
  unfold sameR
  by_cases h0 : m1.centre.toList = m2.centre.toList
  case neg => simp [h0]
  by_cases h1 : m1.addr = m2.addr
  case neg => simp [h0, h1]
  simp [h0, h1]
theorem neqR (m1 m2 : Rt.Rte) (w : World) : Sem.run Try.prog (binOp .neq 53 (.agg #[.string m1.centre, .int .i64 m1.addr]) (.agg #[.string m2.centre, .int .i64 m2.addr])) w = .ok (.bool (!sameR m1 m2)) w := by
  rw [run_neq_struct, eqInR]
  rfl

/-- What Next tells of each route of the table. -/
theorem table_next {P : List Gwy} (h0 : chk P = 0) {here : ByteArray} (hl : labB here = true) (hok : ∀ m ∈ P, m.ok) (j : Nat) (hj : j < (tableL P here).length) :
    ∃ p, At P ⟨((tableL P here).getD j Rt.dm).centre, 0, 0⟩ p true ∧ nextE true here ((tableL P here).getD j Rt.dm).centre = 0 ∧ nextA P p true here ((tableL P here).getD j Rt.dm).centre = ((tableL P here).getD j Rt.dm).addr ∧ ((tableL P here).getD j Rt.dm).centre.size ≤ maxLen := by
  have hz := chk_zero h0
  rw [RL.getD_el Rt.dm hj]
  have hmem := List.getElem_mem hj
  generalize (tableL P here)[j] = r at *
  unfold tableL at hmem
  obtain ⟨g, hg, rfl⟩ := List.mem_map.1 hmem
  obtain ⟨hgP, hne⟩ := List.mem_filter.1 hg
  obtain ⟨p, hp, rfl⟩ := List.getElem_of_mem hgP
  have hgd : P.getD p dm = P[p] := RL.getD_el dm hp
  have he := (e_zero (firstE_mem P hz.2.2 P[p] hgP))
  have hat : At P ⟨P[p].centre, 0, 0⟩ p true := RL.at_of ord dm keyed hz.2.1 hp (by rw [hgd]; exact (cmpI_eq _ _).2 rfl)
  have hne2 : here ≠ P[p].centre := fun e => by rw [← e] at hne; simp at hne
  have hN : nextE true here P[p].centre = 0 := by simp [nextE, hl, he.1, hne2]
  refine ⟨p, hat, hN, ?_, hok _ hgP⟩
  show nextA P p true here P[p].centre = P[p].addr
  rw [nextA, if_pos hN, fnd, if_pos rfl, hgd]

set_option maxHeartbeats 16000000 in
set_option maxRecDepth 100000 in
theorem centreOrders_walk (a b : List Gwy) (va vb : Value) (here : ByteArray) (w : World) (ha : Sl w va a) (hb : Sl w vb b) (hh : here.size ≤ maxLen) :
    Calls Try.prog 7 #[va, vb, .string here] w fun e w' => e = .returned (.bool true) ∧ Below w.heap.size w w' := by
  have SA : Hid (Sl w va a) := ha
  have SB : Hid (Sl w vb b) := hb
  have HOK : Hid (∀ m ∈ jx a b, m.ok) := jx_ok (sl_ok ha) (sl_ok hb)
  have HLX : Hid ((jx a b).length ≤ 6) := jx_len a b
  have HEQ : Hid ((joinE a b == 0) = (joinE b a == 0)) := by
    show (joinE a b == 0) = (joinE b a == 0)
    rw [Bool.eq_iff_iff, beq_iff_eq, beq_iff_eq]
    exact ⟨joinE_comm0, joinE_comm0⟩
  have HCM : Hid (jx b a = jx a b) := jx_comm b a
  have HCK : Hid (joinE a b = 0 → chk (jx a b) = 0) := fun h => by rw [jx, if_pos h]; exact joinE_right h
  clear ha hb
  go_enter Try.func7, Try.ntmps7
  go_wp2_with fail
  refine (begun_any _).mono ?_
  rintro e x0 ⟨rfl, hb⟩
  have SA0 : Hid (Sl x0 va a) := SA.out.below hb
  have SB0 : Hid (Sl x0 vb b) := SB.out.below hb
  have HB0 : Hid (Below w.heap.size w x0) := hb
  clear hb SA SB
  go_wp2_with fail
  refine (join_jx a b va vb _ SA0.out SB0.out).mono ?_
  rintro e x1 ⟨vp, rfl, SP, hb⟩
  have SA1 : Hid (Sl x1 va a) := SA0.out.below hb
  have SB1 : Hid (Sl x1 vb b) := SB0.out.below hb
  have HB1 : Hid (Below w.heap.size w x1) := HB0.out.trans (hb.mono HB0.out.size)
  clear hb SA0 SB0 HB0
  go_wp2_with fail
  refine (join_jx b a vb va _ SB1.out SA1.out).mono ?_
  rintro e x2 ⟨vq, rfl, SQ, hb⟩
  have SP2 : Hid (Sl x2 vp (jx a b)) := SP.out.below hb
  have SQ2 : Hid (Sl x2 vq (jx a b)) := by have h := SQ.out; rw [HCM.out] at h; exact h
  have HB2 : Hid (Below w.heap.size w x2) := HB1.out.trans (hb.mono HB1.out.size)
  clear hb SA1 SB1 HB1 SP SQ
  rcases hE1 : (joinE a b == 0) with _ | _
  · have hE2 : (joinE b a == 0) = false := HEQ.out.symm.trans hE1
    have hE1n : (joinE a b != 0) = true := by rw [bne, hE1]; rfl
    go_wp2_with fail
    go_ret
    exact ⟨rfl, HB2.out⟩
  · have hE2 : (joinE b a == 0) = true := HEQ.out.symm.trans hE1
    have hE1n : (joinE a b != 0) = false := by rw [bne, hE1]; rfl
    have hE2n : (joinE b a != 0) = false := by rw [bne, hE2]; rfl
    have hz1 : joinE a b = 0 := by simpa using hE1
    have HC : Hid (chk (jx a b) = 0) := HCK.out hz1
    clear hz1 HCK HEQ HCM
    generalize jx a b = P at *
    rcases hl : labB here with _ | _
    · go_wp2_with fail
      refine (table_form P vp here _ SP2.out HC.out hh hl).mono ?_
      rintro e x3 ⟨rfl, hb⟩
      have SP3 : Hid (Sl x3 vp P) := SP2.out.below hb
      have SQ3 : Hid (Sl x3 vq P) := SQ2.out.below hb
      have HB3 : Hid (Below w.heap.size w x3) := HB2.out.trans (hb.mono HB2.out.size)
      clear hb
      go_wp2_with fail
      refine (table_form P vq here _ SQ3.out HC.out hh hl).mono ?_
      rintro e x4 ⟨rfl, hb⟩
      have SP4 : Hid (Sl x4 vp P) := SP3.out.below hb
      have SQ4 : Hid (Sl x4 vq P) := SQ3.out.below hb
      have HB4 : Hid (Below w.heap.size w x4) := HB3.out.trans (hb.mono HB3.out.size)
      clear hb
      go_wp2_with fail
      refine (same_eq P vp vq _ SP4.out SQ4.out (by have := HLX.out; omega)).mono ?_
      rintro e x5 ⟨rfl, hb⟩
      have HB5 : Hid (Below w.heap.size w x5) := HB4.out.trans (hb.mono HB4.out.size)
      clear hb
      go_wp2_with fail
      go_loop [13] (fun i => i = .int .i64 0) (fun _ => 0)
      case atStart => rfl
      case round =>
        subst hrel
        go_wp2_with fail
        go_ret
        exact ⟨rfl, HB5.out⟩
    · have HTN : Hid (∀ j, j < (tableL P here).length → ∃ p, At P ⟨((tableL P here).getD j Rt.dm).centre, 0, 0⟩ p true ∧ nextE true here ((tableL P here).getD j Rt.dm).centre = 0 ∧ nextA P p true here ((tableL P here).getD j Rt.dm).centre = ((tableL P here).getD j Rt.dm).addr ∧ ((tableL P here).getD j Rt.dm).centre.size ≤ maxLen) := fun j hj => table_next HC.out hl HOK.out j hj
      have hln := tableL_len P here
      have hln2 : (tableL P here).length ≤ 6 := by have := HLX.out; omega
      clear hln
      have HTG : Hid (∀ v w, Sl w v P → Calls Try.prog 24 #[v, .string here] w fun e w' => ∃ v', e = .returned (.tuple #[v', .int .i64 0]) ∧ Hid (Rt.Own w.heap.size w' v' (tableL P here)) ∧ Below w.heap.size w w') := fun v w h => table_good P v here w h HC.out hh hl
      generalize tableL P here = TL at *
      generalize htn : TL.length = n at *
      have HTL : Hid (TL.length = n) := htn
      clear htn
      go_wp2_with fail
      refine (HTG.out vp _ SP2.out).mono ?_
      rintro e x3 ⟨vs, rfl, OS, hb⟩
      have SP3 : Hid (Sl x3 vp P) := SP2.out.below hb
      have SQ3 : Hid (Sl x3 vq P) := SQ2.out.below hb
      have HB3 : Hid (Below w.heap.size w x3) := HB2.out.trans (hb.mono HB2.out.size)
      clear hb
      go_wp2_with fail
      refine (HTG.out vq _ SQ3.out).mono ?_
      rintro e x4 ⟨vt, rfl, OT, hb⟩
      have SP4 : Hid (Sl x4 vp P) := SP3.out.below hb
      have SQ4 : Hid (Sl x4 vq P) := SQ3.out.below hb
      have OS4 : Hid (Rt.Own x2.heap.size x4 vs TL) := OS.out.below hb
      have HB4 : Hid (Below w.heap.size w x4) := HB3.out.trans (hb.mono HB3.out.size)
      clear hb OS
      have TOK : Hid (∀ j, (TL.getD j Rt.dm).ok) := fun j => by
        by_cases hj : j < TL.length
        · obtain ⟨p, _, _, _, h⟩ := HTN.out j (by rw [← HTL.out]; exact hj)
          exact h
        · rw [List.getD, List.getElem?_eq_none (Nat.le_of_not_lt hj)]; exact Rt.dm_ok
      have SS4 : Hid (Rt.Sl x4 vs TL) := OS4.out.sl TOK.out
      have ST4 : Hid (Rt.Sl x4 vt TL) := OT.out.sl TOK.out
      clear OS4 OT HTG
      obtain ⟨ps, cs, hvs, _, _⟩ := SS4.out
      obtain ⟨pt, ct, hvt, _, _⟩ := ST4.out
      rw [HTL.out] at hvs hvt
      subst hvs hvt
      have hnn : ((n : Int) != (n : Int)) = false := by simp
      go_wp2_with fail
      refine (same_eq P vp vq _ SP4.out SQ4.out (by have := HLX.out; omega)).mono ?_
      rintro e x5 ⟨rfl, hb⟩
      have SP5 : Hid (Sl x5 vp P) := SP4.out.below hb
      have SS5 : Hid (Rt.Sl x5 (.slice ps n cs) TL) := SS4.out.below hb
      have ST5 : Hid (Rt.Sl x5 (.slice pt n ct) TL) := ST4.out.below hb
      have HB5 : Hid (Below w.heap.size w x5) := HB4.out.trans (hb.mono HB4.out.size)
      clear hb
      have hg53 : Try.prog.eqGuardType Try.prog.depth 53 = false := by kernel_rfl
      have hs5 := HB5.out.size
      go_wp2_with fail
      go_loopw [13] (fun i w' => ∃ k : Nat, k ≤ n ∧ i = .int .i64 k ∧ Below x5.heap.size x5 w') (fun i _ => n - (intOf i).toNat)
      case atStart => exact ⟨0, Nat.zero_le _, rfl, Below.refl _ _⟩
      case round =>
        obtain ⟨k, hk, rfl, hbl⟩ := hrel
        have hsz := hbl.size
        by_cases hlt : k < n
        · have hkl : k < TL.length := by rw [HTL.out]; exact hlt
          obtain ⟨p, hat, hnE, hnA, hcs⟩ := HTN.out k hlt
          have SPr : Hid (Sl wr vp P) := SP5.out.below hbl
          have HNX : Hid (∀ W, Sl W vp P → Calls Try.prog 25 #[vp, .string here, .string (TL.getD k Rt.dm).centre] W fun e w' => e = .returned (.tuple #[.int .i64 (TL.getD k Rt.dm).addr, .int .i64 0]) ∧ Below W.heap.size W w') := fun W hW => by
            have h := next_good P vp here (TL.getD k Rt.dm).centre W hW HC.out hh hcs p true hat
            rw [hnE, hnA] at h
            exact h
          obtain ⟨bs, os, hps, hls, hrs⟩ : ∃ b off, ps = some ⟨b, off, none⟩ ∧ b < x5.heap.size ∧ Rt.Row x5 b off TL := by
            obtain ⟨ps2, cs2, h1, _, h2⟩ := SS5.out
            simp only [Value.slice.injEq] at h1
            obtain ⟨rfl, _, _⟩ := h1
            rcases h2 with h | h
            · rw [h] at hkl; simp at hkl
            · exact h
          obtain ⟨bt, ot, hpt, hlt2, hrt⟩ : ∃ b off, pt = some ⟨b, off, none⟩ ∧ b < x5.heap.size ∧ Rt.Row x5 b off TL := by
            obtain ⟨pt2, ct2, h1, _, h2⟩ := ST5.out
            simp only [Value.slice.injEq] at h1
            obtain ⟨rfl, _, _⟩ := h1
            rcases h2 with h | h
            · rw [h] at hkl; simp at hkl
            · exact h
          subst hps hpt
          obtain ⟨c0, c1⟩ := hrs k hkl
          obtain ⟨d0, d1⟩ := hrt k hkl
          clear hrs hrt hat hnE hnA hcs
          have hneq := neqR (TL.getD k Rt.dm) (TL.getD k Rt.dm)
          rw [(sameR_iff _ _).2 rfl] at hneq
          generalize TL.getD k Rt.dm = m at *
          have hneq2 : ∀ w, Sem.run Try.prog (binOp .neq 53 (.agg #[.string m.centre, .int .i64 m.addr]) (.agg #[.string m.centre, .int .i64 m.addr])) w = .ok (.bool false) w := hneq
          clear hneq
          have hbc : ∀ b o, b < x5.heap.size → wr.cell? ⟨b, o, none⟩ = x5.cell? ⟨b, o, none⟩ := fun b o h => hbl.cell (p := ⟨b, o, none⟩) h
          go_wp2_with fail
          refine (HNX.out _ SPr.out).mono ?_
          rintro e x6 ⟨rfl, hb6⟩
          have hbl6 : Below x5.heap.size x5 x6 := hbl.trans (hb6.mono hsz)
          clear hb6 hbc HNX SPr
          have hbc : ∀ b o, b < x5.heap.size → x6.cell? ⟨b, o, none⟩ = x5.cell? ⟨b, o, none⟩ := fun b o h => hbl6.cell (p := ⟨b, o, none⟩) h
          have haa : (m.addr != m.addr) = false := by simp
          go_wp2_with fail
          go_quiet (fail)
          go_wp2_with fail
          go_roundw
          case rel => exact ⟨k + 1, by omega, by go_num, below_drewN hbl6 _⟩
          case measure => simp [intOf]; omega
        · go_wp2_with fail
          go_ret
          exact ⟨rfl, HB5.out.trans (hbl.mono hs5)⟩

end Gw
end Go.Proofs.Ytjpcngkddejdjaf
