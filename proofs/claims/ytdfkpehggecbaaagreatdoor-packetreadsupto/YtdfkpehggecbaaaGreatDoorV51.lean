/- JY -/
import Derived.Test.YtdfkpehggecbaaaGreatDoorV49
/- Packets: PacketBack. -/
namespace Go.Proofs.YtdfkpehggecbaaaGreatDoor
open Go.RowKit

theorem Pk.B_len {p : Pk} (h : p.Wok) : p.B.length ≤ 900000 := by
  have e : p.B.length = p.L.length := by rw [p.L_eq, Lib.byteCells_length]
  rw [e]
  unfold Pk.L
  have h0 := txtL_len h.frm
  have h1 := flgL_len p.whole
  have h2 := els_len p.ms h.ms.2
  have h3 := Sv.els_len p.sv h.sv.2
  have h4 := Gw.els_len p.gw h.gw.2
  have h5 := Wh.els_len p.wh h.wh.2
  have g2 := h.ms.1
  have g3 := h.sv.1
  have g4 := h.gw.1
  have g5 := h.wh.1
  have n2 := numL_len (n := p.ms.length) ⟨by omega, by omega⟩
  have n3 := numL_len (n := p.sv.length) ⟨by omega, by omega⟩
  have n4 := numL_len (n := p.gw.length) ⟨by omega, by omega⟩
  have n5 := numL_len (n := p.wh.length) ⟨by omega, by omega⟩
  simp only [List.length_append]
  omega
theorem Pk.Wok.small {p : Pk} (h : p.Wok) : p.Small := ⟨by have := h.ms.1; omega, by have := h.sv.1; omega, by have := h.gw.1; omega, by have := h.wh.1; omega⟩
theorem PkOwn.is {base : Nat} {w : World} {p : Pk} {vm vs vg vw : Value} (h : PkOwn base w p vm vs vg vw) (hk : p.Wok) : PkIs w p vm vs vg vw :=
  ⟨own_names h.ms (fun m hm => by have := (hk.ms.2 m hm).1; unfold maxLen; omega), Sv.own_names h.sv (fun m hm => by obtain ⟨h1, h2, h3, h4, _⟩ := hk.sv.2 m hm; refine ⟨?_, ?_, ?_, ?_⟩ <;> (unfold maxLen; omega)), Gw.own_names h.gw (fun m hm => by have := (hk.gw.2 m hm).1; show _ ≤ _; unfold maxLen; omega), Wh.own_names h.wh (fun m hm => by have := (hk.wh.2 m hm).1; show _ ≤ _; unfold maxLen; omega), by have := hk.frm; unfold maxLen; omega, roomy_own h.ms⟩
theorem PkIs.isPk {w : World} {p : Pk} {vm vs vg vw : Value} (h : PkIs w p vm vs vg vw) : IsPk w p #[.string p.frm, .bool p.whole, vm, vs, vg, vw] := ⟨vm, vs, vg, vw, rfl, h.ms, h.sv, h.gw, h.wh⟩
/-- What was read can be written, as it was. -/
theorem write_back {base : Nat} {l : List UInt8} {p : Pk} {vm vs vg vw : Value} {w : World} (hV : Rv w.heap.size w) (h : rdR l = some p) (ho : PkOwn base w p vm vs vg vw) :
    Calls Tryz.prog 6 #[.agg #[.string p.frm, .bool p.whole, vm, vs, vg, vw]] w fun e w' => e = .returned (.tuple #[.string (bstr l), .int .i64 0]) ∧ Below w.heap.size w w' := by
  obtain ⟨h1, h2⟩ := rdR_some.1 h
  have hk := pk_wok h2
  have hw := pwrite_any p vm vs vg vw w (ho.is hk) (.inr (by have := hk.sv.1; have := hk.gw.1; have := hk.wh.1; omega)) hV.tab
  rw [Pk.T_ok h2, h2, ← h1] at hw
  exact hw
/-- What was written is read, as it was. -/
theorem read_back {p : Pk} {w : World} (hV : Rv w.heap.size w) (h : p.e = 0) :
    Calls Tryz.prog 12 #[.string p.T] w fun e w' => Below w.heap.size w w' ∧ ∃ a2 l2 c2 a3 l3 c3 a4 l4 c4 a5 l5 c5, e = .returned (.tuple #[.agg #[.string p.frm, .bool p.whole, .slice a2 l2 c2, .slice a3 l3 c3, .slice a4 l4 c4, .slice a5 l5 c5], .int .i64 0]) ∧ PkOwn w.heap.size w' p (.slice a2 l2 c2) (.slice a3 l3 c3) (.slice a4 l4 c4) (.slice a5 l5 c5) := by
  rw [Pk.T_ok h]
  refine (pread_b hV (by have := Pk.B_len (pk_wok h); omega)).mono ?_
  rw [rdR_some.2 ⟨rfl, h⟩]
  rintro e w' ⟨hb, ⟨q, vm, vs, vg, vw, hq, rfl, ho⟩ | ⟨hq, _⟩⟩
  · simp only [Option.some.injEq] at hq
    subst hq
    obtain ⟨a2, l2, c2, rfl⟩ := slice_of_row ho.ms
    obtain ⟨a3, l3, c3, rfl⟩ := slice_of_row ho.sv
    obtain ⟨a4, l4, c4, rfl⟩ := slice_of_row ho.gw
    obtain ⟨a5, l5, c5, rfl⟩ := slice_of_row ho.wh
    exact ⟨hb, _, _, _, _, _, _, _, _, _, _, _, _, rfl, ho⟩
  · cases hq

set_option maxHeartbeats 6400000 in
set_option maxRecDepth 100000 in
theorem packetBack_walk (p : Pk) (a2 : Option Addr) (l2 c2 : Nat) (a3 : Option Addr) (l3 c3 : Nat) (a4 : Option Addr) (l4 c4 : Nat) (a5 : Option Addr) (l5 c5 : Nat) (l : List UInt8) (w : World) (hV : Rv w.heap.size w) (hx : PkIs w p (.slice a2 l2 c2) (.slice a3 l3 c3) (.slice a4 l4 c4) (.slice a5 l5 c5)) (hlen : p.whole = true ∨ p.sv.length + p.gw.length + p.wh.length ≤ 4611686018427387904) (hs : l.length ≤ 16777216) :
    Calls Tryz.prog 5 #[.agg #[.string p.frm, .bool p.whole, .slice a2 l2 c2, .slice a3 l3 c3, .slice a4 l4 c4, .slice a5 l5 c5], .string (bstr l)] w fun e w' => e = .returned (.bool true) ∧ Below w.heap.size w w' := by
  obtain ⟨W0, hW0⟩ : ∃ W0, W0 = w.alloc (.cells #[.string p.frm, .bool p.whole, .slice a2 l2 c2, .slice a3 l3 c3, .slice a4 l4 c4, .slice a5 l5 c5] 27) := ⟨_, rfl⟩
  have hb0 : Below w.heap.size w W0 := by rw [hW0]; exact (Below.refl _ _).alloc (Nat.le_refl _) _
  have hg0 : W0.heap[w.heap.size]? = some (.cells #[.string p.frm, .bool p.whole, .slice a2 l2 c2, .slice a3 l3 c3, .slice a4 l4 c4, .slice a5 l5 c5] 27 (0, 0)) := by rw [hW0]; exact heap_alloc_new w _
  have hz0 : w.heap.size < W0.heap.size := by rw [hW0]; simp
  have HWR : Hid (∀ W, Below W0.heap.size W0 W → Calls Tryz.prog 6 #[.agg #[.string p.frm, .bool p.whole, .slice a2 l2 c2, .slice a3 l3 c3, .slice a4 l4 c4, .slice a5 l5 c5]] W fun e w' => e = .returned (.tuple #[.string p.T, .int .i64 p.e]) ∧ Below W.heap.size W w') := fun W hW =>
    pwrite_any p _ _ _ _ W ((hx.below hb0).below hW) hlen ((hV.after hb0).after hW).tab
  have HBG : Hid (∀ W, Below W0.heap.size W0 W → Calls Tryz.prog 9 #[] W fun e w' => e = .returned (.bool true) ∧ Below W.heap.size W w') := fun W hW => packetBegun_any ((hV.after hb0).after hW)
  have HRB : Hid (p.e = 0 → ∀ W, Below W0.heap.size W0 W → Calls Tryz.prog 12 #[.string p.T] W fun e w' => Below W.heap.size W w' ∧ ∃ a2 l2 c2 a3 l3 c3 a4 l4 c4 a5 l5 c5, e = .returned (.tuple #[.agg #[.string p.frm, .bool p.whole, .slice a2 l2 c2, .slice a3 l3 c3, .slice a4 l4 c4, .slice a5 l5 c5], .int .i64 0]) ∧ PkOwn W.heap.size w' p (.slice a2 l2 c2) (.slice a3 l3 c3) (.slice a4 l4 c4) (.slice a5 l5 c5)) := fun h0 W hW => read_back ((hV.after hb0).after hW) h0
  have HSM : Hid (p.e = 0 → ∀ W, Below W0.heap.size W0 W → ∀ base b2 m2 d2 b3 m3 d3 b4 m4 d4 b5 m5 d5, PkOwn base W p (.slice b2 m2 d2) (.slice b3 m3 d3) (.slice b4 m4 d4) (.slice b5 m5 d5) → Calls Tryz.prog 14 #[.agg #[.string p.frm, .bool p.whole, .slice b2 m2 d2, .slice b3 m3 d3, .slice b4 m4 d4, .slice b5 m5 d5], .agg #[.string p.frm, .bool p.whole, .slice a2 l2 c2, .slice a3 l3 c3, .slice a4 l4 c4, .slice a5 l5 c5]] W fun e w' => e = .returned (.bool true) ∧ Below W.heap.size W w') := fun h0 W hW base b2 m2 d2 b3 m3 d3 b4 m4 d4 b5 m5 d5 ho =>
    samePacket_any p _ _ W (ho.is (pk_wok h0)).isPk ((hx.below hb0).below hW).isPk (pk_wok h0).small
  have HRD : Hid (∀ W, Below W0.heap.size W0 W → Calls Tryz.prog 12 #[.string (bstr l)] W (ReadSays W (rdR l))) := fun W hW => pread_b ((hV.after hb0).after hW) hs
  have HWB : Hid (∀ W, Below W0.heap.size W0 W → ∀ base q vm vs vg vw, rdR l = some q → PkOwn base W q vm vs vg vw → Calls Tryz.prog 6 #[.agg #[.string q.frm, .bool q.whole, vm, vs, vg, vw]] W fun e w' => e = .returned (.tuple #[.string (bstr l), .int .i64 0]) ∧ Below W.heap.size W w') := fun W hW base q vm vs vg vw hq ho => write_back ((hV.after hb0).after hW) hq ho
  have HBX : Hid (∀ W, Below W0.heap.size W0 W → W.heap[w.heap.size]? = some (.cells #[.string p.frm, .bool p.whole, .slice a2 l2 c2, .slice a3 l3 c3, .slice a4 l4 c4, .slice a5 l5 c5] 27 (0, 0))) := fun W hW => (hW.block _ hz0).trans hg0
  have HEND : Hid (∀ W, Below W0.heap.size W0 W → Below w.heap.size w W) := fun W hW => hb0.trans (hW.mono (by omega))
  generalize p.T = PT at *
  generalize p.e = pe at *
  generalize rdR l = RO at *
  generalize bstr l = S at *
  clear hx hlen hV hb0 hz0 hs
  obtain ⟨frm, whole, ms, sv, gw, wh⟩ := p
  simp only at HWR HBG HRB HSM HBX hg0 hW0 ⊢
  clear hg0
  go_enter Tryz.func5, Tryz.ntmps5
  go_upto_region 1 with fail
  rw [← hW0]
  clear hW0
  go_wp2_with fail
  refine (HBG.out W0 (Below.refl _ _)).mono ?_
  rintro e w1 ⟨rfl, hb1⟩
  have HB1 : Hid (Below W0.heap.size W0 w1) := hb1
  clear hb1 HBG
  obtain ⟨x0, x1, x2, x3, x4, x5⟩ := cells6 (HBX.out w1 HB1.out)
  go_wp2_with fail
  refine (HWR.out w1 HB1.out).mono ?_
  rintro e w2 ⟨rfl, hb2⟩
  have HB2 : Hid (Below W0.heap.size W0 w2) := HB1.out.trans (hb2.mono HB1.out.size)
  clear hb2 HWR x0 x1 x2 x3 x4 x5
  by_cases h0 : pe = 0
  · subst h0
    have hrb := HRB.out rfl
    have hsm := HSM.out rfl
    clear HRB HSM
    have HRB : Hid _ := hrb
    have HSM : Hid _ := hsm
    clear hrb hsm
    go_wp2_with fail
    refine Calls.mono (HRB.out w2 HB2.out) ?_
    rintro e w3 ⟨hb3, b2, m2, d2, b3, m3, d3, b4, m4, d4, b5, m5, d5, rfl, ho3⟩
    have HB3 : Hid (Below W0.heap.size W0 w3) := HB2.out.trans (hb3.mono HB2.out.size)
    obtain ⟨w4, hw4⟩ : ∃ w4, w4 = w3.alloc (.cells #[.string frm, .bool whole, .slice b2 m2 d2, .slice b3 m3 d3, .slice b4 m4 d4, .slice b5 m5 d5] 27) := ⟨_, rfl⟩
    have hb4 : Below w3.heap.size w3 w4 := by rw [hw4]; exact (Below.refl _ _).alloc (Nat.le_refl _) _
    have HB4 : Hid (Below W0.heap.size W0 w4) := HB3.out.trans (hb4.mono HB3.out.size)
    have hx4 : w4.heap[w3.heap.size]? = some (.cells #[.string frm, .bool whole, .slice b2 m2 d2, .slice b3 m3 d3, .slice b4 m4 d4, .slice b5 m5 d5] 27 (0, 0)) := by rw [hw4]; exact heap_alloc_new w3 _
    have HSM2 := HSM.out w4 HB4.out _ _ _ _ _ _ _ _ _ _ _ _ _ (ho3.keep (fun b _ hb => hb4.block b hb))
    have HSM3 : Hid (Calls Tryz.prog 14 #[.agg #[.string frm, .bool whole, .slice b2 m2 d2, .slice b3 m3 d3, .slice b4 m4 d4, .slice b5 m5 d5], .agg #[.string frm, .bool whole, .slice a2 l2 c2, .slice a3 l3 c3, .slice a4 l4 c4, .slice a5 l5 c5]] w4 fun e w' => e = .returned (.bool true) ∧ Below w4.heap.size w4 w') := HSM2
    obtain ⟨x0, x1, x2, x3, x4, x5⟩ := cells6 (HBX.out w4 HB4.out)
    obtain ⟨y0, y1, y2, y3, y4, y5⟩ := cells6 hx4
    clear HSM2 HSM hb3 hb4 ho3 hx4 HRB
    go_upto_region 6 with fail
    rw [← hw4]
    clear hw4
    go_wp2_with fail
    refine HSM3.out.mono ?_
    rintro e w8 ⟨rfl, hb8⟩
    have HB8 : Hid (Below W0.heap.size W0 w8) := HB4.out.trans (hb8.mono HB4.out.size)
    clear hb8 HSM3 x0 x1 x2 x3 x4 x5 y0 y1 y2 y3 y4 y5
    go_wp2_with fail
    refine (HRD.out w8 HB8.out).mono ?_
    rintro e w5 ⟨hb5, ⟨q, vm, vs, vg, vw, hq, rfl, ho⟩ | ⟨hq, rfl⟩⟩
    · obtain ⟨a6, l6, c6, rfl⟩ := slice_of_row ho.ms
      obtain ⟨a7, l7, c7, rfl⟩ := slice_of_row ho.sv
      obtain ⟨a8, l8, c8, rfl⟩ := slice_of_row ho.gw
      obtain ⟨a9, l9, c9, rfl⟩ := slice_of_row ho.wh
      have HB5 : Hid (Below W0.heap.size W0 w5) := HB8.out.trans (hb5.mono HB8.out.size)
      obtain ⟨w6, hw6⟩ : ∃ w6, w6 = w5.alloc (.cells #[.string q.frm, .bool q.whole, .slice a6 l6 c6, .slice a7 l7 c7, .slice a8 l8 c8, .slice a9 l9 c9] 27) := ⟨_, rfl⟩
      have hb6 : Below w5.heap.size w5 w6 := by rw [hw6]; exact (Below.refl _ _).alloc (Nat.le_refl _) _
      have HB6 : Hid (Below W0.heap.size W0 w6) := HB5.out.trans (hb6.mono HB5.out.size)
      have HX6 : Hid (w6.heap[w5.heap.size]? = some (.cells #[.string q.frm, .bool q.whole, .slice a6 l6 c6, .slice a7 l7 c7, .slice a8 l8 c8, .slice a9 l9 c9] 27 (0, 0))) := by rw [hw6]; exact heap_alloc_new w5 _
      have HWB2 : Hid (Calls Tryz.prog 6 #[.agg #[.string q.frm, .bool q.whole, .slice a6 l6 c6, .slice a7 l7 c7, .slice a8 l8 c8, .slice a9 l9 c9]] w6 fun e w' => e = .returned (.tuple #[.string S, .int .i64 0]) ∧ Below w6.heap.size w6 w') := HWB.out w6 HB6.out _ q _ _ _ _ hq (ho.keep (fun b _ hb => hb6.block b hb))
      clear hb5 hb6 ho hq HWB HRD
      obtain ⟨q0, q1, qm, qs, qg, qw⟩ := q
      simp only at HX6 HWB2 hw6 ⊢
      go_upto_region 9 with fail
      rw [← hw6]
      clear hw6
      obtain ⟨y0, y1, y2, y3, y4, y5⟩ := cells6 HX6.out
      go_wp2_with fail
      refine HWB2.out.mono ?_
      rintro e w7 ⟨rfl, hb7⟩
      have HB7 : Hid (Below W0.heap.size W0 w7) := HB6.out.trans (hb7.mono HB6.out.size)
      clear hb7 y0 y1 y2 y3 y4 y5
      go_wp2_with fail
      go_ret
      exact ⟨by simp, HEND.out _ HB7.out⟩
    · have HB5 : Hid (Below W0.heap.size W0 w5) := HB8.out.trans (hb5.mono HB8.out.size)
      have HZ5 : Hid (W0.heap.size ≤ w5.heap.size) := HB5.out.size
      clear hb5 hq HWB HRD
      go_wp2_with fail
      go_ret
      exact ⟨rfl, HEND.out _ (HB5.out.alloc HZ5.out _)⟩
  · have hd : (pe == 0) = false := by simpa using h0
    clear h0 HRB HSM
    go_wp2_with fail
    refine (HRD.out w2 HB2.out).mono ?_
    rintro e w5 ⟨hb5, ⟨q, vm, vs, vg, vw, hq, rfl, ho⟩ | ⟨hq, rfl⟩⟩
    · obtain ⟨a6, l6, c6, rfl⟩ := slice_of_row ho.ms
      obtain ⟨a7, l7, c7, rfl⟩ := slice_of_row ho.sv
      obtain ⟨a8, l8, c8, rfl⟩ := slice_of_row ho.gw
      obtain ⟨a9, l9, c9, rfl⟩ := slice_of_row ho.wh
      have HB5 : Hid (Below W0.heap.size W0 w5) := HB2.out.trans (hb5.mono HB2.out.size)
      obtain ⟨w6, hw6⟩ : ∃ w6, w6 = w5.alloc (.cells #[.string q.frm, .bool q.whole, .slice a6 l6 c6, .slice a7 l7 c7, .slice a8 l8 c8, .slice a9 l9 c9] 27) := ⟨_, rfl⟩
      have hb6 : Below w5.heap.size w5 w6 := by rw [hw6]; exact (Below.refl _ _).alloc (Nat.le_refl _) _
      have HB6 : Hid (Below W0.heap.size W0 w6) := HB5.out.trans (hb6.mono HB5.out.size)
      have HX6 : Hid (w6.heap[w5.heap.size]? = some (.cells #[.string q.frm, .bool q.whole, .slice a6 l6 c6, .slice a7 l7 c7, .slice a8 l8 c8, .slice a9 l9 c9] 27 (0, 0))) := by rw [hw6]; exact heap_alloc_new w5 _
      have HWB2 : Hid (Calls Tryz.prog 6 #[.agg #[.string q.frm, .bool q.whole, .slice a6 l6 c6, .slice a7 l7 c7, .slice a8 l8 c8, .slice a9 l9 c9]] w6 fun e w' => e = .returned (.tuple #[.string S, .int .i64 0]) ∧ Below w6.heap.size w6 w') := HWB.out w6 HB6.out _ q _ _ _ _ hq (ho.keep (fun b _ hb => hb6.block b hb))
      clear hb5 hb6 ho hq HWB HRD
      obtain ⟨q0, q1, qm, qs, qg, qw⟩ := q
      simp only at HX6 HWB2 hw6 ⊢
      go_upto_region 9 with fail
      rw [← hw6]
      clear hw6
      obtain ⟨y0, y1, y2, y3, y4, y5⟩ := cells6 HX6.out
      go_wp2_with fail
      refine HWB2.out.mono ?_
      rintro e w7 ⟨rfl, hb7⟩
      have HB7 : Hid (Below W0.heap.size W0 w7) := HB6.out.trans (hb7.mono HB6.out.size)
      clear hb7 y0 y1 y2 y3 y4 y5
      go_wp2_with fail
      go_ret
      exact ⟨by simp, HEND.out _ HB7.out⟩
    · have HB5 : Hid (Below W0.heap.size W0 w5) := HB2.out.trans (hb5.mono HB2.out.size)
      have HZ5 : Hid (W0.heap.size ≤ w5.heap.size) := HB5.out.size
      clear hb5 hq HWB HRD
      go_wp2_with fail
      go_ret
      exact ⟨rfl, HEND.out _ (HB5.out.alloc HZ5.out _)⟩

end Go.Proofs.YtdfkpehggecbaaaGreatDoor

