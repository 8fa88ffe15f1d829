/- JX -/
import Derived.Test.YtdfkpehggecbaaaGreatDoorV43
import Derived.Test.YtdfkpehggecbaaaGreatDoorV38
import Derived.Test.YtdfkpehggecbaaaGreatDoorV48
/- Packets: what must be in any case; PacketWrites. -/
namespace Go.Proofs.YtdfkpehggecbaaaGreatDoor
open Go.RowKit

theorem Tab.up {B C : Nat} {w : World} (h : Tab B w) (hC : B ≤ C) : Tab C w := fun w' hw => h w' (hw.mono hC)
theorem Rv.up {B C : Nat} {w : World} (h : Rv B w) (hC : B ≤ C) (hl : C ≤ w.heap.size) : Rv C w := ⟨h.tab.up hC, h.er, Nat.lt_of_lt_of_le h.b1 hC, Nat.lt_of_lt_of_le h.b2 hC, hl⟩
theorem Rv.after {w w' : World} (h : Rv w.heap.size w) (hb : Below w.heap.size w w') : Rv w'.heap.size w' := (h.below hb).up hb.size (Nat.le_refl _)
theorem Pk.T_ok {p : Pk} (h : p.e = 0) : p.T = bstr p.B := by unfold Pk.T; rw [if_pos h]; rfl
theorem Pk.T_no {p : Pk} (h : p.e ≠ 0) : p.T = ⟨#[]⟩ := by unfold Pk.T; rw [if_neg h]
def pkA : Pk := ⟨⟨#[97]⟩, false, [], [], [], []⟩
theorem pkA_e : pkA.e = 0 := by kernel_rfl
theorem pkA_B : pkA.B = [49, 59, 97, 48, 59, 48, 59, 48, 59, 48, 59, 48, 59] := by
  have h1 : Lib.itoa 1 = [49] := by unfold Lib.itoa; rw [if_neg (by omega)]; exact Lib.decDigits_one (by decide)
  have h0 : Lib.itoa 0 = [48] := by unfold Lib.itoa; rw [if_neg (by omega)]; exact Lib.decDigits_one (by decide)
  unfold Pk.B txtB flgB numB pkA
  have e1 : ((ByteArray.mk #[97]).size : Int) = 1 := rfl
  simp only [e1, h1, List.length_nil, List.flatMap_nil]
  rw [show ((0 : Nat) : Int) = 0 from rfl, if_neg (by decide), h0]
  rfl
theorem pkIs_nil (w : World) (s : ByteArray) (y : Bool) (hs : s.size ≤ maxLen) : PkIs w ⟨s, y, [], [], [], []⟩ (.slice none 0 0) (.slice none 0 0) (.slice none 0 0) (.slice none 0 0) :=
  ⟨own_names (own_nil w.heap.size w) (fun _ h => by cases h), Sv.own_names (Sv.own_nil w.heap.size w) (fun _ h => by cases h), Gw.own_names (Gw.own_nil w.heap.size w) (fun _ h => by cases h), Wh.own_names (Wh.own_nil w.heap.size w) (fun _ h => by cases h), hs, Nat.le_refl _⟩

set_option maxHeartbeats 3200000 in
set_option maxRecDepth 100000 in
theorem packetBegun_any {w : World} (hV : Rv w.heap.size w) :
    Calls Tryz.prog 9 #[] w fun e w' => e = .returned (.bool true) ∧ Below w.heap.size w w' := by
  have HWR : Hid (Calls Tryz.prog 6 #[.agg #[.string ⟨#[97]⟩, .bool false, .slice none 0 0, .slice none 0 0, .slice none 0 0, .slice none 0 0]] w fun e w' => e = .returned (.tuple #[.string ⟨#[49, 59, 97, 48, 59, 48, 59, 48, 59, 48, 59, 48, 59]⟩, .int .i64 0]) ∧ Below w.heap.size w w') := by
    have h := pwrite_any pkA _ _ _ _ w (pkIs_nil w ⟨#[97]⟩ false (by decide)) (.inr (by simp [pkA])) hV.tab
    rw [Pk.T_ok pkA_e, pkA_e, pkA_B] at h
    exact h
  have HRD : Hid (∀ W, Below w.heap.size w W → Calls Tryz.prog 12 #[.string ⟨#[49, 59, 97, 48, 59, 48, 59, 48, 59, 48, 59, 48, 59]⟩] W fun e w' => Below W.heap.size W w' ∧ ∃ a2 l2 c2 a3 l3 c3 a4 l4 c4 a5 l5 c5, e = .returned (.tuple #[.agg #[.string ⟨#[97]⟩, .bool false, .slice a2 l2 c2, .slice a3 l3 c3, .slice a4 l4 c4, .slice a5 l5 c5], .int .i64 0])) := fun W hW => by
    have h := pread_b (l := pkA.B) (w := W) (hV.after hW) (by rw [pkA_B]; decide)
    rw [(rdR_some (p := pkA)).2 ⟨rfl, pkA_e⟩, pkA_B] at h
    refine Calls.mono h ?_
    rintro e w' ⟨hb, ⟨p, vm, vs, vg, vw, hp, rfl, ho⟩ | ⟨hp, _⟩⟩
    · simp only [Option.some.injEq] at hp
      subst hp
      obtain ⟨a2, l2, c2, rfl⟩ := slice_of_row ho.ms
      obtain ⟨a3, l3, c3, rfl⟩ := slice_of_row ho.sv
      obtain ⟨a4, l4, c4, rfl⟩ := slice_of_row ho.gw
      obtain ⟨a5, l5, c5, rfl⟩ := slice_of_row ho.wh
      exact ⟨hb, _, _, _, _, _, _, _, _, _, _, _, _, rfl⟩
    · cases hp
  clear hV
  go_enter Tryz.func9, Tryz.ntmps9
  go_wp2_with fail
  refine HWR.out.mono ?_
  rintro e w1 ⟨rfl, hb1⟩
  have HB1 : Hid (Below w.heap.size w w1) := hb1
  clear hb1 HWR
  go_wp2_with fail
  refine (HRD.out w1 HB1.out).mono ?_
  rintro e w2 ⟨hb2, a2, l2, c2, a3, l3, c3, a4, l4, c4, a5, l5, c5, rfl⟩
  have HB2 : Hid (Below w.heap.size w w2) := HB1.out.trans (hb2.mono HB1.out.size)
  have HZ2 : Hid (w.heap.size ≤ w2.heap.size) := HB2.out.size
  clear hb2 HRD
  go_wp2_with fail
  go_ret
  exact ⟨rfl, HB2.out.alloc HZ2.out _⟩

set_option maxHeartbeats 800000 in
theorem ptextIs_bad (E : Int) (want : ByteArray) (w : World) (h : E ≠ 0) :
    Calls Tryz.prog 11 #[.string ⟨#[]⟩, .int .i64 E, .int .i64 E, .string want] w fun e w' => e = .returned (.bool true) ∧ w' = w := by
  have h1 : (E == 0) = false := by simpa using h
  have h2 : (E != 0) = true := by simpa using h
  go_enter Tryz.func11, Tryz.ntmps11
  go_wp2_with fail
  go_ret
  simp

set_option maxHeartbeats 800000 in
theorem ptextIs_ok (want : ByteArray) (w : World) :
    Calls Tryz.prog 11 #[.string want, .int .i64 0, .int .i64 0, .string want] w fun e w' => e = .returned (.bool true) ∧ w' = w := by
  go_enter Tryz.func11, Tryz.ntmps11
  go_wp2_with fail
  go_ret
  simp

set_option maxHeartbeats 3200000 in
set_option maxRecDepth 100000 in
theorem packetWrites_walk (p : Pk) (a2 : Option Addr) (l2 c2 : Nat) (a3 : Option Addr) (l3 c3 : Nat) (a4 : Option Addr) (l4 c4 : Nat) (a5 : Option Addr) (l5 c5 : Nat) (w : World) (hV : Rv w.heap.size w) (hx : PkIs w p (.slice a2 l2 c2) (.slice a3 l3 c3) (.slice a4 l4 c4) (.slice a5 l5 c5)) (hlen : p.whole = true ∨ p.sv.length + p.gw.length + p.wh.length ≤ 4611686018427387904) :
    Calls Tryz.prog 3 #[.agg #[.string p.frm, .bool p.whole, .slice a2 l2 c2, .slice a3 l3 c3, .slice a4 l4 c4, .slice a5 l5 c5]] w fun e w' => e = .returned (.bool true) ∧ Below w.heap.size w w' := by
  obtain ⟨W0, hW0⟩ : ∃ W0, W0 = w.alloc (.cells #[.string p.frm, .bool p.whole, .slice a2 l2 c2, .slice a3 l3 c3, .slice a4 l4 c4, .slice a5 l5 c5] 27) := ⟨_, rfl⟩
  have hb0 : Below w.heap.size w W0 := by rw [hW0]; exact (Below.refl _ _).alloc (Nat.le_refl _) _
  have hg0 : W0.heap[w.heap.size]? = some (.cells #[.string p.frm, .bool p.whole, .slice a2 l2 c2, .slice a3 l3 c3, .slice a4 l4 c4, .slice a5 l5 c5] 27 (0, 0)) := by rw [hW0]; exact heap_alloc_new w _
  have hz0 : w.heap.size < W0.heap.size := by rw [hW0]; simp
  have HWR : Hid (∀ W, Below W0.heap.size W0 W → Calls Tryz.prog 6 #[.agg #[.string p.frm, .bool p.whole, .slice a2 l2 c2, .slice a3 l3 c3, .slice a4 l4 c4, .slice a5 l5 c5]] W fun e w' => e = .returned (.tuple #[.string p.T, .int .i64 p.e]) ∧ Below W.heap.size W w') := fun W hW =>
    pwrite_any p _ _ _ _ W ((hx.below hb0).below hW) hlen ((hV.after hb0).after hW).tab
  have HRC : Hid (∀ W, Below W0.heap.size W0 W → Calls Tryz.prog 7 #[.agg #[.string p.frm, .bool p.whole, .slice a2 l2 c2, .slice a3 l3 c3, .slice a4 l4 c4, .slice a5 l5 c5]] W fun e w' => e = .returned (.int .i64 p.e) ∧ Below W.heap.size W w') := fun W hW => refPacket_any p _ _ _ _ W ((hx.below hb0).below hW)
  have HCK : Hid (∀ W, Below W0.heap.size W0 W → Calls Tryz.prog 10 #[.agg #[.string p.frm, .bool p.whole, .slice a2 l2 c2, .slice a3 l3 c3, .slice a4 l4 c4, .slice a5 l5 c5]] W fun e w' => e = .returned (.int .i64 p.e) ∧ Below W.heap.size W w') := fun W hW => pcheck_any p _ _ _ _ W ((hx.below hb0).below hW) hlen
  have HPB : Hid (p.e = 0 → ∀ W, Below W0.heap.size W0 W → Calls Tryz.prog 8 #[.agg #[.string p.frm, .bool p.whole, .slice a2 l2 c2, .slice a3 l3 c3, .slice a4 l4 c4, .slice a5 l5 c5]] W fun e w' => e = .returned (.string p.T) ∧ Below W.heap.size W w') := fun h0 W hW => by
    rw [Pk.T_ok h0]
    exact packetBytes_any p _ _ _ _ W ((hx.below hb0).below hW) (pk_wok h0)
  have HBG : Hid (∀ W, Below W0.heap.size W0 W → Calls Tryz.prog 9 #[] W fun e w' => e = .returned (.bool true) ∧ Below W.heap.size W w') := fun W hW => packetBegun_any ((hV.after hb0).after hW)
  have HNO : Hid (p.e ≠ 0 → p.T = ⟨#[]⟩) := fun h => Pk.T_no h
  have HBX : Hid (∀ W, Below W0.heap.size W0 W → W.heap[w.heap.size]? = some (.cells #[.string p.frm, .bool p.whole, .slice a2 l2 c2, .slice a3 l3 c3, .slice a4 l4 c4, .slice a5 l5 c5] 27 (0, 0))) := fun W hW => (hW.block _ hz0).trans hg0
  have HEND : Hid (∀ W, Below W0.heap.size W0 W → Below w.heap.size w W) := fun W hW => hb0.trans (hW.mono (by omega))
  generalize p.T = PT at *
  generalize p.e = pe at *
  obtain ⟨frm, whole, ms, sv, gw, wh⟩ := p
  simp only at HWR HRC HCK HPB HBX hg0 hW0 ⊢
  have HG0 : Hid (W0.heap[w.heap.size]? = some (.cells #[.string frm, .bool whole, .slice a2 l2 c2, .slice a3 l3 c3, .slice a4 l4 c4, .slice a5 l5 c5] 27 (0, 0))) := hg0
  obtain ⟨x0, x1, x2, x3, x4, x5⟩ := cells6 hg0
  clear hx hlen hV hb0 hz0 hg0
  go_enter Tryz.func3, Tryz.ntmps3
  go_upto_region 1 with fail
  rw [← hW0]
  clear hW0
  go_wp2_with fail
  refine (HWR.out W0 (Below.refl _ _)).mono ?_
  rintro e w1 ⟨rfl, hb1⟩
  have HB1 : Hid (Below W0.heap.size W0 w1) := hb1
  clear hb1 HWR x0 x1 x2 x3 x4 x5
  obtain ⟨x0, x1, x2, x3, x4, x5⟩ := cells6 (HBX.out w1 HB1.out)
  go_wp2_with fail
  refine (HRC.out w1 HB1.out).mono ?_
  rintro e w2 ⟨rfl, hb2⟩
  have HB2 : Hid (Below W0.heap.size W0 w2) := HB1.out.trans (hb2.mono HB1.out.size)
  clear hb2 HRC x0 x1 x2 x3 x4 x5
  obtain ⟨x0, x1, x2, x3, x4, x5⟩ := cells6 (HBX.out w2 HB2.out)
  by_cases h0 : pe = 0
  · subst h0
    have HPB2 : Hid (∀ W, Below W0.heap.size W0 W → Calls Tryz.prog 8 #[.agg #[.string frm, .bool whole, .slice a2 l2 c2, .slice a3 l3 c3, .slice a4 l4 c4, .slice a5 l5 c5]] W fun e w' => e = .returned (.string PT) ∧ Below W.heap.size W w') := HPB.out rfl
    clear HPB HNO
    go_wp2_with fail
    refine (HPB2.out w2 HB2.out).mono ?_
    rintro e w3 ⟨rfl, hb3⟩
    have HB3 : Hid (Below W0.heap.size W0 w3) := HB2.out.trans (hb3.mono HB2.out.size)
    clear hb3 HPB2 x0 x1 x2 x3 x4 x5
    go_wp2_with fail
    refine (HBG.out w3 HB3.out).mono ?_
    rintro e w4 ⟨rfl, hb4⟩
    have HB4 : Hid (Below W0.heap.size W0 w4) := HB3.out.trans (hb4.mono HB3.out.size)
    clear hb4 HBG
    obtain ⟨x0, x1, x2, x3, x4, x5⟩ := cells6 (HBX.out w4 HB4.out)
    go_wp2_with fail
    refine (HCK.out w4 HB4.out).mono ?_
    rintro e w5 ⟨rfl, hb5⟩
    have HB5 : Hid (Below W0.heap.size W0 w5) := HB4.out.trans (hb5.mono HB4.out.size)
    clear hb5 HCK x0 x1 x2 x3 x4 x5
    go_wp2_with fail
    refine (ptextIs_ok _ _).mono ?_
    rintro e w6 ⟨rfl, hw6⟩
    subst hw6
    go_wp2_with fail
    go_ret
    exact ⟨rfl, HEND.out _ HB5.out⟩
  · have hpt : PT = ⟨#[]⟩ := HNO.out h0
    subst hpt
    have hd : (pe == 0) = false := by simpa using h0
    have HN0 : Hid (pe ≠ 0) := h0
    clear h0 HPB HNO
    go_wp2_with fail
    refine (HBG.out w2 HB2.out).mono ?_
    rintro e w4 ⟨rfl, hb4⟩
    have HB4 : Hid (Below W0.heap.size W0 w4) := HB2.out.trans (hb4.mono HB2.out.size)
    clear hb4 HBG x0 x1 x2 x3 x4 x5
    obtain ⟨x0, x1, x2, x3, x4, x5⟩ := cells6 (HBX.out w4 HB4.out)
    go_wp2_with fail
    refine (HCK.out w4 HB4.out).mono ?_
    rintro e w5 ⟨rfl, hb5⟩
    have HB5 : Hid (Below W0.heap.size W0 w5) := HB4.out.trans (hb5.mono HB4.out.size)
    clear hb5 HCK x0 x1 x2 x3 x4 x5
    go_wp2_with fail
    refine (ptextIs_bad _ _ _ HN0.out).mono ?_
    rintro e w6 ⟨rfl, hw6⟩
    subst hw6
    go_wp2_with fail
    go_ret
    exact ⟨rfl, HEND.out _ HB5.out⟩

end Go.Proofs.YtdfkpehggecbaaaGreatDoor

