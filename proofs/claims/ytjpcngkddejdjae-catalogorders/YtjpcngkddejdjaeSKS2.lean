/- What must be in any case of services; the law CatalogOrders. -/
import Derived.Test.YtjpcngkddejdjaeSKS1
import Derived.Test.YtjpcngkddejdjaeSK9
namespace Go.Proofs.Ytjpcngkddejdjae
namespace Sv
open Go.RowKit

def s0 : Svc := ⟨⟨#[110]⟩, ⟨#[105]⟩, ⟨#[115]⟩, ⟨#[]⟩, 0, 0, true, 0, false⟩
def s1 : Svc := ⟨⟨#[110]⟩, ⟨#[105]⟩, ⟨#[115]⟩, ⟨#[]⟩, 0, 0, true, 1, false⟩
theorem at_nil (t : Svc) : At [] t 0 false := ⟨by simp, fun j h => by omega, fun j h h2 => by simp at h2, by simp⟩
theorem s1_ok : s1.ok := ⟨by decide, by decide, by decide, by decide⟩
theorem s0_ok : s0.ok := ⟨by decide, by decide, by decide, by decide⟩
theorem chk_s1 : chk [s1] = 0 := by rw [chk_one]; decide
theorem join_s1 : joinE [] [s1] = 0 := by rw [joinE_good chk_nil chk_s1]; rfl
theorem toList_mk (l : Array UInt8) : (⟨l⟩ : ByteArray).toList = l.toList := Lib.toList_data _
theorem find_s1 : findL [s1] ⟨#[115]⟩ ⟨#[]⟩ = [s1] := by
  have h : keep ⟨#[115]⟩ ⟨#[]⟩ s1 = true := by simp [keep, s1, toList_mk]
  simp [findL, h]
theorem findE_s1 : findE ⟨#[115]⟩ ⟨#[]⟩ = 0 := by decide

set_option maxHeartbeats 1600000 in
theorem begun_any (w : World) : Calls Try.prog 9 #[] w fun e w' => e = .returned (.bool true) ∧ Below w.heap.size w w' := by
  have HR : Hid (∀ w, Calls Try.prog 15 #[.slice none 0 0, .agg #[.string ⟨#[110]⟩, .string ⟨#[105]⟩, .string ⟨#[115]⟩, .string ⟨#[]⟩, .int .i64 0, .int .i64 0, .bool true, .int .i64 0, .bool false]] w fun e w' => ∃ v', e = .returned (.tuple #[v', .int .i64 0]) ∧ Below w.heap.size w w' ∧ Hid (Own w.heap.size w' v' [s1])) := fun w => by
    refine (register_good [] (.slice none 0 0) s0 w (sl_nil _) chk_nil s0_ok 0 false (at_nil _)).mono ?_
    rintro e w1 ⟨v1, rfl, hb1, _, h1⟩
    have hg : reg [] 0 false s0 = s1 := rfl
    rw [hg] at h1 ⊢
    rw [join_s1]
    exact ⟨v1, rfl, hb1, h1 join_s1⟩
  have HF : Hid (∀ v w base, Own base w v [s1] → Calls Try.prog 22 #[v, .string ⟨#[115]⟩, .string ⟨#[]⟩] w fun e w' => ∃ v', e = .returned (.tuple #[v', .int .i64 0]) ∧ Hid (Own w.heap.size w' v' [s1]) ∧ Below w.heap.size w w') := fun v w base ho => by
    refine (findS_good [s1] v ⟨#[115]⟩ ⟨#[]⟩ w (own_names ho (by intro m hm; simp at hm; subst hm; exact s1_ok)) chk_s1 (by decide) (by decide) findE_s1).mono ?_
    rintro e w1 ⟨v1, rfl, h1, hb1⟩
    rw [find_s1] at h1
    exact ⟨v1, rfl, h1, hb1⟩
  go_enter Try.func9, Try.ntmps9
  go_wp2_with fail
  refine (HR.out _).mono ?_
  rintro e w1 ⟨v1, rfl, hb1, HO1⟩
  go_wp2_with fail
  refine (HF.out v1 w1 _ HO1.out).mono ?_
  rintro e w2 ⟨v2, rfl, HO2, hb2⟩
  have HB : Hid (Below w.heap.size w w2) := hb1.trans (hb2.mono hb1.size)
  clear hb1 hb2 HR HF
  obtain ⟨g, c, hv2⟩ := own_form HO2.out 0 (by simp)
  subst hv2
  have c7 : w2.cell? ⟨g, 7, none⟩ = some (.int .i64 1) := World.ownsRow.cellAt HO2.out 7 (by decide)
  simp only [List.length_cons, List.length_nil]
  go_wp2_with fail
  go_ret
  exact ⟨rfl, HB.out⟩

set_option maxHeartbeats 16000000 in
set_option maxRecDepth 100000 in
theorem catalogOrders_walk (a b c : List Svc) (va vb vc : Value) (w : World) (ha : Sl w va a) (hb : Sl w vb b) (hc : Sl w vc c) :
    Calls Try.prog 8 #[va, vb, vc] w fun e w' => e = .returned (.bool true) ∧ Below w.heap.size w w' := by
  have SA : Hid (Sl w va a) := ha
  have SB : Hid (Sl w vb b) := hb
  have SC : Hid (Sl w vc c) := hc
  have HLX : Hid (∀ u v : List Svc, (jx u v).length ≤ 40) := jx_len
  have HEQ : Hid ((joinE a b == 0) = (joinE b a == 0)) := by
    show (joinE a b == 0) = (joinE b a == 0)
    rw [Bool.eq_iff_iff, beq_iff_eq, beq_iff_eq]
    exact ⟨joinE_comm0, joinE_comm0⟩
  have HAB : Hid (joinE a b = 0 → joinE (jx a b) a = 0 ∧ jx (jx a b) a = jx a b) := jx_absorb
  have HAS : Hid (joinE a b = 0 → joinE (jx a b) c = 0 → joinE b c = 0 → joinE a (jx b c) = 0 ∧ jx (jx a b) c = jx a (jx b c)) := jx_assoc
  have HCM : Hid (jx b a = jx a b) := jx_comm b a
  clear ha hb hc
  go_enter Try.func8, Try.ntmps8
  go_wp2_with fail
  refine (begun_any _).mono ?_
  rintro e x0 ⟨rfl, hb⟩
  have SA0 : Hid (Sl x0 va a) := SA.out.below hb
  have SB0 : Hid (Sl x0 vb b) := SB.out.below hb
  have SC0 : Hid (Sl x0 vc c) := SC.out.below hb
  have HB0 : Hid (Below w.heap.size w x0) := hb
  clear hb SA SB SC
  go_wp2_with fail
  refine (join_jx a b va vb _ SA0.out SB0.out).mono ?_
  rintro e x1 ⟨vp, rfl, SP, hb⟩
  have SA1 : Hid (Sl x1 va a) := SA0.out.below hb
  have SB1 : Hid (Sl x1 vb b) := SB0.out.below hb
  have SC1 : Hid (Sl x1 vc c) := SC0.out.below hb
  have HB1 : Hid (Below w.heap.size w x1) := HB0.out.trans (hb.mono HB0.out.size)
  clear hb SA0 SB0 SC0 HB0
  go_wp2_with fail
  refine (join_jx b a vb va _ SB1.out SA1.out).mono ?_
  rintro e x2 ⟨vq, rfl, SQ, hb⟩
  have SA2 : Hid (Sl x2 va a) := SA1.out.below hb
  have SB2 : Hid (Sl x2 vb b) := SB1.out.below hb
  have SC2 : Hid (Sl x2 vc c) := SC1.out.below hb
  have SP2 : Hid (Sl x2 vp (jx a b)) := SP.out.below hb
  have SQ2 : Hid (Sl x2 vq (jx a b)) := by have h := SQ.out; rw [HCM.out] at h; exact h
  have HB2 : Hid (Below w.heap.size w x2) := HB1.out.trans (hb.mono HB1.out.size)
  clear hb SA1 SB1 SC1 HB1 SP SQ
  rcases hE1 : (joinE a b == 0) with _ | _
  · have hE2 : (joinE b a == 0) = false := HEQ.out.symm.trans hE1
    have hE1n : (joinE a b != 0) = true := by rw [bne, hE1]; rfl
    go_wp2_with fail
    refine (same_eq (jx a b) vp vq _ SP2.out SQ2.out (by have := HLX.out a b; omega)).mono ?_
    rintro e x3 ⟨rfl, hb⟩
    have HB3 : Hid (Below w.heap.size w x3) := HB2.out.trans (hb.mono HB2.out.size)
    clear hb
    go_wp2_with fail
    go_ret
    exact ⟨rfl, HB3.out⟩
  · have hE2 : (joinE b a == 0) = true := HEQ.out.symm.trans hE1
    have hE1n : (joinE a b != 0) = false := by rw [bne, hE1]; rfl
    have hz1 : joinE a b = 0 := by simpa using hE1
    obtain ⟨hz6, hj6⟩ := HAB.out hz1
    have HZ1 : Hid (joinE a b = 0) := hz1
    have HJ6 : Hid (jx (jx a b) a = jx a b) := hj6
    have hE6 : (joinE (jx a b) a == 0) = true := by simpa using hz6
    clear hz1 hz6 hj6 HAB
    go_wp2_with fail
    refine (same_eq (jx a b) vp vq _ SP2.out SQ2.out (by have := HLX.out a b; omega)).mono ?_
    rintro e x3 ⟨rfl, hb⟩
    have SA3 : Hid (Sl x3 va a) := SA2.out.below hb
    have SB3 : Hid (Sl x3 vb b) := SB2.out.below hb
    have SC3 : Hid (Sl x3 vc c) := SC2.out.below hb
    have SP3 : Hid (Sl x3 vp (jx a b)) := SP2.out.below hb
    have HB3 : Hid (Below w.heap.size w x3) := HB2.out.trans (hb.mono HB2.out.size)
    clear hb SA2 SB2 SC2 SP2 SQ2 HB2
    go_wp2_with fail
    refine (join_jx (jx a b) a vp va _ SP3.out SA3.out).mono ?_
    rintro e x4 ⟨vg, rfl, SG, hb⟩
    have SA4 : Hid (Sl x4 va a) := SA3.out.below hb
    have SB4 : Hid (Sl x4 vb b) := SB3.out.below hb
    have SC4 : Hid (Sl x4 vc c) := SC3.out.below hb
    have SP4 : Hid (Sl x4 vp (jx a b)) := SP3.out.below hb
    have SG4 : Hid (Sl x4 vg (jx a b)) := by have h := SG.out; rw [HJ6.out] at h; exact h
    have HB4 : Hid (Below w.heap.size w x4) := HB3.out.trans (hb.mono HB3.out.size)
    clear hb SA3 SB3 SC3 SP3 SG HB3
    go_wp2_with fail
    refine (join_jx (jx a b) c vp vc _ SP4.out SC4.out).mono ?_
    rintro e x5 ⟨vr, rfl, SR, hb⟩
    have SA5 : Hid (Sl x5 va a) := SA4.out.below hb
    have SB5 : Hid (Sl x5 vb b) := SB4.out.below hb
    have SC5 : Hid (Sl x5 vc c) := SC4.out.below hb
    have SP5 : Hid (Sl x5 vp (jx a b)) := SP4.out.below hb
    have SG5 : Hid (Sl x5 vg (jx a b)) := SG4.out.below hb
    have HB5 : Hid (Below w.heap.size w x5) := HB4.out.trans (hb.mono HB4.out.size)
    clear hb SA4 SB4 SC4 SP4 SG4 HB4
    go_wp2_with fail
    refine (join_jx b c vb vc _ SB5.out SC5.out).mono ?_
    rintro e x6 ⟨vs, rfl, SS, hb⟩
    have SA6 : Hid (Sl x6 va a) := SA5.out.below hb
    have SP6 : Hid (Sl x6 vp (jx a b)) := SP5.out.below hb
    have SG6 : Hid (Sl x6 vg (jx a b)) := SG5.out.below hb
    have SR6 : Hid (Sl x6 vr (jx (jx a b) c)) := SR.out.below hb
    have HB6 : Hid (Below w.heap.size w x6) := HB5.out.trans (hb.mono HB5.out.size)
    clear hb SA5 SB5 SC5 SP5 SG5 HB5 SR
    go_wp2_with fail
    refine (join_jx a (jx b c) va vs _ SA6.out SS.out).mono ?_
    rintro e x7 ⟨vt, rfl, ST, hb⟩
    have SP7 : Hid (Sl x7 vp (jx a b)) := SP6.out.below hb
    have SG7 : Hid (Sl x7 vg (jx a b)) := SG6.out.below hb
    have SR7 : Hid (Sl x7 vr (jx (jx a b) c)) := SR6.out.below hb
    have HB7 : Hid (Below w.heap.size w x7) := HB6.out.trans (hb.mono HB6.out.size)
    clear hb SA6 SP6 SG6 HB6 SR6 SS
    go_wp2_with fail
    refine (same_eq (jx a b) vg vp _ SG7.out SP7.out (by have := HLX.out a b; omega)).mono ?_
    rintro e x8 ⟨rfl, hb⟩
    have SR8 : Hid (Sl x8 vr (jx (jx a b) c)) := SR7.out.below hb
    have ST8 : Hid (Sl x8 vt (jx a (jx b c))) := ST.out.below hb
    have HB8 : Hid (Below w.heap.size w x8) := HB7.out.trans (hb.mono HB7.out.size)
    clear hb SP7 SG7 SR7 ST HB7
    rcases hE3 : (joinE (jx a b) c != 0) with _ | _
    · rcases hE4 : (joinE b c != 0) with _ | _
      · have hz3 : joinE (jx a b) c = 0 := by simpa using hE3
        have hz4 : joinE b c = 0 := by simpa using hE4
        obtain ⟨hz5, hj5⟩ := HAS.out HZ1.out hz3 hz4
        have hE5 : (joinE a (jx b c) == 0) = true := by simpa using hz5
        have ST9 : Hid (Sl x8 vt (jx (jx a b) c)) := by have h := ST8.out; rw [← hj5] at h; exact h
        clear hz3 hz4 hz5 hj5 HAS
        go_wp2_with fail
        refine (same_eq (jx (jx a b) c) vr vt _ SR8.out ST9.out (by have := HLX.out (jx a b) c; omega)).mono ?_
        rintro e x9 ⟨rfl, hb⟩
        have HB9 : Hid (Below w.heap.size w x9) := HB8.out.trans (hb.mono HB8.out.size)
        clear hb
        go_wp2_with fail
        go_ret
        exact ⟨rfl, HB9.out⟩
      · go_wp2_with fail
        go_ret
        exact ⟨rfl, HB8.out⟩
    · go_wp2_with fail
      go_ret
      exact ⟨rfl, HB8.out⟩

end Sv
end Go.Proofs.Ytjpcngkddejdjae
