/- The laws CentreJoins and CentreOpens. -/
import Derived.Test.YtcledbejggmfoafGKG3
namespace Go.Proofs.Ytcledbejggmfoaf
namespace Gw
open Go.RowKit

set_option maxHeartbeats 2000000 in
set_option maxRecDepth 100000 in
theorem centreJoins_walk (a b : List Gwy) (va vb : Value) (w : World) (ha : Sl w va a) (hb : Sl w vb b) :
    Calls Try.prog 5 #[va, vb] w fun e w' => e = .returned (.bool true) ∧ Below w.heap.size w w' := by
  have HA : Hid (Sl w va a) := ha
  have HB : Hid (Sl w vb b) := hb
  have HNA : Hid (∀ m ∈ a, m.ok) := sl_ok ha
  have HNB : Hid (∀ m ∈ b, m.ok) := sl_ok hb
  clear ha hb
  go_enter Try.func5, Try.ntmps5
  go_wp2_with fail
  refine (join2_any a b _ _ _ HA.out HB.out).mono ?_
  rintro e w1 ⟨v1, rfl, hb1, hbad, hgood⟩
  have HBAD : Hid (joinE a b ≠ 0 → v1 = .slice none 0 0) := hbad
  have HGOOD : Hid (joinE a b = 0 → Own w.heap.size w1 v1 (joinL a b)) := hgood
  clear hbad hgood
  have HA1 : Hid (Sl w1 va a) := HA.out.below hb1
  have HB1 : Hid (Sl w1 vb b) := HB.out.below hb1
  have HW1 : Hid (Below w.heap.size w w1) := hb1
  clear hb1
  by_cases hc : chk a = 0
  · have hec : (chk a == 0) = true := by simpa using hc
    by_cases hd : chk b = 0
    · have hed : (chk b == 0) = true := by simpa using hd
      have HE : Hid (joinE a b = if 6 < (joinL a b).length then 2 else 0) := joinE_good hc hd
      have hz := chk_zero hc
      have hz2 := chk_zero hd
      have HRI : Hid (Rise a) := hz.2.1
      have hla := hz.1
      have hlb := hz2.1
      have HD : Hid (chk b = 0) := hd
      clear hz hz2 hc hd
      go_wp2_with fail
      refine (refCheck_any a _ _ HA1.out).mono ?_
      rintro e w2 ⟨rfl, hb2⟩
      have HA2 : Hid (Sl w2 va a) := HA1.out.below hb2
      have HB2 : Hid (Sl w2 vb b) := HB1.out.below hb2
      have HW2 : Hid (Below w1.heap.size w1 w2) := hb2
      clear hb2
      go_wp2_with fail
      refine (refCheck_any b _ _ HB2.out).mono ?_
      rintro e w3 ⟨rfl, hb3⟩
      have HA3 : Hid (Sl w3 va a) := HA2.out.below hb3
      have HB3 : Hid (Sl w3 vb b) := HB2.out.below hb3
      have HW3 : Hid (Below w1.heap.size w1 w3) := HW2.out.trans (hb3.mono HW2.out.size)
      clear hb3
      go_wp2_with fail
      refine (refJoin_any a b va vb _ HA3.out HB3.out (by omega) (by omega) HRI.out).mono ?_
      rintro e w4 ⟨v4, rfl, HS4, hb4⟩
      have HW4 : Hid (Below w1.heap.size w1 w4) := HW3.out.trans (hb4.mono HW3.out.size)
      clear hb4
      obtain ⟨p4, c4, hv4⟩ : ∃ p c, v4 = .slice p (joinL a b).length c := by
        obtain ⟨p, c, h, _⟩ := HS4.out
        exact ⟨p, c, h⟩
      subst hv4
      have hjl := joinL_len b a
      have HJ : Hid (∀ m ∈ joinL a b, m.ok) := ns_join b a HNA.out HNB.out
      by_cases h20 : 6 < (joinL a b).length
      · have hje : joinE a b = 2 := HE.out.trans (if_pos h20)
        have hv1 := HBAD.out (by rw [hje]; decide)
        subst hv1
        rw [hje]
        clear hje
        go_wp2_with fail
        refine (begun_any _).mono ?_
        rintro e w5 ⟨rfl, hb5⟩
        have HW5 : Hid (Below w1.heap.size w1 w5) := HW4.out.trans (hb5.mono HW4.out.size)
        clear hb5
        go_wp2_with (go_at_call 21; refine (are_bad _ _ _ _ (by decide) (by decide)).mono ?_; rintro e w6 ⟨rfl, hb6⟩)
        go_ret
        have h16 := HW5.out.trans (hb6.mono HW5.out.size)
        exact ⟨rfl, HW1.out.trans (h16.mono HW1.out.size)⟩
      · have hje : joinE a b = 0 := HE.out.trans (if_neg h20)
        have HO := HGOOD.out hje
        have HO1 : Hid (Own w.heap.size w1 v1 (joinL a b)) := HO
        have HJE : Hid (joinE a b = 0) := hje
        clear hje HO HBAD HGOOD
        go_wp2_with fail
        refine (begun_any _).mono ?_
        rintro e w5 ⟨rfl, hb5⟩
        have HW5 : Hid (Below w1.heap.size w1 w5) := HW4.out.trans (hb5.mono HW4.out.size)
        have HS5 : Hid (Sl w5 (.slice p4 (joinL a b).length c4) (joinL a b)) := HS4.out.below hb5
        have HS6 : Hid (Sl w5 v1 (joinL a b)) := (own_names HO1.out HJ.out).below HW5.out
        clear hb5
        go_wp2_with (go_at_call 21; refine (are_ok (joinL a b) _ _ _ _ _ HD.out (HJE.out.trans HD.out.symm) HS6.out HS5.out (by omega)).mono ?_; rintro e w6 ⟨rfl, hb6⟩)
        go_ret
        have h16 := HW5.out.trans (hb6.mono HW5.out.size)
        exact ⟨ret_bool (by simp), HW1.out.trans (h16.mono HW1.out.size)⟩
    · have hed : (chk b == 0) = false := by simpa using hd
      have HNE : Hid (chk b ≠ 0) := hd
      have HJE : Hid (joinE a b = chk b) := joinE_bad2 hc hd
      have hv1 := HBAD.out (by rw [HJE.out]; exact hd)
      subst hv1
      clear hc hd HBAD HGOOD
      go_wp2_with fail
      refine (refCheck_any a _ _ HA1.out).mono ?_
      rintro e w2 ⟨rfl, hb2⟩
      have HB2 : Hid (Sl w2 vb b) := HB1.out.below hb2
      have HW2 : Hid (Below w1.heap.size w1 w2) := hb2
      clear hb2
      go_wp2_with fail
      refine (refCheck_any b _ _ HB2.out).mono ?_
      rintro e w3 ⟨rfl, hb3⟩
      have HW3 : Hid (Below w1.heap.size w1 w3) := HW2.out.trans (hb3.mono HW2.out.size)
      clear hb3
      go_wp2_with fail
      refine (begun_any _).mono ?_
      rintro e w5 ⟨rfl, hb5⟩
      have HW5 : Hid (Below w1.heap.size w1 w5) := HW3.out.trans (hb5.mono HW3.out.size)
      clear hb5
      go_wp2_with (go_at_call 21; refine (are_bad _ _ _ _ HNE.out HJE.out).mono ?_; rintro e w6 ⟨rfl, hb6⟩)
      go_ret
      have h16 := HW5.out.trans (hb6.mono HW5.out.size)
      exact ⟨ret_bool (by simp), HW1.out.trans (h16.mono HW1.out.size)⟩
  · have hec : (chk a == 0) = false := by simpa using hc
    have HNE : Hid (chk a ≠ 0) := hc
    have HJE : Hid (joinE a b = chk a) := joinE_bad1 hc
    have hv1 := HBAD.out (by rw [HJE.out]; exact hc)
    subst hv1
    clear hc HBAD HGOOD
    go_wp2_with fail
    refine (refCheck_any a _ _ HA1.out).mono ?_
    rintro e w2 ⟨rfl, hb2⟩
    have HW2 : Hid (Below w1.heap.size w1 w2) := hb2
    clear hb2
    go_wp2_with fail
    refine (begun_any _).mono ?_
    rintro e w5 ⟨rfl, hb5⟩
    have HW5 : Hid (Below w1.heap.size w1 w5) := HW2.out.trans (hb5.mono HW2.out.size)
    clear hb5
    go_wp2_with (go_at_call 21; refine (are_bad _ _ _ _ HNE.out HJE.out).mono ?_; rintro e w6 ⟨rfl, hb6⟩)
    go_ret
    have h16 := HW5.out.trans (hb6.mono HW5.out.size)
    exact ⟨ret_bool (by simp), HW1.out.trans (h16.mono HW1.out.size)⟩

end Gw
end Go.Proofs.Ytcledbejggmfoaf
