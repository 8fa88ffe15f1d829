/- The document's own Drop; the law CatalogRegisters. -/
import Derived.Test.YtjpcngkddejdjaeSKSD
namespace Go.Proofs.Ytjpcngkddejdjae
namespace Sv
open Go.RowKit

set_option maxHeartbeats 6400000 in
set_option maxRecDepth 100000 in
theorem refDrop_any (ms : List Svc) (v : Value) (node idn : ByteArray) (w : World) (hv : Sl w v ms) (h0 : chk ms = 0) (hs : node.size ≤ maxLen) (ht : idn.size ≤ maxLen) (p : Nat) (f : Bool) (hat : At ms ⟨node, idn, ⟨#[]⟩, ⟨#[]⟩, 0, 0, false, 0, false⟩ p f) :
    Calls Try.prog 18 #[v, .string node, .string idn] w fun e w' => ∃ v', e = .returned (.tuple #[v', .int .i64 (dropE ms p f node idn)]) ∧ Below w.heap.size w w' ∧ Hid (dropE ms p f node idn = 0 → Sl w' v' (RL.put ms (drp ms p f) p f)) := by
  have hz := chk_zero h0
  have hlen := hz.1
  have HR : Hid (Rise ms) := hz.2.1
  have HV : Hid (Sl w v ms) := hv
  have hsA : Hid (∀ s : ByteArray, (s = node ∨ s = idn) → s.size ≤ maxLen) := by rintro s (rfl | rfl) <;> assumption
  have HAT : Hid (At ms ⟨node, idn, ⟨#[]⟩, ⟨#[]⟩, 0, 0, false, 0, false⟩ p f) := hat
  have HST : Hid (f = true → ∀ W, Sl W v ms → Calls Try.prog 38 #[v, .agg #[.string (goneS (fnd ms p f)).node, .string (goneS (fnd ms p f)).idn, .string (goneS (fnd ms p f)).name, .string (goneS (fnd ms p f)).tag, .int .i64 (goneS (fnd ms p f)).addr, .int .i64 (goneS (fnd ms p f)).port, .bool (goneS (fnd ms p f)).passing, .int .i64 (goneS (fnd ms p f)).version, .bool (goneS (fnd ms p f)).gone]] W fun e w' => ∃ v', e = .returned (.tuple #[v', .int .i64 (setE ms p f (goneS (fnd ms p f)))]) ∧ Below W.heap.size W w' ∧ Hid (setE ms p f (goneS (fnd ms p f)) = 0 → Sl w' v' (RL.put ms (drp ms p f) p f))) := fun hf W hW => by
    subst hf
    have hp := (hat.is.1 rfl).1
    have hf2 : fnd ms p true = ms.getD p dm := if_pos rfl
    have hok : (goneS (fnd ms p true)).ok := by
      have h : (fnd ms p true).ok := by rw [hf2]; exact ns_get (sl_ok hv) p
      exact h
    exact refSet_any ms v (goneS (fnd ms p true)) W hW h0 hok p true (RL.at_of ord dm keyed hz.2.1 hp (ord_zero.2 (by rw [← hf2]; exact ⟨rfl, rfl⟩)))
  have HD : Hid (dropE ms p f node idn = if (labB node && labB idn) = true then (if (f && !(fnd ms p f).gone) = true then setE ms p f (goneS (fnd ms p f)) else 5) else 1) := rfl
  have HFT : Hid (f = true → fnd ms p f = ms.getD p dm) := fun h => if_pos h
  generalize dropE ms p f node idn = de at *
  generalize setE ms p f (goneS (fnd ms p f)) = se at *
  generalize RL.put ms (drp ms p f) p f = pl at *
  clear hv h0 hz hat
  rcases h1 : labB node with _ | _
  · have HN : Hid (de = 1) := (show de = 1 by rw [HD.out, h1]; rfl)
    go_enter Try.func18, Try.ntmps18
    go_wp2_with (go_at_call 23; refine (isLabel_any _ _ (hsA.out _ (by simp))).mono ?_; rintro e w' ⟨rfl, rfl⟩; rw [h1])
    go_ret2
    exact ⟨_, by rw [HN.out]; rfl, Below.refl _ _, fun h => by rw [HN.out] at h; cases h⟩
  · rcases h2 : labB idn with _ | _
    · have HN : Hid (de = 1) := (show de = 1 by rw [HD.out, h1, h2]; rfl)
      go_enter Try.func18, Try.ntmps18
      go_wp2_with (go_at_call 23; refine (isLabel_any _ _ (hsA.out _ (by simp))).mono ?_; rintro e w' ⟨rfl, rfl⟩; first | rw [h1] | rw [h2])
      go_ret2
      exact ⟨_, by rw [HN.out]; rfl, Below.refl _ _, fun h => by rw [HN.out] at h; cases h⟩
    · have HN : Hid (de = if (f && !(fnd ms p f).gone) = true then se else 5) := (show de = _ by rw [HD.out, h1, h2]; rfl)
      clear HD
      go_enter Try.func18, Try.ntmps18
      go_wp2_with (go_at_call 23; refine (isLabel_any _ _ (hsA.out _ (by simp))).mono ?_; rintro e w' ⟨rfl, hw⟩; have hw2 := hw.symm; clear hw; subst hw2; first | rw [h1] | rw [h2])
      refine (refAt_any ms _ node idn _ HV.out (by omega)).mono ?_
      rintro e w1 ⟨r, rfl, hI, hw⟩
      have hw2 := hw.symm
      clear hw
      subst hw2
      have hrp := atI_at (t := ⟨node, idn, ⟨#[]⟩, ⟨#[]⟩, 0, 0, false, 0, false⟩) hI.out HAT.out HR.out
      clear hI
      cases f
      · have hr1 : r = -1 := hrp.2 rfl
        subst hr1
        have HN5 : Hid (de = 5) := (show de = 5 by rw [HN.out]; rfl)
        go_wp2_with fail
        go_ret2
        exact ⟨_, by rw [HN5.out]; rfl, Below.refl _ _, fun h => by rw [HN5.out] at h; cases h⟩
      · have hr1 : r = (p : Int) := hrp.1 rfl
        subst hr1
        have hp : p < ms.length := (HAT.out.is.1 rfl).1
        have hf2 := HFT.out rfl
        obtain ⟨pa, ca, hva, _, hrow⟩ := HV.out
        subst hva
        obtain ⟨b3, o3, hp3, hl3, hr3⟩ : ∃ b_1 off, pa = some ⟨b_1, off, none⟩ ∧ b_1 < w.heap.size ∧ Row w b_1 off ms := by
          rcases hrow with h | h
          · rw [h] at hp; simp at hp
          · exact h
        subst hp3
        obtain ⟨d0, d1, d2, d3, d4, d5, d6, d7, d8⟩ := hr3 p hp
        clear hr3 hrow hrp
        have HSQ := HST.out rfl
        have hN2 := HN.out
        clear HST HN
        rw [hf2] at HSQ hN2
        clear hf2 HFT
        generalize ms.getD p dm = x at *
        obtain ⟨k_node, k_idn, k_name, k_tag, k_addr, k_port, k_passing, k_version, k_gone⟩ := x
        simp only at d0 d1 d2 d3 d4 d5 d6 d7 d8
        cases k_gone
        · have HNS : Hid (de = se) := hN2
          clear hN2
          have HSR : Hid (∀ W, Sl W (.slice (some ⟨b3, o3, none⟩) ms.length ca) ms → Calls Try.prog 38 #[.slice (some ⟨b3, o3, none⟩) ms.length ca, .agg #[.string k_node, .string k_idn, .string k_name, .string k_tag, .int .i64 k_addr, .int .i64 k_port, .bool k_passing, .int .i64 k_version, .bool true]] W fun e w' => ∃ v', e = .returned (.tuple #[v', .int .i64 se]) ∧ Below W.heap.size W w' ∧ Hid (se = 0 → Sl w' v' pl)) := HSQ
          clear HSQ
          have HBY : Hid (Below w.heap.size w (w.alloc (.cells #[.string k_node, .string k_idn, .string k_name, .string k_tag, .int .i64 k_addr, .int .i64 k_port, .bool k_passing, .int .i64 k_version, .bool true] 28))) := (Below.refl _ _).alloc (Nat.le_refl _) _
          go_wp2_with fail
          refine (HSR.out _ (HV.out.below HBY.out)).mono ?_
          rintro e w3 ⟨v3, rfl, hb3, hv3⟩
          have HB3 : Hid (Below w.heap.size w w3) := HBY.out.trans (hb3.mono (by simp))
          clear hb3
          go_wp2_with fail
          go_ret2
          exact ⟨v3, by rw [HNS.out]; rfl, HB3.out, fun h => hv3.out (HNS.out.symm.trans h)⟩
        · have HN5 : Hid (de = 5) := hN2
          clear hN2 HSQ
          go_wp2_with fail
          go_ret2
          exact ⟨_, by rw [HN5.out]; rfl, Below.refl _ _, fun h => by rw [HN5.out] at h; cases h⟩

end Sv
end Go.Proofs.Ytjpcngkddejdjae
