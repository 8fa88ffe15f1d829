/- The document's own Open; the law CentreOpens. -/
import Derived.Test.YtcledbejggmfoafGKG3
namespace Go.Proofs.Ytcledbejggmfoaf
namespace Gw
open Go.RowKit

theorem opn_e (ms : List Gwy) (p : Nat) (f : Bool) (name : ByteArray) (addr : Int) (hv : 0 ≤ (fnd ms p f).version) :
    (opn ms p f name addr).e = if labB name = true then (if within addr 0 4294967295 = true then (if (fnd ms p f).version + 1 ≤ 1000000 then 0 else 3) else 3) else 1 := by
  have h : (within ((fnd ms p f).version + 1) 1 1000000 = true) ↔ (fnd ms p f).version + 1 ≤ 1000000 := by simp [within]; omega
  show (if labB name = true then (if within addr 0 4294967295 = true then (if within ((fnd ms p f).version + 1) 1 1000000 = true then (0 : Int) else 3) else 3) else 1) = _
  by_cases h3 : (fnd ms p f).version + 1 ≤ 1000000
  · rw [if_pos (h.2 h3), if_pos h3]
  · rw [if_neg (fun e => h3 (h.1 e)), if_neg h3]

theorem opn_new {ms : List Gwy} {p : Nat} {f : Bool} {name : ByteArray} {addr : Int} (hf : f = true) : newE (opn ms p f name addr) (ms.getD p dm) = true := by
  rw [newE_def]
  have hv : (opn ms p f name addr).version = (ms.getD p dm).version + 1 := by
    show (fnd ms p f).version + 1 = _
    rw [fnd, if_pos hf]
  rw [if_neg (by omega)]
  exact decide_eq_true (by omega)

/-- The document's errno of Open, of gateways that are right. -/
def openE (ms : List Gwy) (p : Nat) (f : Bool) (name : ByteArray) (addr : Int) : Int :=
  if (opn ms p f name addr).e = 0 then (if 6 < (RL.put ms (opn ms p f name addr) p f).length then 2 else 0) else (opn ms p f name addr).e

theorem openE_join {ms : List Gwy} (h0 : chk ms = 0) {p : Nat} {f : Bool} {name : ByteArray} {addr : Int} (hat : At ms ⟨name, 0, 0⟩ p f) :
    joinE ms [opn ms p f name addr] = openE ms p f name addr ∧ joinL ms [opn ms p f name addr] = RL.put ms (opn ms p f name addr) p f := by
  have h1 : At ms (opn ms p f name addr) p f := at_key (by rfl) hat
  have h2 : joinL ms [opn ms p f name addr] = RL.put ms (opn ms p f name addr) p f := (put_hear h1 (fun hf => opn_new hf)).symm
  refine ⟨?_, h2⟩
  unfold openE
  by_cases he : (opn ms p f name addr).e = 0
  · rw [if_pos he, joinE_good h0 (by rw [chk_one]; exact he), h2]
  · rw [if_neg he, joinE_bad2 h0 (by rw [chk_one]; exact he), chk_one]

theorem put_ok {ms : List Gwy} {m : Gwy} {p : Nat} {f : Bool} (h : ∀ x ∈ ms, x.ok) (hm : m.ok) : ∀ x ∈ RL.put ms m p f, x.ok := fun x hx => by
  unfold RL.put at hx
  rcases List.mem_append.1 hx with hx | hx
  · exact h x (List.mem_of_mem_take hx)
  · rcases List.mem_cons.1 hx with rfl | hx
    · exact hm
    · exact h x (List.mem_of_mem_drop hx)

set_option maxHeartbeats 3200000 in
set_option maxRecDepth 100000 in
theorem refOpen_any (ms : List Gwy) (v : Value) (name : ByteArray) (addr : Int) (w : World) (hv : Sl w v ms) (h0 : chk ms = 0) (hs : name.size ≤ maxLen) (p : Nat) (f : Bool) (hat : At ms ⟨name, 0, 0⟩ p f) :
    Calls Try.prog 18 #[v, .string name, .int .i64 addr] w fun e w' => ∃ v', e = .returned (.tuple #[v', .int .i64 (openE ms p f name addr)]) ∧ Below w.heap.size w w' ∧ Hid (openE ms p f name addr = 0 → Sl w' v' (RL.put ms (opn ms p f name addr) p f)) := by
  have hz := chk_zero h0
  have hlen := hz.1
  have hver := fnd_ver hz.2.2 hat
  have HD : Hid ((opn ms p f name addr).e = if labB name = true then (if within addr 0 4294967295 = true then (if (fnd ms p f).version + 1 ≤ 1000000 then 0 else 3) else 3) else 1) := opn_e ms p f name addr hver.1
  have HAT : Hid (At ms ⟨name, 0, 0⟩ p f) := hat
  have HR : Hid (Rise ms) := hz.2.1
  have HG : Hid (opn ms p f name addr = ⟨name, addr, (fnd ms p f).version + 1⟩) := rfl
  have HA1 : Hid (At ms (opn ms p f name addr) p f) := at_key (by rfl) hat
  have HOK : Hid (∀ m ∈ RL.put ms (opn ms p f name addr) p f, m.ok) := put_ok (sl_ok hv) hs
  have HE : Hid (openE ms p f name addr = if (opn ms p f name addr).e = 0 then (if 6 < (RL.put ms (opn ms p f name addr) p f).length then 2 else 0) else (opn ms p f name addr).e) := rfl
  have hpl : (RL.put ms (opn ms p f name addr) p f).length ≤ 7 := by
    have h := RL.put_len ord dm HA1.out
    rw [h]; split <;> omega
  have HPT : Hid (∀ W, Sl W v ms → Calls Try.prog 42 #[v, .agg #[.string name, .int .i64 addr, .int .i64 ((fnd ms p f).version + 1)]] W fun e w' => ∃ v', e = .returned v' ∧ Own (W.heap.size + 1) w' v' (RL.put ms (opn ms p f name addr) p f) ∧ Below W.heap.size W w') := fun W hW => refPut_any ms v (opn ms p f name addr) W hW (by omega) HR.out p f HA1.out
  have HV : Hid (Sl w v ms) := hv
  have HFT : Hid (f = true → fnd ms p f = ms.getD p dm) := fun h => if_pos h
  have HFF : Hid (f = false → (fnd ms p f).version = 0) := fun h => by show (fnd ms p f).version = 0; rw [fnd, if_neg (by rw [h]; exact Bool.false_ne_true)]; rfl
  generalize openE ms p f name addr = oe at *
  generalize RL.put ms (opn ms p f name addr) p f = pl at *
  generalize (opn ms p f name addr).e = ge at *
  generalize hvv : (fnd ms p f).version = V at *
  have HVV : Hid ((fnd ms p f).version = V) := hvv
  obtain ⟨hv0, hv1⟩ := hver
  clear hv h0 hz hat hvv HG HA1
  generalize hpn : pl.length = np at *
  have HPN : Hid (pl.length = np) := hpn
  clear hpn
  rcases hl : labB name with _ | _
  · have HO : Hid (oe = 1) := (show oe = 1 by rw [HE.out, HD.out, hl]; rfl)
    go_enter Try.func18, Try.ntmps18
    go_wp2_with (go_at_call 26; refine (isLabel_any _ _ hs).mono ?_; rintro e w' ⟨rfl, rfl⟩; rw [hl])
    go_ret2
    exact ⟨_, by rw [HO.out]; rfl, Below.refl _ _, fun h => by rw [HO.out] at h; cases h⟩
  · have HEA : Hid (within addr 0 4294967295 = false → oe = 3) := fun h => by show oe = 3; rw [HE.out, HD.out, hl, h]; rfl
    have HEV : Hid (within addr 0 4294967295 = true → ¬ V + 1 ≤ 1000000 → oe = 3) := fun h h2 => by show oe = 3; rw [HE.out, HD.out, hl, h, if_pos rfl, if_pos rfl, if_neg h2]; rfl
    have HEO : Hid (within addr 0 4294967295 = true → V + 1 ≤ 1000000 → oe = if 6 < np then 2 else 0) := fun h h2 => by show oe = _; rw [HE.out, HD.out, hl, h, if_pos rfl, if_pos rfl, if_pos h2, if_pos rfl]
    clear HE HD
    have hb0 : Below w.heap.size w (w.alloc (.cells #[.string name, .int .i64 addr, .int .i64 1] 51)) := (Below.refl _ _).alloc (Nat.le_refl _) _
    have HV0 : Hid (Sl (w.alloc (.cells #[.string name, .int .i64 addr, .int .i64 1] 51)) v ms) := HV.out.below hb0
    go_enter Try.func18, Try.ntmps18
    go_wp2_with (go_at_call 26; refine (isLabel_any _ _ hs).mono ?_; rintro e w' ⟨rfl, hw⟩; have hw' := hw.symm; clear hw; subst hw'; rw [hl])
    refine (refAt_any ms _ name _ HV0.out (by omega)).mono ?_
    rintro e w1 ⟨r, rfl, hI, hw⟩
    have hrp := atI_at (t := ⟨name, 0, 0⟩) hI.out HAT.out HR.out
    subst hw
    clear hI
    cases f
    · have hr1 : r = -1 := hrp.2 rfl
      subst hr1
      have hV0 : V = 0 := HFF.out rfl
      subst hV0
      have HBZ : Hid (Below w.heap.size w (w.alloc (.cells #[.string name, .int .i64 addr, .int .i64 1] 51))) := hb0
      clear hb0 hrp
      rcases ha : within addr 0 4294967295 with _ | _
      · have HO : Hid (oe = 3) := HEA.out ha
        go_wp2_with (go_at_call 40; refine (isAddress_any _ _).mono ?_; rintro e w' ⟨rfl, rfl⟩; rw [ha])
        go_ret2
        exact ⟨_, by rw [HO.out]; rfl, HBZ.out, fun h => by rw [HO.out] at h; cases h⟩
      · have HO : Hid (oe = if 6 < np then 2 else 0) := HEO.out ha (by omega)
        go_wp2_with (go_at_call 40; refine (isAddress_any _ _).mono ?_; rintro e w' ⟨rfl, rfl⟩; rw [ha])
        refine (HPT.out _ HV0.out).mono ?_
        rintro e w2 ⟨v2, rfl, g1, g2⟩
        have HBX : Hid (Below w.heap.size w w2) := HBZ.out.trans (g2.mono (by simp))
        have HSX : Hid (Sl w2 v2 pl) := own_names g1 HOK.out
        clear g1 g2
        obtain ⟨p2, c2, hv2, _⟩ := HSX.out
        rw [HPN.out] at hv2
        subst hv2
        by_cases h6 : 6 < np
        · go_wp2_with fail
          go_ret2
          exact ⟨_, by rw [HO.out, if_pos h6]; rfl, HBX.out, fun h => by rw [HO.out, if_pos h6] at h; cases h⟩
        · go_wp2_with fail
          go_ret2
          exact ⟨_, by rw [HO.out, if_neg h6]; rfl, HBX.out, fun _ => HSX.out⟩
    · have hr1 : r = (p : Int) := hrp.1 rfl
      subst hr1
      have hp : p < ms.length := (HAT.out.is.1 rfl).1
      obtain ⟨pa, ca, hva, _, hrow⟩ := HV0.out
      subst hva
      obtain ⟨b3, o3, hp3, hl3, hr3⟩ : ∃ b_1 off, pa = some ⟨b_1, off, none⟩ ∧ b_1 < w.heap.size ∧ Row w b_1 off ms := by
        obtain ⟨pa2, ca2, h1, _, h2⟩ := HV.out
        simp only [Value.slice.injEq] at h1
        obtain ⟨rfl, _, _⟩ := h1
        rcases h2 with h | h
        · rw [h] at hp; simp at hp
        · exact h
      subst hp3
      clear hrow
      have hr3' : Row (w.alloc (.cells #[.string name, .int .i64 addr, .int .i64 1] 51)) b3 o3 ms := hr3.later hb0 hl3
      obtain ⟨_, _, d2⟩ := hr3' p hp
      have hxv : (ms.getD p dm).version = V := by rw [← HFT.out rfl]; exact HVV.out
      rw [hxv] at d2
      have HBZ : Hid (Below w.heap.size w (w.alloc (.cells #[.string name, .int .i64 addr, .int .i64 (V + 1)] 51))) := (Below.refl _ _).alloc (Nat.le_refl _) _
      have HVZ : Hid (Sl (w.alloc (.cells #[.string name, .int .i64 addr, .int .i64 (V + 1)] 51)) (.slice (some ⟨b3, o3, none⟩) ms.length ca) ms) := HV.out.below HBZ.out
      clear hb0 hrp hr3 hr3' hxv
      rcases ha : within addr 0 4294967295 with _ | _
      · have HO : Hid (oe = 3) := HEA.out ha
        go_wp2_with (go_at_call 40; refine (isAddress_any _ _).mono ?_; rintro e w' ⟨rfl, rfl⟩; rw [ha])
        go_ret2
        exact ⟨_, by rw [HO.out]; rfl, HBZ.out, fun h => by rw [HO.out] at h; cases h⟩
      · by_cases hbig : V + 1 ≤ 1000000
        · have HO : Hid (oe = if 6 < np then 2 else 0) := HEO.out ha hbig
          go_wp2_with (go_at_call 40; refine (isAddress_any _ _).mono ?_; rintro e w' ⟨rfl, rfl⟩; rw [ha])
          refine (HPT.out _ HVZ.out).mono ?_
          rintro e w2 ⟨v2, rfl, g1, g2⟩
          have HBX : Hid (Below w.heap.size w w2) := HBZ.out.trans (g2.mono (by simp))
          have HSX : Hid (Sl w2 v2 pl) := own_names g1 HOK.out
          clear g1 g2
          obtain ⟨p2, c2, hv2, _⟩ := HSX.out
          rw [HPN.out] at hv2
          subst hv2
          by_cases h6 : 6 < np
          · go_wp2_with fail
            go_ret2
            exact ⟨_, by rw [HO.out, if_pos h6]; rfl, HBX.out, fun h => by rw [HO.out, if_pos h6] at h; cases h⟩
          · go_wp2_with fail
            go_ret2
            exact ⟨_, by rw [HO.out, if_neg h6]; rfl, HBX.out, fun _ => HSX.out⟩
        · have HO : Hid (oe = 3) := HEV.out ha (by omega)
          go_wp2_with (go_at_call 40; refine (isAddress_any _ _).mono ?_; rintro e w' ⟨rfl, rfl⟩; rw [ha])
          go_ret2
          exact ⟨_, by rw [HO.out]; rfl, HBZ.out, fun h => by rw [HO.out] at h; cases h⟩

set_option maxHeartbeats 1600000 in
set_option maxRecDepth 100000 in
theorem centreOpens_walk (ms : List Gwy) (v : Value) (name : ByteArray) (addr : Int) (w : World) (hv : Sl w v ms) (hs : name.size ≤ maxLen) :
    Calls Try.prog 4 #[v, .string name, .int .i64 addr] w fun e w' => e = .returned (.bool true) ∧ Below w.heap.size w w' := by
  have HV : Hid (Sl w v ms) := hv
  have HOKS : Hid (∀ m ∈ ms, m.ok) := sl_ok hv
  clear hv
  by_cases hc : chk ms = 0
  · have hec : (chk ms == 0) = true := by simpa using hc
    obtain ⟨p, f, hat⟩ := at_any ms (chk_zero hc).2.1 ⟨name, 0, 0⟩
    have hlen := (chk_zero hc).1
    obtain ⟨hj1, hj2⟩ := openE_join (addr := addr) hc hat
    have HO : Hid (∀ w v, Sl w v ms → Calls Try.prog 16 #[v, .string name, .int .i64 addr] w fun e w' => ∃ v', e = .returned (.tuple #[v', .int .i64 (openE ms p f name addr)]) ∧ Below w.heap.size w w' ∧ Hid ((openE ms p f name addr ≠ 0 → v' = .slice none 0 0) ∧ (openE ms p f name addr = 0 → Own w.heap.size w' v' (RL.put ms (opn ms p f name addr) p f)))) := fun w v h => by
      refine (open_good ms v name addr w h hc hs p f hat).mono ?_
      rw [hj1, hj2]
      rintro e w' ⟨v', rfl, h1, h2, h3⟩
      exact ⟨v', rfl, h1, h2, h3⟩
    have HR : Hid (∀ w v, Sl w v ms → Calls Try.prog 18 #[v, .string name, .int .i64 addr] w fun e w' => ∃ v', e = .returned (.tuple #[v', .int .i64 (openE ms p f name addr)]) ∧ Below w.heap.size w w' ∧ Hid (openE ms p f name addr = 0 → Sl w' v' (RL.put ms (opn ms p f name addr) p f))) := fun w v h => refOpen_any ms v name addr w h hc hs p f hat
    have HPO : Hid (∀ m ∈ RL.put ms (opn ms p f name addr) p f, m.ok) := put_ok HOKS.out hs
    have HPL : Hid ((RL.put ms (opn ms p f name addr) p f).length ≤ 1000) := by
      have h := RL.put_len ord dm (at_key (t := opn ms p f name addr) (by rfl) hat)
      show (RL.put ms (opn ms p f name addr) p f).length ≤ 1000
      rw [h]; split <;> omega
    clear hc hat hj1 hj2
    generalize openE ms p f name addr = oe at *
    generalize RL.put ms (opn ms p f name addr) p f = pl at *
    go_enter Try.func4, Try.ntmps4
    go_wp2_with fail
    refine (HO.out _ _ HV.out).mono ?_
    rintro e w1 ⟨v1, rfl, hb1, hv1⟩
    have HV1 : Hid (Sl w1 v ms) := HV.out.below hb1
    have HB1 : Hid (Below w.heap.size w w1) := hb1
    clear hb1
    go_wp2_with fail
    refine (refCheck_any ms _ _ HV1.out).mono ?_
    rintro e w2 ⟨rfl, hb2⟩
    have HV2 : Hid (Sl w2 v ms) := HV1.out.below hb2
    have HB2 : Hid (Below w1.heap.size w1 w2) := hb2
    clear hb2
    go_wp2_with fail
    refine (HR.out _ _ HV2.out).mono ?_
    rintro e w3 ⟨v3, rfl, hb3, hv3⟩
    have HV3 : Hid (Sl w3 v ms) := HV2.out.below hb3
    have HB3 : Hid (Below w1.heap.size w1 w3) := HB2.out.trans (hb3.mono HB2.out.size)
    clear hb3
    go_wp2_with fail
    refine (begun_any _).mono ?_
    rintro e w4 ⟨rfl, hb4⟩
    have HV4 : Hid (Sl w4 v ms) := HV3.out.below hb4
    have HB4 : Hid (Below w1.heap.size w1 w4) := HB3.out.trans (hb4.mono HB3.out.size)
    have HS4 : Hid (oe = 0 → Sl w4 v3 pl) := fun h => (hv3.out h).below hb4
    clear hb4 hv3
    go_wp2_with fail
    refine (check_any ms _ _ HV4.out).mono ?_
    rintro e w5 ⟨rfl, hb5⟩
    have HB5 : Hid (Below w1.heap.size w1 w5) := HB4.out.trans (hb5.mono HB4.out.size)
    have HS5 : Hid (oe = 0 → Sl w5 v3 pl) := fun h => (HS4.out h).below hb5
    clear hb5 HS4
    by_cases hoe : oe = 0
    · have HO1 : Hid (Sl w5 v1 pl) := (own_names (hv1.out.2 hoe) HPO.out).below HB5.out
      have HS6 : Hid (Sl w5 v3 pl) := HS5.out hoe
      have HOE : Hid (oe = 0) := hoe
      clear hoe HS5 hv1
      go_wp2_with (go_at_call 21; refine (are_ok pl _ _ _ _ _ HOE.out rfl HO1.out HS6.out HPL.out).mono ?_; rintro e w6 ⟨rfl, hb6⟩)
      go_ret
      have h16 := HB5.out.trans (hb6.mono HB5.out.size)
      exact ⟨ret_bool (by simp), HB1.out.trans (h16.mono HB1.out.size)⟩
    · have hn1 := hv1.out.1 hoe
      subst hn1
      have HOE : Hid (oe ≠ 0) := hoe
      clear hoe HS5 hv1
      go_wp2_with (go_at_call 21; refine (are_bad _ _ _ _ HOE.out rfl).mono ?_; rintro e w6 ⟨rfl, hb6⟩)
      go_ret
      have h16 := HB5.out.trans (hb6.mono HB5.out.size)
      exact ⟨ret_bool (by simp), HB1.out.trans (h16.mono HB1.out.size)⟩
  · have hec : (chk ms == 0) = false := by simpa using hc
    have HNE : Hid (chk ms ≠ 0) := hc
    clear hc
    go_enter Try.func4, Try.ntmps4
    go_wp2_with fail
    refine (open_bad ms _ _ _ _ HV.out HNE.out).mono ?_
    rintro e w1 ⟨rfl, hb1⟩
    have HV1 : Hid (Sl w1 v ms) := HV.out.below hb1
    have HB1 : Hid (Below w.heap.size w w1) := hb1
    clear hb1
    go_wp2_with fail
    refine (refCheck_any ms _ _ HV1.out).mono ?_
    rintro e w2 ⟨rfl, hb2⟩
    have HV2 : Hid (Sl w2 v ms) := HV1.out.below hb2
    have HB2 : Hid (Below w1.heap.size w1 w2) := hb2
    clear hb2
    go_wp2_with fail
    refine (begun_any _).mono ?_
    rintro e w4 ⟨rfl, hb4⟩
    have HV4 : Hid (Sl w4 v ms) := HV2.out.below hb4
    have HB4 : Hid (Below w1.heap.size w1 w4) := HB2.out.trans (hb4.mono HB2.out.size)
    clear hb4
    go_wp2_with fail
    refine (check_any ms _ _ HV4.out).mono ?_
    rintro e w5 ⟨rfl, hb5⟩
    have HB5 : Hid (Below w1.heap.size w1 w5) := HB4.out.trans (hb5.mono HB4.out.size)
    clear hb5
    go_wp2_with (go_at_call 21; refine (are_bad _ _ _ _ HNE.out rfl).mono ?_; rintro e w6 ⟨rfl, hb6⟩)
    go_ret
    have h16 := HB5.out.trans (hb6.mono HB5.out.size)
    exact ⟨ret_bool (by simp), HB1.out.trans (h16.mono HB1.out.size)⟩

end Gw
end Go.Proofs.Ytcledbejggmfoaf
