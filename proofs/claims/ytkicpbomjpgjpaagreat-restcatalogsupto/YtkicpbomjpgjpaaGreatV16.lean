/- SKS7, SKS8, SKS5, GK8, GKG1, GK9, GK9A -/
import Derived.Test.YtkicpbomjpgjpaaGreatV15
import Derived.Test.YtkicpbomjpgjpaaGreatV14
import Derived.Test.YtkicpbomjpgjpaaGreatV9
/- The document's own Register: by one more version. -/
namespace Go.Proofs.YtkicpbomjpgjpaaGreat
namespace Sv
open Go.RowKit

theorem at_key {ms : List Svc} {s t : Svc} {p : Nat} {f : Bool} (hk : s.node = t.node) (hi : s.idn = t.idn) (h : At ms s p f) : At ms t p f := by
  have e : ∀ x, ord x s = ord x t := fun x => by
    show (if cmpI x.node s.node = 0 then cmpI x.idn s.idn else cmpI x.node s.node) = (if cmpI x.node t.node = 0 then cmpI x.idn t.idn else cmpI x.node t.node)
    rw [hk, hi]
  exact ⟨h.le, fun j hj => by rw [← e]; exact h.lo j hj, fun j hj hl => by rw [← e]; exact h.hi j hj hl, by rw [← e]; exact h.is⟩

theorem put_ok {ms : List Svc} {m : Svc} {p : Nat} {f : Bool} (h : ∀ x ∈ ms, x.ok) (hm : m.ok) : ∀ x ∈ RL.put ms m p f, x.ok := fun x hx => by
  unfold RL.put at hx
  rcases List.mem_append.1 hx with hx | hx
  · exact h x (List.mem_of_mem_take hx)
  · rcases List.mem_cons.1 hx with rfl | hx
    · exact hm
    · exact h x (List.mem_of_mem_drop hx)

/-- A service by one more version. -/
def setS (ms : List Svc) (p : Nat) (f : Bool) (s : Svc) : Svc := { s with version := (fnd ms p f).version + 1 }
def setE (ms : List Svc) (p : Nat) (f : Bool) (s : Svc) : Int :=
  if (fnd ms p f).version + 1 ≤ 1000000 then (if 40 < (RL.put ms (setS ms p f s) p f).length then 2 else 0) else 3

set_option maxHeartbeats 6400000 in
set_option maxRecDepth 100000 in
theorem refSet_any (ms : List Svc) (v : Value) (s : Svc) (w : World) (hv : Sl w v ms) (h0 : chk ms = 0) (hs : s.ok) (p : Nat) (f : Bool) (hat : At ms s p f) :
    Calls Tryz.prog 46 #[v, .agg #[.string s.node, .string s.idn, .string s.name, .string s.tag, .int .i64 s.addr, .int .i64 s.port, .bool s.passing, .int .i64 s.version, .bool s.gone]] w fun e w' => ∃ v', e = .returned (.tuple #[v', .int .i64 (setE ms p f s)]) ∧ Below w.heap.size w w' ∧ Hid (setE ms p f s = 0 → Sl w' v' (RL.put ms (setS ms p f s) p f)) := by
  have hz := chk_zero h0
  have hlen := hz.1
  have hver := fnd_ver hz.2.2 hat
  have HAT : Hid (At ms s p f) := hat
  have HR : Hid (Rise ms) := hz.2.1
  have HA1 : Hid (At ms (setS ms p f s) p f) := at_key (s := s) (t := setS ms p f s) rfl rfl hat
  have HOK : Hid (∀ m ∈ RL.put ms (setS ms p f s) p f, m.ok) := put_ok (sl_ok hv) hs
  have HE : Hid (setE ms p f s = if (fnd ms p f).version + 1 ≤ 1000000 then (if 40 < (RL.put ms (setS ms p f s) p f).length then 2 else 0) else 3) := rfl
  have hpl : (RL.put ms (setS ms p f s) p f).length ≤ 41 := by
    have h := RL.put_len ord dm HA1.out
    rw [h]; split <;> omega
  have HPT : Hid (∀ W, Sl W v ms → Calls Tryz.prog 77 #[v, .agg #[.string s.node, .string s.idn, .string s.name, .string s.tag, .int .i64 s.addr, .int .i64 s.port, .bool s.passing, .int .i64 ((fnd ms p f).version + 1), .bool s.gone]] W fun e w' => ∃ v', e = .returned v' ∧ Own (W.heap.size + 1) w' v' (RL.put ms (setS ms p f s) p f) ∧ Below W.heap.size W w') := fun W hW => refPut_any ms v (setS ms p f s) W hW (by omega) HR.out p f HA1.out
  have HV : Hid (Sl w v ms) := hv
  have HFT : Hid (f = true → fnd ms p f = ms.getD p dm) := fun h => if_pos h
  have HFF : Hid (f = false → (fnd ms p f).version = 0) := fun h => by show (fnd ms p f).version = 0; rw [fnd, if_neg (by rw [h]; exact Bool.false_ne_true)]; rfl
  generalize setE ms p f s = oe at *
  generalize RL.put ms (setS ms p f s) p f = pl at *
  generalize hvv : (fnd ms p f).version = V at *
  have HVV : Hid ((fnd ms p f).version = V) := hvv
  obtain ⟨hv0, hv1⟩ := hver
  clear hv h0 hz hat hvv HA1
  generalize hpn : pl.length = np at *
  have HPN : Hid (pl.length = np) := hpn
  clear hpn
  obtain ⟨s_node, s_idn, s_name, s_tag, s_addr, s_port, s_passing, s_version, s_gone⟩ := s
  have hb0 : Below w.heap.size w (w.alloc (.cells #[.string s_node, .string s_idn, .string s_name, .string s_tag, .int .i64 s_addr, .int .i64 s_port, .bool s_passing, .int .i64 1, .bool s_gone] 24)) := (Below.refl _ _).alloc (Nat.le_refl _) _
  have HV0 : Hid (Sl (w.alloc (.cells #[.string s_node, .string s_idn, .string s_name, .string s_tag, .int .i64 s_addr, .int .i64 s_port, .bool s_passing, .int .i64 1, .bool s_gone] 24)) v ms) := HV.out.below hb0
  go_enter Tryz.func46, Tryz.ntmps46
  go_wp2_with fail
  refine (refAt_any ms _ s_node s_idn _ HV0.out (by omega)).mono ?_
  rintro e w1 ⟨r, rfl, hI, hw⟩
  have hrp := atI_at (t := ⟨s_node, s_idn, s_name, s_tag, s_addr, s_port, s_passing, s_version, s_gone⟩) hI.out HAT.out HR.out
  subst hw
  clear hI
  cases f
  · have hr1 : r = -1 := hrp.2 rfl
    subst hr1
    have hV0 : V = 0 := HFF.out rfl
    subst hV0
    have HBZ : Hid (Below w.heap.size w (w.alloc (.cells #[.string s_node, .string s_idn, .string s_name, .string s_tag, .int .i64 s_addr, .int .i64 s_port, .bool s_passing, .int .i64 1, .bool s_gone] 24))) := hb0
    clear hb0 hrp
    have HO : Hid (oe = if 40 < np then 2 else 0) := HE.out.trans (if_pos (by omega))
    go_wp2_with fail
    refine (HPT.out _ HV0.out).mono ?_
    rintro e w2 ⟨v2, rfl, g1, g2⟩
    have HBX : Hid (Below w.heap.size w w2) := HBZ.out.trans (g2.mono (by simp))
    have HSX : Hid (Sl w2 v2 pl) := own_names g1 HOK.out
    clear g1 g2
    obtain ⟨p2, c2, hv2, _⟩ := HSX.out
    rw [HPN.out] at hv2
    subst hv2
    by_cases h6 : 40 < np
    · go_wp2_with fail
      go_ret2
      exact ⟨_, by rw [HO.out, if_pos h6]; rfl, HBX.out, fun h => by rw [HO.out, if_pos h6] at h; cases h⟩
    · go_wp2_with fail
      go_ret2
      exact ⟨_, by rw [HO.out, if_neg h6]; rfl, HBX.out, fun _ => HSX.out⟩
  · have hr1 : r = (p : Int) := hrp.1 rfl
    subst hr1
    have hp : p < ms.length := (HAT.out.is.1 rfl).1
    obtain ⟨pa, ca, hva, _, hrow⟩ := HV0.out
    subst hva
    obtain ⟨b3, o3, hp3, hl3, hr3⟩ : ∃ b_1 off, pa = some ⟨b_1, off, none⟩ ∧ b_1 < w.heap.size ∧ Row w b_1 off ms := by
      obtain ⟨pa2, ca2, h1, _, h2⟩ := HV.out
      simp only [Value.slice.injEq] at h1
      obtain ⟨rfl, _, _⟩ := h1
      rcases h2 with h | h
      · rw [h] at hp; simp at hp
      · exact h
    subst hp3
    clear hrow
    have hr3' := hr3.later hb0 hl3
    obtain ⟨d0, d1, d2, d3, d4, d5, d6, d7, d8⟩ := hr3' p hp
    have hxv : (ms.getD p dm).version = V := by rw [← HFT.out rfl]; exact HVV.out
    rw [hxv] at d7
    clear d0 d1 d2 d3 d4 d5 d6 d8
    have HBZ : Hid (Below w.heap.size w (w.alloc (.cells #[.string s_node, .string s_idn, .string s_name, .string s_tag, .int .i64 s_addr, .int .i64 s_port, .bool s_passing, .int .i64 (V + 1), .bool s_gone] 24))) := (Below.refl _ _).alloc (Nat.le_refl _) _
    have HVZ : Hid (Sl (w.alloc (.cells #[.string s_node, .string s_idn, .string s_name, .string s_tag, .int .i64 s_addr, .int .i64 s_port, .bool s_passing, .int .i64 (V + 1), .bool s_gone] 24)) (.slice (some ⟨b3, o3, none⟩) ms.length ca) ms) := HV.out.below HBZ.out
    clear hb0 hrp hr3 hr3' hxv
    by_cases hbig : V + 1 ≤ 1000000
    · have HO : Hid (oe = if 40 < np then 2 else 0) := HE.out.trans (if_pos hbig)
      go_wp2_with fail
      refine (HPT.out _ HVZ.out).mono ?_
      rintro e w2 ⟨v2, rfl, g1, g2⟩
      have HBX : Hid (Below w.heap.size w w2) := HBZ.out.trans (g2.mono (by simp))
      have HSX : Hid (Sl w2 v2 pl) := own_names g1 HOK.out
      clear g1 g2
      obtain ⟨p2, c2, hv2, _⟩ := HSX.out
      rw [HPN.out] at hv2
      subst hv2
      by_cases h6 : 40 < np
      · go_wp2_with fail
        go_ret2
        exact ⟨_, by rw [HO.out, if_pos h6]; rfl, HBX.out, fun h => by rw [HO.out, if_pos h6] at h; cases h⟩
      · go_wp2_with fail
        go_ret2
        exact ⟨_, by rw [HO.out, if_neg h6]; rfl, HBX.out, fun _ => HSX.out⟩
    · have HO : Hid (oe = 3) := HE.out.trans (if_neg hbig)
      go_wp2_with fail
      go_ret2
      exact ⟨_, by rw [HO.out]; rfl, HBZ.out, fun h => by rw [HO.out] at h; cases h⟩

end Sv
end Go.Proofs.YtkicpbomjpgjpaaGreat

/- The document's Register and Drop; Drop; the law CatalogRegisters. -/
namespace Go.Proofs.YtkicpbomjpgjpaaGreat
namespace Sv
open Go.RowKit

def asOne (s : Svc) : Svc := { s with version := 1, gone := false }
def regE (ms : List Svc) (p : Nat) (f : Bool) (s : Svc) : Int := if (asOne s).e = 0 then setE ms p f (asOne s) else (asOne s).e
theorem reg_set (ms : List Svc) (p : Nat) (f : Bool) (s : Svc) : setS ms p f (asOne s) = reg ms p f s := rfl

theorem reg_e (ms : List Svc) (p : Nat) (f : Bool) (s : Svc) (hv : 0 ≤ (fnd ms p f).version) : (reg ms p f s).e = if (asOne s).e = 0 then (if (fnd ms p f).version + 1 ≤ 1000000 then 0 else 3) else (asOne s).e := by
  have h : (within ((fnd ms p f).version + 1) 1 1000000 = true) ↔ (fnd ms p f).version + 1 ≤ 1000000 := by simp [within]; omega
  have h1 : within (1 : Int) 1 1000000 = true := by decide
  rw [e_if, e_if]
  show (if labB s.node = true then (if labB s.idn = true then (if labB s.name = true then (if tagB s.tag = true then (if within s.addr 0 4294967295 = true then (if within s.port 0 65535 = true then (if within ((fnd ms p f).version + 1) 1 1000000 = true then (0 : Int) else 3) else 3) else 3) else 1) else 1) else 1) else 1) = (if (if labB s.node = true then (if labB s.idn = true then (if labB s.name = true then (if tagB s.tag = true then (if within s.addr 0 4294967295 = true then (if within s.port 0 65535 = true then (if within (1 : Int) 1 1000000 = true then (0 : Int) else 3) else 3) else 3) else 1) else 1) else 1) else 1) = 0 then (if (fnd ms p f).version + 1 ≤ 1000000 then 0 else 3) else (if labB s.node = true then (if labB s.idn = true then (if labB s.name = true then (if tagB s.tag = true then (if within s.addr 0 4294967295 = true then (if within s.port 0 65535 = true then (if within (1 : Int) 1 1000000 = true then (0 : Int) else 3) else 3) else 3) else 1) else 1) else 1) else 1))
  rw [h1]
  by_cases h3 : (fnd ms p f).version + 1 ≤ 1000000
  · rw [h.2 h3]
    cases labB s.node <;> cases labB s.idn <;> cases labB s.name <;> cases tagB s.tag <;> cases within s.addr 0 4294967295 <;> cases within s.port 0 65535 <;> simp [h3]
  · have h4 : within ((fnd ms p f).version + 1) 1 1000000 = false := by
      cases hw : within ((fnd ms p f).version + 1) 1 1000000
      · rfl
      · exact absurd (h.1 hw) h3
    rw [h4]
    cases labB s.node <;> cases labB s.idn <;> cases labB s.name <;> cases tagB s.tag <;> cases within s.addr 0 4294967295 <;> cases within s.port 0 65535 <;> simp [h3]

theorem up_new {ms : List Svc} {p : Nat} {f : Bool} {m : Svc} (hf : f = true) (hm : m.version = (fnd ms p f).version + 1) : newE m (ms.getD p dm) = true := by
  rw [newE_def]
  have hv : m.version = (ms.getD p dm).version + 1 := by rw [hm, fnd, if_pos hf]
  rw [if_neg (by omega)]
  exact decide_eq_true (by omega)

theorem reg_join {ms : List Svc} (h0 : chk ms = 0) {p : Nat} {f : Bool} {s : Svc} (hat : At ms (keyOf s) p f) :
    joinE ms [reg ms p f s] = regE ms p f s ∧ joinL ms [reg ms p f s] = RL.put ms (reg ms p f s) p f := by
  have h1 : At ms (reg ms p f s) p f := at_key (s := keyOf s) (t := reg ms p f s) rfl rfl hat
  have h2 : joinL ms [reg ms p f s] = RL.put ms (reg ms p f s) p f := (put_hear h1 (fun hf => up_new hf rfl)).symm
  refine ⟨?_, h2⟩
  have hv := fnd_ver (chk_zero h0).2.2 hat
  have he := reg_e ms p f s hv.1
  unfold regE
  by_cases h3 : (asOne s).e = 0
  · rw [if_pos h3] at he ⊢
    unfold setE
    rw [reg_set]
    by_cases h4 : (fnd ms p f).version + 1 ≤ 1000000
    · rw [if_pos h4] at he ⊢
      rw [joinE_good h0 (by rw [chk_one]; exact he), h2]
    · rw [if_neg h4] at he ⊢
      rw [joinE_bad2 h0 (by rw [chk_one, he]; decide), chk_one, he]
  · rw [if_neg h3] at he ⊢
    rw [joinE_bad2 h0 (by rw [chk_one, he]; exact h3), chk_one, he]

set_option maxHeartbeats 3200000 in
set_option maxRecDepth 100000 in
theorem refReg_any (ms : List Svc) (v : Value) (s : Svc) (w : World) (hv : Sl w v ms) (h0 : chk ms = 0) (hs : s.ok) (p : Nat) (f : Bool) (hat : At ms (keyOf s) p f) :
    Calls Tryz.prog 16 #[v, .agg #[.string s.node, .string s.idn, .string s.name, .string s.tag, .int .i64 s.addr, .int .i64 s.port, .bool s.passing, .int .i64 s.version, .bool s.gone]] w fun e w' => ∃ v', e = .returned (.tuple #[v', .int .i64 (regE ms p f s)]) ∧ Below w.heap.size w w' ∧ Hid (regE ms p f s = 0 → Sl w' v' (RL.put ms (reg ms p f s) p f)) := by
  have HS : Hid (∀ W, Sl W v ms → Calls Tryz.prog 46 #[v, .agg #[.string (asOne s).node, .string (asOne s).idn, .string (asOne s).name, .string (asOne s).tag, .int .i64 (asOne s).addr, .int .i64 (asOne s).port, .bool (asOne s).passing, .int .i64 (asOne s).version, .bool (asOne s).gone]] W fun e w' => ∃ v', e = .returned (.tuple #[v', .int .i64 (setE ms p f (asOne s))]) ∧ Below W.heap.size W w' ∧ Hid (setE ms p f (asOne s) = 0 → Sl w' v' (RL.put ms (reg ms p f s) p f))) := fun W hW => refSet_any ms v (asOne s) W hW h0 hs p f (at_key (s := keyOf s) (t := asOne s) rfl rfl hat)
  have HO : Hid (∀ W, Calls Tryz.prog 44 #[.agg #[.string (asOne s).node, .string (asOne s).idn, .string (asOne s).name, .string (asOne s).tag, .int .i64 (asOne s).addr, .int .i64 (asOne s).port, .bool (asOne s).passing, .int .i64 (asOne s).version, .bool (asOne s).gone]] W fun e w' => e = .returned (.int .i64 (asOne s).e) ∧ Below W.heap.size W w') := fun W => refOne_any (asOne s) W hs
  have HE : Hid (regE ms p f s = if (asOne s).e = 0 then setE ms p f (asOne s) else (asOne s).e) := rfl
  have HV : Hid (Sl w v ms) := hv
  generalize regE ms p f s = re at *
  generalize setE ms p f (asOne s) = se at *
  generalize RL.put ms (reg ms p f s) p f = pl at *
  generalize hoe : (asOne s).e = oe at *
  clear hoe hv h0 hs hat
  obtain ⟨s_node, s_idn, s_name, s_tag, s_addr, s_port, s_passing, s_version, s_gone⟩ := s
  simp only [asOne] at HS HO
  have hb0 : Below w.heap.size w (w.alloc (.cells #[.string s_node, .string s_idn, .string s_name, .string s_tag, .int .i64 s_addr, .int .i64 s_port, .bool s_passing, .int .i64 1, .bool false] 24)) := (Below.refl _ _).alloc (Nat.le_refl _) _
  rcases he : decide (oe = 0) with _ | _
  · have he' : (oe != 0) = true := by simpa using he
    have HR : Hid (re = oe) := HE.out.trans (if_neg (by simpa using he))
    have HNZ : Hid (oe ≠ 0) := (show oe ≠ 0 by simpa using he)
    clear he
    go_enter Tryz.func16, Tryz.ntmps16
    go_wp2_with (go_at_call 44; refine (HO.out _).mono ?_; rintro e w1 ⟨rfl, hb1⟩)
    go_ret2
    exact ⟨_, by rw [HR.out]; rfl, hb0.trans (hb1.mono (by simp)), fun h => absurd (HR.out.symm.trans h) HNZ.out⟩
  · have he' : (oe != 0) = false := by simpa using he
    have HR : Hid (re = se) := HE.out.trans (if_pos (by simpa using he))
    clear he
    go_enter Tryz.func16, Tryz.ntmps16
    go_wp2_with fail
    refine (HO.out _).mono ?_
    rintro e w1 ⟨rfl, hb1⟩
    have hs1 : w.heap.size + 1 ≤ w1.heap.size := by have := hb1.size; simpa using this
    have hbc : ∀ o, w1.cell? ⟨w.heap.size, o, none⟩ = (w.alloc (.cells #[.string s_node, .string s_idn, .string s_name, .string s_tag, .int .i64 s_addr, .int .i64 s_port, .bool s_passing, .int .i64 1, .bool false] 24)).cell? ⟨w.heap.size, o, none⟩ := fun o => hb1.cell (p := ⟨w.heap.size, o, none⟩) (by simp)
    have HB1 : Hid (Below w.heap.size w w1) := hb0.trans (hb1.mono (by simp))
    clear hb0 hb1
    go_wp2_with fail
    refine (HS.out _ (HV.out.below HB1.out)).mono ?_
    rintro e w2 ⟨v2, rfl, hb2, hv2⟩
    have HB2 : Hid (Below w.heap.size w w2) := HB1.out.trans (hb2.mono HB1.out.size)
    clear hb2
    go_wp2_with fail
    go_ret2
    exact ⟨_, by rw [HR.out]; rfl, HB2.out, fun h => hv2.out (HR.out.symm.trans h)⟩

end Sv
end Go.Proofs.YtkicpbomjpgjpaaGreat

/- The document's own Find; the law CatalogFinds. -/
namespace Go.Proofs.YtkicpbomjpgjpaaGreat
namespace Sv
open Go.RowKit

theorem beq_flip (a b : List UInt8) : (a == b) = (b == a) := by rw [Bool.eq_iff_iff, beq_iff_eq, beq_iff_eq]; exact ⟨Eq.symm, Eq.symm⟩

set_option maxHeartbeats 6400000 in
set_option maxRecDepth 100000 in
theorem refFind_any (ms : List Svc) (v : Value) (name tag : ByteArray) (w : World) (hv : Sl w v ms) (hlen : ms.length ≤ 40) :
    Calls Tryz.prog 17 #[v, .string name, .string tag] w fun e w' => ∃ v', e = .returned v' ∧ Own w.heap.size w' v' (findL ms name tag) ∧ Below w.heap.size w w' := by
  obtain ⟨i0, hi0, hz0, hzs, hzb⟩ := info_parts Tryz.info24
  obtain ⟨pa, ca, rfl, _, ha⟩ := hv
  have HA : Hid (ms = [] ∨ ∃ b off, pa = some ⟨b, off, none⟩ ∧ b < w.heap.size ∧ Row w b off ms) := ha
  clear ha
  generalize hna : ms.length = n at *
  have HN : Hid (ms.length = n) := hna
  clear hna
  go_enter Tryz.func17, Tryz.ntmps17
  go_wp2_with fail
  go_loopw [7, 8] (fun kn i w' => ∃ k : Nat, k ≤ n ∧ i = .int .i64 k ∧ Below w.heap.size w w' ∧ Hid (Own w.heap.size w' kn (findL (ms.take k) name tag))) (fun _ i _ => n - (intOf i).toNat)
  case atStart => exact ⟨0, Nat.zero_le _, rfl, Below.refl _ _, own_nil _ _⟩
  case round =>
    obtain ⟨k, hk, rfl, hbl, HO⟩ := hrel
    obtain ⟨hbc, hbf⟩ := bcell hbl
    have hsz := hbl.size
    have hll2 : (findL (ms.take k) name tag).length ≤ 40 := by have h1 := findL_len (ms.take k) name tag; have h2 : (ms.take k).length ≤ k := List.length_take_le _ _; omega
    by_cases hlt : k < n
    · obtain ⟨b1, o1, hp1, hl1, hr1⟩ : ∃ b off, pa = some ⟨b, off, none⟩ ∧ b < w.heap.size ∧ Row w b off ms := by
        rcases HA.out with h | h
        · have := HN.out; rw [h] at this; simp at this; omega
        · exact h
      subst hp1
      obtain ⟨c0, c1, c2, c3, c4, c5, c6, c7, c8⟩ := hr1 k (by rw [HN.out]; exact hlt)
      clear hr1
      have hkl : k < ms.length := by rw [HN.out]; exact hlt
      have HY : Hid (keep name tag (ms.getD k dm) = true → findL (ms.take (k + 1)) name tag = findL (ms.take k) name tag ++ [ms.getD k dm]) := fun h => findL_yes hkl h
      have HNO : Hid (keep name tag (ms.getD k dm) = false → findL (ms.take (k + 1)) name tag = findL (ms.take k) name tag) := fun h => findL_no hkl h
      generalize ms.getD k dm = m at *
      have hfl := beq_flip m.tag.toList tag.toList
      rcases keep_why name tag m with ⟨hkp, hw⟩ | ⟨hkp, hw⟩
      · have HST : Hid (findL (ms.take (k + 1)) name tag = findL (ms.take k) name tag) := HNO.out hkp
        clear HY HNO hkp
        rw [hfl] at hw
        clear hfl
        rcases hw with h | ⟨h, g1, g2⟩ | ⟨h, g1, g2⟩ | ⟨h, g1, g2, g3⟩ | ⟨h, g1, g2, g3⟩ | ⟨h, g1, g2, g3, g4⟩
        all_goals
          go_wp2_with fail
          go_roundw
          case rel => exact ⟨k + 1, by omega, by go_num, hbl, by rw [HST.out]; exact HO.out⟩
          case measure => simp [intOf]; omega
      · have HST : Hid (findL (ms.take (k + 1)) name tag = findL (ms.take k) name tag ++ [m]) := HY.out hkp
        clear HY HNO hkp
        rw [hfl] at hw
        clear hfl
        generalize findL (ms.take k) name tag = L at *
        rcases hw with ⟨h, g1, gp, gg⟩ | ⟨h, g1, g2, gp, gg⟩
        all_goals
          go_wp2_with (at_builtin; refine wpList_append_own _ rfl _ _ 22 rfl w.heap.size 24 i0 _ 9 104 Tryz.underlying22 hi0 hz0 hzs hzb rfl (by omega) _ L.length (fl L) rfl ?hown ⟨wr.heap.size, 0, none⟩ 1 1 m.cs rfl rfl ?hnews (cs_one _) ?h63 ?hbytes ?hbase ?_)
          case hown => exact HO.out.below ((Below.refl _ _).alloc (Nat.le_refl _) _)
          case hnews => (intro j u hj; rw [Addr.add_lit]; exact (cell_topL rfl).trans (by simpa [Svc.cs, gp, gg] using hj))
          case h63 => (unfold maxLen; omega)
          case hbytes => omega
          case hbase => (simp; omega)
          all_goals
            intro v' w2 r1 r2 r3
            have HBX : Hid (Below w.heap.size w w2) := (hbl.alloc hsz _).grown r2 (by simp; omega) (fun j hj => (HO.out.lt j hj).1)
            have HOX : Hid (Own w.heap.size w2 v' (L ++ [m])) := own_snoc r1
            clear r1 r2 r3
            go_wp2_with fail
            go_roundw
            case rel => exact ⟨k + 1, by omega, by go_num, HBX.out, by rw [HST.out]; exact HOX.out⟩
            case measure => simp [intOf]; omega
    · have hkn : k = n := by omega
      subst hkn
      have HFO : Hid (Own w.heap.size wr u7 (findL ms name tag)) := by
        have h := HO.out
        rw [List.take_of_length_le (by rw [HN.out]; exact Nat.le_refl _)] at h
        exact h
      go_wp2_with fail
      go_ret
      exact ⟨u7, rfl, HFO.out, hbl⟩

/-- Why a name and a tag are right, or are not. -/
theorem findE_why (name tag : ByteArray) : (findE name tag = 1 ∧ (labB name = false ∨ (labB name = true ∧ (tag.toList == []) = false ∧ labB tag = false))) ∨ (findE name tag = 0 ∧ ((labB name = true ∧ (tag.toList == []) = true) ∨ (labB name = true ∧ (tag.toList == []) = false ∧ labB tag = true))) := by
  unfold findE tagB
  have ht : decide (tag = ByteArray.empty) = (tag.toList == []) := by
    rw [Bool.eq_iff_iff, decide_eq_true_eq, beq_iff_eq]
    constructor
    · intro h; rw [h, Lib.toList_data]; rfl
    · intro h; exact ba_ext (by rw [← Lib.toList_data, h]; rfl)
  rw [ht]
  generalize labB name = b1
  generalize (tag.toList == []) = b2
  generalize labB tag = b3
  cases b1 <;> cases b2 <;> cases b3 <;> simp

end Sv
end Go.Proofs.YtkicpbomjpgjpaaGreat

/- gateways: find. -/
namespace Go.Proofs.YtkicpbomjpgjpaaGreat
namespace Gw
open Go.RowKit

/-- What find tells. -/
def fnd (ms : List Gwy) (p : Nat) (f : Bool) : Gwy := if f = true then ms.getD p dm else dm

set_option maxHeartbeats 1600000 in
theorem find2_any (ms : List Gwy) (v : Value) (name : ByteArray) (w : World) (h : Sl w v ms) (hn : ms.length ≤ 6) (hr : Rise ms) :
    Calls Tryz.prog 32 #[v, .string name] w fun e w' => ∃ (p : Nat) (f : Bool), e = .returned (.tuple #[.agg #[.string (fnd ms p f).centre, .int .i64 (fnd ms p f).addr, .int .i64 (fnd ms p f).version], .bool f]) ∧ Below w.heap.size w w' ∧ At ms ⟨name, 0, 0⟩ p f := by
  obtain ⟨W0, hW0⟩ : ∃ W0, W0 = w.alloc (.cells #[.string ⟨#[]⟩, .int .i64 0, .int .i64 0] 62) := ⟨_, rfl⟩
  have hb0 : Below w.heap.size w W0 := by rw [hW0]; exact (Below.refl _ _).alloc (Nat.le_refl _) _
  have hs0 : W0.heap.size = w.heap.size + 1 := by rw [hW0]; simp
  have hg0 : W0.heap[w.heap.size]? = some (.cells #[.string ⟨#[]⟩, .int .i64 0, .int .i64 0] 62 (0, 0)) := by rw [hW0]; exact heap_alloc_new w _
  have HV : Hid (Sl W0 v ms) := h.below hb0
  have HF : Hid (Calls Tryz.prog 67 #[v, .agg #[.string name, .int .i64 0, .int .i64 0], .func (.func 66) #[] #[]] W0 fun e w' => ∃ (p : Nat) (f : Bool), e = .returned (.tuple #[.int .i64 p, .bool f]) ∧ Below W0.heap.size W0 w' ∧ At ms ⟨name, 0, 0⟩ p f) :=
    find_any ms v ⟨name, 0, 0⟩ W0 HV.out (by omega) hr
  have HW0 : Hid (W0 = w.alloc (.cells #[.string ⟨#[]⟩, .int .i64 0, .int .i64 0] 62)) := hW0
  clear hW0 h hr
  go_enter Tryz.func32, Tryz.ntmps32
  go_wp2_with fail
  rw [← HW0.out]
  refine HF.out.mono ?_
  rintro e w1 ⟨p, f, rfl, hb1, hat⟩
  have HAT : Hid (At ms ⟨name, 0, 0⟩ p f) := hat
  have HV1 : Hid (Sl w1 v ms) := HV.out.below hb1
  have hs1 := hb1.size
  have HB1 : Hid (Below w.heap.size w w1) := hb0.trans (hb1.mono (by omega))
  have hg1 : w1.heap[w.heap.size]? = some (.cells #[.string ⟨#[]⟩, .int .i64 0, .int .i64 0] 62 (0, 0)) := (hb1.block w.heap.size (by omega)).trans hg0
  have t0 : w1.cell? ⟨w.heap.size, 0, none⟩ = some (.string ⟨#[]⟩) := cellsAt hg1 0
  have t1 : w1.cell? ⟨w.heap.size, 1, none⟩ = some (.int .i64 0) := cellsAt hg1 1
  have t2 : w1.cell? ⟨w.heap.size, 2, none⟩ = some (.int .i64 0) := cellsAt hg1 2
  have hfz : ∀ o, w1.frozen? ⟨w.heap.size, o, none⟩ = false := fun o => by simp [World.frozen?, hg1]
  have hlt : w.heap.size < w1.heap.size := by omega
  clear hat HF HV hg0 hg1 hb0 hb1 HW0 hs0 hs1
  cases f
  · go_wp2_with fail
    exact bodyPost_ret (v := .tuple #[.agg #[.string ⟨#[]⟩, .int .i64 0, .int .i64 0], .bool false]) (by simp [results, Tryz.results32, go_sem, t0, t1, t2]) rfl ⟨p, false, rfl, (((HB1.out.setCell (p := ⟨w.heap.size, 0, none⟩) (Nat.le_refl _) _).setCell (p := ⟨w.heap.size, 1, none⟩) (Nat.le_refl _) _).setCell (p := ⟨w.heap.size, 2, none⟩) (Nat.le_refl _) _), HAT.out⟩
  · have hp : p < ms.length := (HAT.out.is.1 rfl).1
    obtain ⟨a, cap, rfl, _, hsl⟩ := HV1.out
    obtain ⟨b, off, hab, hgb, hrow⟩ : ∃ b off, a = some ⟨b, off, none⟩ ∧ b < w1.heap.size ∧ Row w1 b off ms := by
      rcases hsl with h | h
      · rw [h] at hp; simp at hp
      · exact h
    subst hab
    obtain ⟨c0, c1, c2⟩ := hrow p hp
    clear hrow hsl HV1
    generalize hm : ms.getD p dm = m at *
    have HM : Hid (fnd ms p true = m) := by show fnd ms p true = m; rw [fnd, if_pos rfl, hm]
    clear hm
    go_wp2_with fail
    exact bodyPost_ret (v := .tuple #[.agg #[.string m.centre, .int .i64 m.addr, .int .i64 m.version], .bool true]) (by simp [results, Tryz.results32, go_sem, t0, t1, t2]) rfl ⟨p, true, by rw [HM.out], (((HB1.out.setCell (p := ⟨w.heap.size, 0, none⟩) (Nat.le_refl _) _).setCell (p := ⟨w.heap.size, 1, none⟩) (Nat.le_refl _) _).setCell (p := ⟨w.heap.size, 2, none⟩) (Nat.le_refl _) _), HAT.out⟩

end Gw
end Go.Proofs.YtkicpbomjpgjpaaGreat

/- Open and Next; what must be in any case of centres. -/
namespace Go.Proofs.YtkicpbomjpgjpaaGreat
namespace Gw
open Go.RowKit

theorem e_zero {m : Gwy} (h : m.e = 0) : labB m.centre = true ∧ 0 ≤ m.addr ∧ m.addr ≤ 4294967295 ∧ 1 ≤ m.version ∧ m.version ≤ 1000000 := by
  unfold Gwy.e at h
  split at h
  · rename_i h1
    split at h
    · rename_i h2
      split at h
      · rename_i h3
        simp [within] at h2 h3
        exact ⟨h1, h2.1, h2.2, h3.1, h3.2⟩
      · omega
    · omega
  · omega
theorem e_at {ms : List Gwy} (h : firstE ms = 0) (p : Nat) (hp : p < ms.length) : (ms.getD p dm).e = 0 := by
  have := firstE_mem ms h ms[p] (List.getElem_mem hp)
  simpa [List.getD, List.getElem?_eq_getElem hp] using this
theorem fnd_ver {ms : List Gwy} {t : Gwy} (h : firstE ms = 0) {p : Nat} {f : Bool} (hat : At ms t p f) : 0 ≤ (fnd ms p f).version ∧ (fnd ms p f).version ≤ 1000000 := by
  cases f
  · exact ⟨by show (0 : Int) ≤ 0; omega, by show (0 : Int) ≤ 1000000; omega⟩
  · have := (e_zero (e_at h p (hat.is.1 rfl).1)).2.2.2
    rw [fnd, if_pos rfl]
    omega

/-- F2: the gateway of a centre at an address, by one more version. -/
def opn (ms : List Gwy) (p : Nat) (f : Bool) (name : ByteArray) (addr : Int) : Gwy := ⟨name, addr, (fnd ms p f).version + 1⟩

set_option maxHeartbeats 400000 in
theorem open_bad (ms : List Gwy) (v : Value) (name : ByteArray) (addr : Int) (w : World) (hv : Sl w v ms) (hne : chk ms ≠ 0) :
    Calls Tryz.prog 10 #[v, .string name, .int .i64 addr] w fun e w' => e = .returned (.tuple #[.slice none 0 0, .int .i64 (chk ms)]) ∧ Below w.heap.size w w' := by
  have he : (chk ms != 0) = true := by simpa using hne
  have HV : Hid (Sl w v ms) := hv
  clear hne hv
  go_enter Tryz.func10, Tryz.ntmps10
  go_wp2_with (go_at_call 31; refine (check_any ms _ _ HV.out).mono ?_; rintro e w' ⟨rfl, hb2⟩)
  go_ret2
  exact ⟨rfl, hb2⟩

set_option maxHeartbeats 1600000 in
theorem open_good (ms : List Gwy) (v : Value) (name : ByteArray) (addr : Int) (w : World) (hv : Sl w v ms) (h0 : chk ms = 0) (hs : name.size ≤ maxLen) (p : Nat) (f : Bool) (hat : At ms ⟨name, 0, 0⟩ p f) :
    Calls Tryz.prog 10 #[v, .string name, .int .i64 addr] w fun e w' => ∃ v', e = .returned (.tuple #[v', .int .i64 (joinE ms [opn ms p f name addr])]) ∧ Below w.heap.size w w' ∧
      (joinE ms [opn ms p f name addr] ≠ 0 → v' = .slice none 0 0) ∧ (joinE ms [opn ms p f name addr] = 0 → Own w.heap.size w' v' (joinL ms [opn ms p f name addr])) := by
  have he : (chk ms != 0) = false := by simpa using h0
  have hz := chk_zero h0
  have HV : Hid (Sl w v ms) := hv
  have HR : Hid (Rise ms) := hz.2.1
  have hlen := hz.1
  have HF : Hid (firstE ms = 0) := hz.2.2
  have HAT : Hid (At ms ⟨name, 0, 0⟩ p f) := hat
  obtain ⟨pa, ca, rfl, _, _⟩ := hv
  have HG : Hid (opn ms p f name addr = ⟨name, addr, (fnd ms p f).version + 1⟩) := rfl
  generalize opn ms p f name addr = g at *
  clear h0 hz hat
  go_enter Tryz.func10, Tryz.ntmps10
  go_wp2_with (go_at_call 31; refine (check_any ms _ _ HV.out).mono ?_; rintro e w1 ⟨rfl, hb1⟩)
  refine (find2_any ms _ name _ (HV.out.below hb1) hlen HR.out).mono ?_
  rintro e w2 ⟨p', f', rfl, hb2, hat'⟩
  obtain ⟨rfl, rfl⟩ := at_uniq HAT.out hat'
  have hver := fnd_ver HF.out hat'
  have HB2 : Hid (Below w.heap.size w w2) := hb1.trans (hb2.mono hb1.size)
  have hs2 := HB2.out.size
  have HV2 : Hid (Sl w2 (.slice pa ms.length ca) ms) := (HV.out.below hb1).below hb2
  clear hat' hb1 hb2 HV
  generalize fnd ms p f = kn at *
  obtain ⟨kc, ka, kv⟩ := kn
  simp only at hver
  obtain ⟨hv0, hv1⟩ := hver
  go_wp2_with fail
  refine (join_any ms [g] (.slice pa ms.length ca) (.slice (some ⟨w2.heap.size + 1 + 1, 0, none⟩) 1 1) _ _ _ ?ha ?hb ?hpb ?hc0 ?hc1).mono ?_
  case ha => exact HV2.out.below ((((((Below.refl _ _).alloc (Nat.le_refl _) _).alloc (by simp) _).alloc (by simp; omega) _).alloc (by simp; omega) _))
  case hb =>
    rw [HG.out]
    refine sl_one _ _ _ ⟨name, addr, kv + 1⟩ hs ?_
    refine (Below.heap_alloc _ _ _ (by simp)).trans ?_
    have h := heap_alloc_new ((w2.alloc (.cells #[.string kc, .int .i64 ka, .int .i64 kv] 62)).alloc (.cells #[.string name, .int .i64 addr, .int .i64 (kv + 1)] 62)) (.cells #[.string name, .int .i64 addr, .int .i64 (kv + 1)] 62)
    simpa using h
  case hpb => simp
  case hc0 => exact (cell_topL (by simp)).trans rfl
  case hc1 => exact (cell_topL (by simp)).trans rfl
  rintro e w3 ⟨v', rfl, hb3, hbad, hgood⟩
  have HBAD : Hid (joinE ms [g] ≠ 0 → v' = .slice none 0 0) := hbad
  have HB3 : Hid (Below w.heap.size w w3) := ((((HB2.out.alloc hs2 _).alloc (by simp; omega) _).alloc (by simp; omega) _).alloc (by simp; omega) _).trans (hb3.mono (by simp; omega))
  have HGOOD : Hid (joinE ms [g] = 0 → Own w.heap.size w3 v' (joinL ms [g])) := fun h => (hgood h).mono (by simp; omega)
  clear hbad hgood hb3
  go_wp2_with fail
  go_ret2
  exact ⟨v', rfl, HB3.out, HBAD.out, HGOOD.out⟩

/-- F3: Next's errno, of gateways that are right. -/
def nextE (f : Bool) (here to : ByteArray) : Int := if (labB here && labB to) = true then (if here = to then 6 else if f = true then 0 else 5) else 1

set_option maxHeartbeats 400000 in
theorem next_bad (ms : List Gwy) (v : Value) (here to : ByteArray) (w : World) (hv : Sl w v ms) (hne : chk ms ≠ 0) :
    Calls Tryz.prog 23 #[v, .string here, .string to] w fun e w' => e = .returned (.tuple #[.int .i64 0, .int .i64 (chk ms)]) ∧ Below w.heap.size w w' := by
  have he : (chk ms != 0) = true := by simpa using hne
  have HV : Hid (Sl w v ms) := hv
  clear hne hv
  go_enter Tryz.func23, Tryz.ntmps23
  go_wp2_with (go_at_call 31; refine (check_any ms _ _ HV.out).mono ?_; rintro e w' ⟨rfl, hb2⟩)
  go_ret2
  exact ⟨rfl, hb2⟩

theorem labels2_any (a b : ByteArray) (ha : a.size ≤ maxLen) (hb : b.size ≤ maxLen) (W : World) :
    Calls Tryz.prog 53 #[.slice (some ⟨W.heap.size, 0, none⟩) 2 2] (W.alloc (.cells #[.string a, .string b] 9)) fun e w' => e = .returned (.bool (labB a && labB b)) ∧ w' = W.alloc (.cells #[.string a, .string b] 9) := by
  have hg := heap_alloc_new W (.cells #[.string a, .string b] 9)
  refine (labels_any [a, b] W.heap.size 2 _ (fun j hj => ?_) (fun j => ?_) (by simp)).mono ?_
  · rw [cellsAt hg]
    have : j = 0 ∨ j = 1 := by simp at hj; omega
    rcases this with rfl | rfl <;> rfl
  · match j with
    | 0 => exact ha
    | 1 => exact hb
    | _ + 2 => simp [List.getD]
  · rintro e w' ⟨rfl, rfl⟩
    exact ⟨ret_bool (by simp), rfl⟩

/-- F3: the address that Next tells. -/
def nextA (ms : List Gwy) (p : Nat) (f : Bool) (here to : ByteArray) : Int := if nextE f here to = 0 then (fnd ms p f).addr else 0

set_option maxHeartbeats 1600000 in
theorem next_good (ms : List Gwy) (v : Value) (here to : ByteArray) (w : World) (hv : Sl w v ms) (h0 : chk ms = 0) (hs : here.size ≤ maxLen) (ht : to.size ≤ maxLen) (p : Nat) (f : Bool) (hat : At ms ⟨to, 0, 0⟩ p f) :
    Calls Tryz.prog 23 #[v, .string here, .string to] w fun e w' => e = .returned (.tuple #[.int .i64 (nextA ms p f here to), .int .i64 (nextE f here to)]) ∧ Below w.heap.size w w' := by
  have he : (chk ms != 0) = false := by simpa using h0
  have hz := chk_zero h0
  have HV : Hid (Sl w v ms) := hv
  have HR : Hid (Rise ms) := hz.2.1
  have hlen := hz.1
  have HAT : Hid (At ms ⟨to, 0, 0⟩ p f) := hat
  clear hv h0 hz hat
  rcases hl : (labB here && labB to) with _ | _
  · have hN : nextE f here to = 1 := by rw [nextE, hl]; rfl
    have HN : Hid (nextE f here to = 1 ∧ nextA ms p f here to = 0) := ⟨hN, by rw [nextA, hN]; rfl⟩
    clear hN
    go_enter Tryz.func23, Tryz.ntmps23
    go_wp2_with (first | (go_at_call 31; refine (check_any ms _ _ HV.out).mono ?_; rintro e w1 ⟨rfl, hb1⟩) | (go_at_call 53; refine (labels2_any _ _ hs ht _).mono ?_; rintro e w' ⟨rfl, rfl⟩; rw [hl]))
    go_ret2
    exact ⟨by rw [HN.out.1, HN.out.2]; rfl, hb1.alloc hb1.size _⟩
  · by_cases hht : here = to
    · subst hht
      have hN : nextE f here here = 6 := by rw [nextE, hl, if_pos rfl, if_pos rfl]
      have HN : Hid (nextE f here here = 6 ∧ nextA ms p f here here = 0) := ⟨hN, by rw [nextA, hN]; rfl⟩
      clear hN
      go_enter Tryz.func23, Tryz.ntmps23
      go_wp2_with (first | (go_at_call 31; refine (check_any ms _ _ HV.out).mono ?_; rintro e w1 ⟨rfl, hb1⟩) | (go_at_call 53; refine (labels2_any _ _ hs ht _).mono ?_; rintro e w' ⟨rfl, rfl⟩; rw [hl]))
      go_ret2
      exact ⟨by rw [HN.out.1, HN.out.2]; rfl, hb1.alloc hb1.size _⟩
    · obtain ⟨g1, g2⟩ := beq_name hht
      have hN : nextE f here to = if f = true then 0 else 5 := by rw [nextE, hl, if_pos rfl, if_neg hht]
      have HN : Hid (nextE f here to = (if f = true then 0 else 5) ∧ nextA ms p f here to = if f = true then (fnd ms p f).addr else 0) := ⟨hN, by rw [nextA, hN]; cases f <;> rfl⟩
      clear hN
      clear hht
      go_enter Tryz.func23, Tryz.ntmps23
      go_wp2_with (first | (go_at_call 31; refine (check_any ms _ _ HV.out).mono ?_; rintro e w1 ⟨rfl, hb1⟩) | (go_at_call 53; refine (labels2_any _ _ hs ht _).mono ?_; rintro e w' ⟨rfl, rfl⟩; rw [hl]))
      have hbx := hb1.alloc hb1.size (.cells #[.string here, .string to] 9)
      refine (find2_any ms _ to _ (HV.out.below hbx) hlen HR.out).mono ?_
      rintro e w2 ⟨p', f', rfl, hb2, hat'⟩
      obtain ⟨rfl, rfl⟩ := at_uniq HAT.out hat'
      have HB2 : Hid (Below w.heap.size w w2) := hbx.trans (hb2.mono (by simp; have := hb1.size; omega))
      clear hat' hb1 hb2 hbx
      generalize fnd ms p f = kn at *
      obtain ⟨kc, ka, kv⟩ := kn
      have hs2 := HB2.out.size
      cases f
      · go_wp2_with fail
        go_ret2
        exact ⟨by rw [HN.out.1, HN.out.2]; rfl, HB2.out.alloc hs2 _⟩
      · go_wp2_with fail
        go_ret2
        exact ⟨by rw [HN.out.1, HN.out.2]; rfl, HB2.out.alloc hs2 _⟩

def gC : Gwy := ⟨⟨#[99]⟩, 7, 1⟩
theorem lab_c : labB ⟨#[99]⟩ = true := by decide
theorem lab_h : labB ⟨#[104]⟩ = true := by decide
theorem chk_gC : chk [gC] = 0 := by rw [chk_one]; decide
theorem at_nil (t : Gwy) : At [] t 0 false := ⟨by simp, fun j h => by omega, fun j h h2 => by simp at h2, by simp⟩
theorem at_gC : At [gC] ⟨⟨#[99]⟩, 0, 0⟩ 0 true := RL.at_of ord dm keyed (by simp [RL.Rise]) (by simp) ((cmpI_eq _ _).2 rfl)
theorem join_gC : joinE [] [gC] = 0 := by
  rw [joinE_good chk_nil chk_gC]; rfl

set_option maxHeartbeats 800000 in
theorem begun_any (w : World) : Calls Tryz.prog 5 #[] w fun e w' => e = .returned (.bool true) ∧ Below w.heap.size w w' := by
  go_enter Tryz.func5, Tryz.ntmps5
  go_wp2_with fail
  refine (open_good [] _ ⟨#[99]⟩ 7 _ (sl_nil _) chk_nil (by decide) 0 false (at_nil _)).mono ?_
  rintro e w1 ⟨v1, rfl, hb1, _, h1⟩
  have hg : opn [] 0 false ⟨#[99]⟩ 7 = gC := rfl
  rw [hg] at h1 ⊢
  have ho1 : Own w.heap.size w1 v1 [gC] := h1 join_gC
  rw [join_gC]
  have HO1 : Hid (Own w.heap.size w1 v1 [gC]) := ho1
  clear h1 ho1 hg
  go_wp2_with fail
  refine (next_good [gC] v1 ⟨#[104]⟩ ⟨#[99]⟩ _ (own_names HO1.out (by intro m hm; simp at hm; subst hm; show (⟨#[99]⟩ : ByteArray).size ≤ maxLen; decide)) chk_gC (by decide) (by decide) 0 true at_gC).mono ?_
  rintro e w2 ⟨rfl, hb2⟩
  have hn : nextE true ⟨#[104]⟩ ⟨#[99]⟩ = 0 := by decide
  have hf : nextA [gC] 0 true ⟨#[104]⟩ ⟨#[99]⟩ = 7 := by rw [nextA, hn]; rfl
  rw [hn, hf]
  have HB : Hid (Below w.heap.size w w2) := hb1.trans (hb2.mono hb1.size)
  clear hb1 hb2 hn hf
  go_wp2_with fail
  go_ret
  exact ⟨rfl, HB.out⟩

end Gw
end Go.Proofs.YtkicpbomjpgjpaaGreat

/- gateways: whoever joins the same, in whatever order, has the same: of plain lists; and what the laws ask. -/
namespace Go.Proofs.YtkicpbomjpgjpaaGreat
namespace Gw
open Go.RowKit

theorem joinL_comm {a b : List Gwy} (ha : Rise a) (hb : Rise b) : joinL a b = joinL b a := RL.join_comm ord newE keyed newest ha hb
theorem joinL_assoc {a b c : List Gwy} (ha : Rise a) (hb : Rise b) (hc : Rise c) : joinL (joinL a b) c = joinL a (joinL b c) := RL.join_assoc ord newE keyed newest ha hb hc
theorem joinL_absorb {a b : List Gwy} (ha : Rise a) (hb : Rise b) : joinL (joinL a b) a = joinL a b := RL.join_absorb ord newE keyed newest ha hb

theorem joinE_zero {a b : List Gwy} (h : joinE a b = 0) : chk a = 0 ∧ chk b = 0 ∧ (joinL a b).length ≤ 6 := by
  by_cases ha : chk a = 0
  · by_cases hb : chk b = 0
    · rw [joinE_good ha hb] at h
      refine ⟨ha, hb, ?_⟩
      split at h
      · cases h
      · omega
    · rw [joinE_bad2 ha hb] at h; exact absurd h hb
  · rw [joinE_bad1 ha] at h; exact absurd h ha
theorem joinE_mk {a b : List Gwy} (ha : chk a = 0) (hb : chk b = 0) (hl : (joinL a b).length ≤ 6) : joinE a b = 0 := by
  rw [joinE_good ha hb, if_neg (by omega)]
theorem joinE_right {a b : List Gwy} (h : joinE a b = 0) : chk (joinL a b) = 0 := by
  obtain ⟨ha, hb, hl⟩ := joinE_zero h
  have za := chk_zero ha
  have zb := chk_zero hb
  exact chk_of hl (joinL_rise b a za.2.1) fun m hm => by
    rcases joinL_mem b a m hm with h | h
    · exact firstE_mem a za.2.2 m h
    · exact firstE_mem b zb.2.2 m h

/-- What is handed back: with an error nothing. -/
def jx (a b : List Gwy) : List Gwy := if joinE a b = 0 then joinL a b else []
theorem jx_len (a b : List Gwy) : (jx a b).length ≤ 6 := by
  unfold jx
  split
  · rename_i h; exact (joinE_zero h).2.2
  · simp
theorem jx_ok {a b : List Gwy} (ha : ∀ m ∈ a, (m).ok) (hb : ∀ m ∈ b, (m).ok) : ∀ m ∈ jx a b, (m).ok := by
  unfold jx
  split
  · exact ns_join b a ha hb
  · simp
theorem joinE_comm0 {a b : List Gwy} (h : joinE a b = 0) : joinE b a = 0 := by
  obtain ⟨ha, hb, hl⟩ := joinE_zero h
  exact joinE_mk hb ha (by rw [← joinL_comm (chk_zero ha).2.1 (chk_zero hb).2.1]; exact hl)
theorem jx_comm (a b : List Gwy) : jx a b = jx b a := by
  unfold jx
  by_cases h : joinE a b = 0
  · obtain ⟨ha, hb, hl⟩ := joinE_zero h
    rw [if_pos h, if_pos (joinE_comm0 h), joinL_comm (chk_zero ha).2.1 (chk_zero hb).2.1]
  · rw [if_neg h, if_neg (fun h' => h (joinE_comm0 h'))]
theorem jx_assoc {l o t : List Gwy} (h1 : joinE l o = 0) (h3 : joinE (jx l o) t = 0) (h4 : joinE o t = 0) : joinE l (jx o t) = 0 ∧ jx (jx l o) t = jx l (jx o t) := by
  have e1 : jx l o = joinL l o := if_pos h1
  have e4 : jx o t = joinL o t := if_pos h4
  rw [e1] at h3
  rw [e1, e4]
  obtain ⟨hl, ho, _⟩ := joinE_zero h1
  obtain ⟨_, ht, hlen⟩ := joinE_zero h3
  have e := joinL_assoc (chk_zero hl).2.1 (chk_zero ho).2.1 (chk_zero ht).2.1
  have h5 : joinE l (joinL o t) = 0 := joinE_mk hl (joinE_right h4) (by rw [← e]; exact hlen)
  exact ⟨h5, by rw [jx, jx, if_pos h3, if_pos h5, e]⟩
theorem jx_absorb {a b : List Gwy} (h : joinE a b = 0) : joinE (jx a b) a = 0 ∧ jx (jx a b) a = jx a b := by
  have e1 : jx a b = joinL a b := if_pos h
  rw [e1]
  obtain ⟨ha, hb, hl⟩ := joinE_zero h
  have e := joinL_absorb (chk_zero ha).2.1 (chk_zero hb).2.1
  have h5 : joinE (joinL a b) a = 0 := joinE_mk (joinE_right h) ha (by rw [e]; exact hl)
  exact ⟨h5, by rw [jx, if_pos h5, e]⟩

theorem sl_ok {w : World} {v : Value} {ms : List Gwy} (h : Sl w v ms) : ∀ m ∈ ms, (m).ok := by obtain ⟨_, _, _, h, _⟩ := h; exact ns_mem h

theorem same_eq (L : List Gwy) (v1 v2 : Value) (w : World) (h1 : Sl w v1 L) (h2 : Sl w v2 L) (hn : L.length ≤ 1000) :
    Calls Tryz.prog 13 #[v1, v2] w fun e w' => e = .returned (.bool true) ∧ Below w.heap.size w w' := by
  refine (same_any L L v1 v2 w h1 h2 hn).mono ?_
  rintro e w' ⟨r, rfl, h, hb⟩
  exact ⟨ret_bool (h.2 rfl), hb⟩

end Gw
end Go.Proofs.YtkicpbomjpgjpaaGreat

/- gateways: what they must be beside an errno. -/
namespace Go.Proofs.YtkicpbomjpgjpaaGreat
namespace Gw
open Go.RowKit

end Gw
end Go.Proofs.YtkicpbomjpgjpaaGreat

