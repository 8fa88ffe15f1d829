/- The document's Register and Drop; Drop; the law CatalogRegisters. -/
import Derived.Test.YtjpcngkddejdjaeSKS7
namespace Go.Proofs.Ytjpcngkddejdjae
namespace Sv
open Go.RowKit

def asOne (s : Svc) : Svc := { s with version := 1, gone := false }
def regE (ms : List Svc) (p : Nat) (f : Bool) (s : Svc) : Int := if (asOne s).e = 0 then setE ms p f (asOne s) else (asOne s).e
theorem reg_set (ms : List Svc) (p : Nat) (f : Bool) (s : Svc) : setS ms p f (asOne s) = reg ms p f s := rfl

theorem reg_e (ms : List Svc) (p : Nat) (f : Bool) (s : Svc) (hv : 0 ≤ (fnd ms p f).version) : (reg ms p f s).e = if (asOne s).e = 0 then (if (fnd ms p f).version + 1 ≤ 1000000 then 0 else 3) else (asOne s).e := by
  have h : (within ((fnd ms p f).version + 1) 1 1000000 = true) ↔ (fnd ms p f).version + 1 ≤ 1000000 := by simp [within]; omega
  have h1 : within (1 : Int) 1 1000000 = true := by decide
  rw [e_if, e_if]
  show (if labB s.node = true then (if labB s.idn = true then (if labB s.name = true then (if tagB s.tag = true then (if within s.addr 0 4294967295 = true then (if within s.port 0 65535 = true then (if within ((fnd ms p f).version + 1) 1 1000000 = true then (0 : Int) else 3) else 3) else 3) else 1) else 1) else 1) else 1) = (if (if labB s.node = true then (if labB s.idn = true then (if labB s.name = true then (if tagB s.tag = true then (if within s.addr 0 4294967295 = true then (if within s.port 0 65535 = true then (if within (1 : Int) 1 1000000 = true then (0 : Int) else 3) else 3) else 3) else 1) else 1) else 1) else 1) = 0 then (if (fnd ms p f).version + 1 ≤ 1000000 then 0 else 3) else (if labB s.node = true then (if labB s.idn = true then (if labB s.name = true then (if tagB s.tag = true then (if within s.addr 0 4294967295 = true then (if within s.port 0 65535 = true then (if within (1 : Int) 1 1000000 = true then (0 : Int) else 3) else 3) else 3) else 1) else 1) else 1) else 1))
  rw [h1]
  by_cases h3 : (fnd ms p f).version + 1 ≤ 1000000
  · rw [h.2 h3]
    cases labB s.node <;> cases labB s.idn <;> cases labB s.name <;> cases tagB s.tag <;> cases within s.addr 0 4294967295 <;> cases within s.port 0 65535 <;> simp [h3]
  · have h4 : within ((fnd ms p f).version + 1) 1 1000000 = false := by
      cases hw : within ((fnd ms p f).version + 1) 1 1000000
      · rfl
      · exact absurd (h.1 hw) h3
    rw [h4]
    cases labB s.node <;> cases labB s.idn <;> cases labB s.name <;> cases tagB s.tag <;> cases within s.addr 0 4294967295 <;> cases within s.port 0 65535 <;> simp [h3]

theorem up_new {ms : List Svc} {p : Nat} {f : Bool} {m : Svc} (hf : f = true) (hm : m.version = (fnd ms p f).version + 1) : newE m (ms.getD p dm) = true := by
  rw [newE_def]
  have hv : m.version = (ms.getD p dm).version + 1 := by rw [hm, fnd, if_pos hf]
  rw [if_neg (by omega)]
  exact decide_eq_true (by omega)

theorem reg_join {ms : List Svc} (h0 : chk ms = 0) {p : Nat} {f : Bool} {s : Svc} (hat : At ms (keyOf s) p f) :
    joinE ms [reg ms p f s] = regE ms p f s ∧ joinL ms [reg ms p f s] = RL.put ms (reg ms p f s) p f := by
  have h1 : At ms (reg ms p f s) p f := at_key (s := keyOf s) (t := reg ms p f s) rfl rfl hat
  have h2 : joinL ms [reg ms p f s] = RL.put ms (reg ms p f s) p f := (put_hear h1 (fun hf => up_new hf rfl)).symm
  refine ⟨?_, h2⟩
  have hv := fnd_ver (chk_zero h0).2.2 hat
  have he := reg_e ms p f s hv.1
  unfold regE
  by_cases h3 : (asOne s).e = 0
  · rw [if_pos h3] at he ⊢
    unfold setE
    rw [reg_set]
    by_cases h4 : (fnd ms p f).version + 1 ≤ 1000000
    · rw [if_pos h4] at he ⊢
      rw [joinE_good h0 (by rw [chk_one]; exact he), h2]
    · rw [if_neg h4] at he ⊢
      rw [joinE_bad2 h0 (by rw [chk_one, he]; decide), chk_one, he]
  · rw [if_neg h3] at he ⊢
    rw [joinE_bad2 h0 (by rw [chk_one, he]; exact h3), chk_one, he]

set_option maxHeartbeats 3200000 in
set_option maxRecDepth 100000 in
theorem refReg_any (ms : List Svc) (v : Value) (s : Svc) (w : World) (hv : Sl w v ms) (h0 : chk ms = 0) (hs : s.ok) (p : Nat) (f : Bool) (hat : At ms (keyOf s) p f) :
    Calls Try.prog 17 #[v, .agg #[.string s.node, .string s.idn, .string s.name, .string s.tag, .int .i64 s.addr, .int .i64 s.port, .bool s.passing, .int .i64 s.version, .bool s.gone]] w fun e w' => ∃ v', e = .returned (.tuple #[v', .int .i64 (regE ms p f s)]) ∧ Below w.heap.size w w' ∧ Hid (regE ms p f s = 0 → Sl w' v' (RL.put ms (reg ms p f s) p f)) := by
  have HS : Hid (∀ W, Sl W v ms → Calls Try.prog 38 #[v, .agg #[.string (asOne s).node, .string (asOne s).idn, .string (asOne s).name, .string (asOne s).tag, .int .i64 (asOne s).addr, .int .i64 (asOne s).port, .bool (asOne s).passing, .int .i64 (asOne s).version, .bool (asOne s).gone]] W fun e w' => ∃ v', e = .returned (.tuple #[v', .int .i64 (setE ms p f (asOne s))]) ∧ Below W.heap.size W w' ∧ Hid (setE ms p f (asOne s) = 0 → Sl w' v' (RL.put ms (reg ms p f s) p f))) := fun W hW => refSet_any ms v (asOne s) W hW h0 hs p f (at_key (s := keyOf s) (t := asOne s) rfl rfl hat)
  have HO : Hid (∀ W, Calls Try.prog 13 #[.agg #[.string (asOne s).node, .string (asOne s).idn, .string (asOne s).name, .string (asOne s).tag, .int .i64 (asOne s).addr, .int .i64 (asOne s).port, .bool (asOne s).passing, .int .i64 (asOne s).version, .bool (asOne s).gone]] W fun e w' => e = .returned (.int .i64 (asOne s).e) ∧ Below W.heap.size W w') := fun W => refOne_any (asOne s) W hs
  have HE : Hid (regE ms p f s = if (asOne s).e = 0 then setE ms p f (asOne s) else (asOne s).e) := rfl
  have HV : Hid (Sl w v ms) := hv
  generalize regE ms p f s = re at *
  generalize setE ms p f (asOne s) = se at *
  generalize RL.put ms (reg ms p f s) p f = pl at *
  generalize hoe : (asOne s).e = oe at *
  clear hoe hv h0 hs hat
  obtain ⟨s_node, s_idn, s_name, s_tag, s_addr, s_port, s_passing, s_version, s_gone⟩ := s
  simp only [asOne] at HS HO
  have hb0 : Below w.heap.size w (w.alloc (.cells #[.string s_node, .string s_idn, .string s_name, .string s_tag, .int .i64 s_addr, .int .i64 s_port, .bool s_passing, .int .i64 1, .bool false] 28)) := (Below.refl _ _).alloc (Nat.le_refl _) _
  rcases he : decide (oe = 0) with _ | _
  · have he' : (oe != 0) = true := by simpa using he
    have HR : Hid (re = oe) := HE.out.trans (if_neg (by simpa using he))
    have HNZ : Hid (oe ≠ 0) := (show oe ≠ 0 by simpa using he)
    clear he
    go_enter Try.func17, Try.ntmps17
    go_wp2_with (go_at_call 13; refine (HO.out _).mono ?_; rintro e w1 ⟨rfl, hb1⟩)
    go_ret2
    exact ⟨_, by rw [HR.out]; rfl, hb0.trans (hb1.mono (by simp)), fun h => absurd (HR.out.symm.trans h) HNZ.out⟩
  · have he' : (oe != 0) = false := by simpa using he
    have HR : Hid (re = se) := HE.out.trans (if_pos (by simpa using he))
    clear he
    go_enter Try.func17, Try.ntmps17
    go_wp2_with fail
    refine (HO.out _).mono ?_
    rintro e w1 ⟨rfl, hb1⟩
    have hs1 : w.heap.size + 1 ≤ w1.heap.size := by have := hb1.size; simpa using this
    have hbc : ∀ o, w1.cell? ⟨w.heap.size, o, none⟩ = (w.alloc (.cells #[.string s_node, .string s_idn, .string s_name, .string s_tag, .int .i64 s_addr, .int .i64 s_port, .bool s_passing, .int .i64 1, .bool false] 28)).cell? ⟨w.heap.size, o, none⟩ := fun o => hb1.cell (p := ⟨w.heap.size, o, none⟩) (by simp)
    have HB1 : Hid (Below w.heap.size w w1) := hb0.trans (hb1.mono (by simp))
    clear hb0 hb1
    go_wp2_with fail
    refine (HS.out _ (HV.out.below HB1.out)).mono ?_
    rintro e w2 ⟨v2, rfl, hb2, hv2⟩
    have HB2 : Hid (Below w.heap.size w w2) := HB1.out.trans (hb2.mono HB1.out.size)
    clear hb2
    go_wp2_with fail
    go_ret2
    exact ⟨_, by rw [HR.out]; rfl, HB2.out, fun h => hv2.out (HR.out.symm.trans h)⟩

end Sv
end Go.Proofs.Ytjpcngkddejdjae
