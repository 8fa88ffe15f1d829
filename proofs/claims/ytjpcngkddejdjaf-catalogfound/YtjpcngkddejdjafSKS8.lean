
/- The document's Register and Drop; Drop; the law CatalogRegisters. -/
import Derived.Test.YtjpcngkddejdjafSKS7
namespace Go.Proofs.Ytjpcngkddejdjaf
namespace Sv
open Go.RowKit

def asOne (s : Svc) : Svc := { s with version := 1, gone := false }
def regE (ms : List Svc) (p : Nat) (f : Bool) (s : Svc) : Int := if (asOne s).e = 0 then setE ms p f (asOne s) else (asOne s).e
theorem reg_set (ms : List Svc) (p : Nat) (f : Bool) (s : Svc) : setS ms p f (asOne s) = reg ms p f s := rfl

theorem reg_e (ms : List Svc) (p : Nat) (f : Bool) (s : Svc) (hv : 0 ≤ (fnd ms p f).version) : (reg ms p f s).e = if (asOne s).e = 0 then (if (fnd ms p f).version + 1 ≤ 1000000 then 0 else 3) else (asOne s).e := by
  have h : (within ((fnd ms p f).version + 1) 1 1000000 = true) ↔ (fnd ms p f).version + 1 ≤ 1000000 := by simp [within]; omega
  have h1 : within (1 : Int) 1 1000000 = true := by decide
  rw [e_if, e_if]
  show (if labB s.node = true then (if labB s.idn = true then (if labB s.name = true then (if tagB s.tag = true then (if within s.addr 0 4294967295 = true then (if within s.port 0 65535 = true then (if within ((fnd ms p f).version + 1) 1 1000000 = true then (0 : Int) else 3) else 3) else 3) else 1) else 1) else 1) else 1) = (if (if labB s.node = true then (if labB s.idn = true then (if labB s.name = true then (if tagB s.tag = true then (if within s.addr 0 4294967295 = true then (if within s.port 0 65535 = true then (if within (1 : Int) 1 1000000 = true then (0 : Int) else 3) else 3) else 3) else 1) else 1) else 1) else 1) = 0 then (if (fnd ms p f).version + 1 ≤ 1000000 then 0 else 3) else (if labB s.node = true then (if labB s.idn = true then (if labB s.name = true then (if tagB s.tag = true then (if within s.addr 0 4294967295 = true then (if within s.port 0 65535 = true then (if within (1 : Int) 1 1000000 = true then (0 : Int) else 3) else 3) else 3) else 1) else 1) else 1) else 1))
  rw [h1]
  by_cases h3 : (fnd ms p f).version + 1 ≤ 1000000
  · rw [h.2 h3]
    cases labB s.node <;> cases labB s.idn <;> cases labB s.name <;> cases tagB s.tag <;> cases within s.addr 0 4294967295 <;> cases within s.port 0 65535 <;> simp [h3]
  · have h4 : within ((fnd ms p f).version + 1) 1 1000000 = false := by
      cases hw : within ((fnd ms p f).version + 1) 1 1000000
      · rfl
      · exact absurd (h.1 hw) h3
    rw [h4]
    cases labB s.node <;> cases labB s.idn <;> cases labB s.name <;> cases tagB s.tag <;> cases within s.addr 0 4294967295 <;> cases within s.port 0 65535 <;> simp [h3]

theorem up_new {ms : List Svc} {p : Nat} {f : Bool} {m : Svc} (hf : f = true) (hm : m.version = (fnd ms p f).version + 1) : newE m (ms.getD p dm) = true := by
  rw [newE_def]
  have hv : m.version = (ms.getD p dm).version + 1 := by rw [hm, fnd, if_pos hf]
  rw [if_neg (by omega)]
  exact decide_eq_true (by omega)

theorem reg_join {ms : List Svc} (h0 : chk ms = 0) {p : Nat} {f : Bool} {s : Svc} (hat : At ms (keyOf s) p f) :
    joinE ms [reg ms p f s] = regE ms p f s ∧ joinL ms [reg ms p f s] = RL.put ms (reg ms p f s) p f := by
  have h1 : At ms (reg ms p f s) p f := at_key (s := keyOf s) (t := reg ms p f s) rfl rfl hat
  have h2 : joinL ms [reg ms p f s] = RL.put ms (reg ms p f s) p f := (put_hear h1 (fun hf => up_new hf rfl)).symm
  refine ⟨?_, h2⟩
  have hv := fnd_ver (chk_zero h0).2.2 hat
  have he := reg_e ms p f s hv.1
  unfold regE
  by_cases h3 : (asOne s).e = 0
  · rw [if_pos h3] at he ⊢
    unfold setE
    rw [reg_set]
    by_cases h4 : (fnd ms p f).version + 1 ≤ 1000000
    · rw [if_pos h4] at he ⊢
      rw [joinE_good h0 (by rw [chk_one]; exact he), h2]
    · rw [if_neg h4] at he ⊢
      rw [joinE_bad2 h0 (by rw [chk_one, he]; decide), chk_one, he]
  · rw [if_neg h3] at he ⊢
    rw [joinE_bad2 h0 (by rw [chk_one, he]; exact h3), chk_one, he]

end Sv
end Go.Proofs.Ytjpcngkddejdjaf
