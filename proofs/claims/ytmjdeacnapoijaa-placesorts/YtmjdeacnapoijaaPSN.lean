
/- The order of names: by how far they are, then by name. -/
import Derived.Test.YtmjdeacnapoijaaPS5
import Derived.Test.YtmjdeacnapoijaaPS0
import Derived.Test.YtmjdeacnapoijaaRK
namespace Go.Proofs.Ytmjdeacnapoijaa
open Go.RowKit Go.Sort Go.Lib Go.WideMaps Go.Maps

def cfN (d : ByteArray → Int) (a b : ByteArray) : Int := orZ (cmpZ (d a) (d b)) (cmpI a b)
theorem cfN_neg (d : ByteArray → Int) (a b : ByteArray) : cfN d a b < 0 ↔ d a < d b ∨ (d a = d b ∧ cmpI a b < 0) := by
  unfold cfN orZ cmpZ
  generalize d a = x
  generalize d b = y
  repeat' split
  all_goals omega
def ltN (d : ByteArray → Int) (a b : ByteArray) : Bool := decide (cfN d a b < 0)
theorem ltN_true (d : ByteArray → Int) (a b : ByteArray) : ltN d a b = true ↔ d a < d b ∨ (d a = d b ∧ cmpI a b < 0) := by
  rw [ltN, decide_eq_true_iff, cfN_neg]
theorem ltN_false (d : ByteArray → Int) (a b : ByteArray) : ltN d a b = false ↔ ¬ (d a < d b ∨ (d a = d b ∧ cmpI a b < 0)) := by
  rw [← ltN_true, Bool.not_eq_true]
theorem cmpI_ge {a b c : ByteArray} (h1 : ¬ cmpI a b < 0) (h2 : ¬ cmpI b c < 0) : ¬ cmpI a c < 0 := fun h => by
  rcases Int.lt_trichotomy (cmpI a b) 0 with h3 | h3 | h3
  · exact h1 h3
  · have e := (cmpI_eq a b).1 h3
    rw [e] at h
    exact h2 h
  · exact h2 (cmpI_trans b a c ((cmpI_flip a b).1 h3) h)
theorem swoN (d : ByteArray → Int) : SWO (ltN d) where
  irrefl x := by rw [ltN_false, cmpI_self]; omega
  trans x y z h1 h2 := by
    rw [ltN_true] at *
    rcases h1 with h1 | ⟨h1, h3⟩
    · rcases h2 with h2 | ⟨h2, _⟩ <;> omega
    · rcases h2 with h2 | ⟨h2, h4⟩
      · omega
      · exact .inr ⟨by omega, cmpI_trans x y z h3 h4⟩
  ntrans x y z h1 h2 := by
    rw [ltN_false] at *
    rintro (h | ⟨h, h3⟩)
    · omega
    · have hd : d x = d y ∧ d y = d z := by omega
      exact cmpI_ge (fun h4 => h1 (.inr ⟨hd.1, h4⟩)) (fun h4 => h2 (.inr ⟨hd.2, h4⟩)) h3
theorem ltN_anti (d : ByteArray → Int) (a b : ByteArray) (h1 : ltN d a b = false) (h2 : ltN d b a = false) : a = b := by
  rw [ltN_false] at *
  have hd : d a = d b := by omega
  have h3 : ¬ cmpI a b < 0 := fun h => h1 (.inr ⟨hd, h⟩)
  have h4 : ¬ cmpI b a < 0 := fun h => h2 (.inr ⟨hd.symm, h⟩)
  have h5 := cmpI_flip a b
  exact (cmpI_eq a b).1 (by omega)

/-- The names as Sort has them. -/
def srt (p : Pl) (ms : List Wh.Whe) (ns : List ByteArray) : List ByteArray := So.insAll (ltN (dV (Dd (farW p) ms ms.length))) ns

end Go.Proofs.Ytmjdeacnapoijaa
