
/- The document's own Register: by one more version. -/
import Derived.Test.YtjpcngkddejdjafSKS9
namespace Go.Proofs.Ytjpcngkddejdjaf
namespace Sv
open Go.RowKit

theorem at_key {ms : List Svc} {s t : Svc} {p : Nat} {f : Bool} (hk : s.node = t.node) (hi : s.idn = t.idn) (h : At ms s p f) : At ms t p f := by
  have e : ∀ x, ord x s = ord x t := fun x => by
    show (if cmpI x.node s.node = 0 then cmpI x.idn s.idn else cmpI x.node s.node) = (if cmpI x.node t.node = 0 then cmpI x.idn t.idn else cmpI x.node t.node)
    rw [hk, hi]
  exact ⟨h.le, fun j hj => by rw [← e]; exact h.lo j hj, fun j hj hl => by rw [← e]; exact h.hi j hj hl, by rw [← e]; exact h.is⟩

theorem put_ok {ms : List Svc} {m : Svc} {p : Nat} {f : Bool} (h : ∀ x ∈ ms, x.ok) (hm : m.ok) : ∀ x ∈ RL.put ms m p f, x.ok := fun x hx => by
  unfold RL.put at hx
  rcases List.mem_append.1 hx with hx | hx
  · exact h x (List.mem_of_mem_take hx)
  · rcases List.mem_cons.1 hx with rfl | hx
    · exact hm
    · exact h x (List.mem_of_mem_drop hx)

/-- A service by one more version. -/
def setS (ms : List Svc) (p : Nat) (f : Bool) (s : Svc) : Svc := { s with version := (fnd ms p f).version + 1 }
def setE (ms : List Svc) (p : Nat) (f : Bool) (s : Svc) : Int :=
  if (fnd ms p f).version + 1 ≤ 1000000 then (if 40 < (RL.put ms (setS ms p f s) p f).length then 2 else 0) else 3

end Sv
end Go.Proofs.Ytjpcngkddejdjaf
