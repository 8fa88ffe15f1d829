
/- The document's own Refute; the law MemberRefutes. -/
import Derived.Test.YtcledbejggmfoacMU
namespace Go.Proofs.Ytcledbejggmfoac
open Go.RowKit

theorem liveAgain_newer (m : Mem) : newM (liveAgain m) m = true := by
  have h : ¬ (m.life + 1 = m.life) := by omega
  show newB 1 (m.life + 1) m.addr m.server m.state m.life m.addr m.server = true
  unfold newB
  rw [if_neg h]
  simp
  omega
theorem hearL_again {ms : List Mem} {t : ByteArray} {p : Nat} (h : At ms t p true) : hearL ms (liveAgain (ms.getD p dm)) = ms.set p (liveAgain (ms.getD p dm)) := by
  have hn : (ms.getD p dm).name = t := (cmpI_eq _ _).1 (h.is.1 rfl).2
  have h' : At ms (liveAgain (ms.getD p dm)).name p true := by
    have : (liveAgain (ms.getD p dm)).name = t := hn
    rw [this]; exact h
  rw [hearL_at ms _ p true h', if_pos rfl, if_pos (liveAgain_newer _)]

def RefuteOfSays (ms : List Mem) (p : Nat) (f : Bool) (w : World) (e : Ending) (w' : World) : Prop :=
  ∃ v' : Value, e = .returned (.tuple #[v', .bool (refR ms p f), .int .i64 (refE ms p f)]) ∧ Below w.heap.size w w' ∧ (refE ms p f = 0 → Sl w' v' (refL ms p f))

theorem refL_len (ms : List Mem) (p : Nat) (f : Bool) : (refL ms p f).length = ms.length := by unfold refL; split <;> simp
theorem refL_names (ms : List Mem) (p : Nat) (f : Bool) (h : ∀ x ∈ ms, x.name.size ≤ maxLen) : ∀ x ∈ refL ms p f, x.name.size ≤ maxLen := by
  intro x hx
  unfold refL at hx
  split at hx
  · rcases List.mem_or_eq_of_mem_set hx with hx | rfl
    · exact h x hx
    · exact ns_get h p
  · exact h x hx

end Go.Proofs.Ytcledbejggmfoac
