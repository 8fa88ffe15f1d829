
/- The laws MemberHears and MemberJoins. -/
import Derived.Test.YtcledbejggmfoacMQ
namespace Go.Proofs.Ytcledbejggmfoac
open Go.RowKit

theorem chk_one (m : Mem) : chk [m] = m.e := by
  unfold chk
  simp only [List.length_cons, List.length_nil, firstE, risesB]
  by_cases h : m.e = 0 <;> simp [h]

theorem sl_nil (w : World) : Sl w (.slice none 0 0) [] := ⟨none, 0, rfl, fun j => by simp [dm], .inl rfl⟩

theorem joinE_bad1 {a b : List Mem} (h : chk a ≠ 0) : joinE a b = chk a := by
  have : chkTwo a b = chk a := if_neg h
  rw [joinE, this, if_neg h]
theorem joinE_bad2 {a b : List Mem} (h : chk a = 0) (h2 : chk b ≠ 0) : joinE a b = chk b := by
  have : chkTwo a b = chk b := if_pos h
  rw [joinE, this, if_neg h2]
theorem joinE_good {a b : List Mem} (h : chk a = 0) (h2 : chk b = 0) : joinE a b = if 20 < (joinL a b).length then 2 else 0 := by
  have : chkTwo a b = 0 := (if_pos h).trans h2
  rw [joinE, if_pos this]

end Go.Proofs.Ytcledbejggmfoac
