
/- Live, LiveOf, SameTexts, RefuteOf. -/
import Derived.Test.YtcledbejggmfoacMR
namespace Go.Proofs.Ytcledbejggmfoac
open Go.RowKit

theorem Try.info9 : (Try.prog.info? 9).map (fun i => (i.zero, i.size, i.bytes)) = some (some (.string ⟨#[]⟩), 1, 16) := by kernel_rfl

abbrev OwnS (base : Nat) (w : World) (v : Value) (l : List ByteArray) : Prop := w.ownsRow base 9 1 v l.length (l.map Value.string)

theorem ownS_nil (base : Nat) (w : World) : OwnS base w (.slice none 0 0) [] := World.ownsRow_nil w base 9 1
theorem OwnS.below {base : Nat} {w w' : World} {v : Value} {l : List ByteArray} (h : OwnS base w v l) (hb : Below w.heap.size w w') : OwnS base w' v l := by
  rcases h.2 with ⟨rfl, h0⟩ | ⟨g, c, cur, rfl, hbg, hg, hnc, hcm, hcs, htake⟩
  · exact ⟨h.1, .inl ⟨rfl, h0⟩⟩
  · have hlt : g < w.heap.size := (Array.getElem?_eq_some_iff.1 hg).1
    exact ⟨h.1, .inr ⟨g, c, cur, rfl, hbg, (hb.block g hlt).trans hg, hnc, hcm, hcs, htake⟩⟩
theorem OwnS.lt {base : Nat} {w : World} {v : Value} {l : List ByteArray} (h : OwnS base w v l) (k : Nat) (hk : v.ownBlock = some k) : base ≤ k ∧ k < w.heap.size := World.ownsRow.lt h k hk
theorem ownS_snoc {base : Nat} {w : World} {v : Value} {l : List ByteArray} {s : ByteArray} (h : w.ownsRow base 9 1 v (l.length + 1) (l.map Value.string ++ [.string s])) : OwnS base w v (l ++ [s]) := by
  show w.ownsRow base 9 1 v (l ++ [s]).length ((l ++ [s]).map Value.string)
  rw [List.length_append, List.map_append]
  exact h

/-- B4: the names of all that live. -/
def isLive (m : Mem) : Bool := m.state == 1 || m.state == 2
def liveL (ms : List Mem) : List ByteArray := (ms.filter isLive).map Mem.name

theorem liveL_yes (ms : List Mem) (k : Nat) (hk : k < ms.length) (h : isLive (ms.getD k dm) = true) : liveL (ms.take (k + 1)) = liveL (ms.take k) ++ [(ms.getD k dm).name] := by
  have e : ms.getD k dm = ms[k] := by simp [List.getD, List.getElem?_eq_getElem hk]
  rw [e] at h ⊢
  unfold liveL
  rw [List.take_succ_eq_append_getElem hk, List.filter_append, List.map_append]
  simp [h]
theorem liveL_no (ms : List Mem) (k : Nat) (hk : k < ms.length) (h : isLive (ms.getD k dm) = false) : liveL (ms.take (k + 1)) = liveL (ms.take k) := by
  have e : ms.getD k dm = ms[k] := by simp [List.getD, List.getElem?_eq_getElem hk]
  rw [e] at h
  unfold liveL
  rw [List.take_succ_eq_append_getElem hk, List.filter_append, List.map_append]
  simp [h]
theorem liveL_len (ms : List Mem) (k : Nat) : (liveL (ms.take k)).length ≤ k := by
  unfold liveL
  rw [List.length_map]
  exact Nat.le_trans (List.length_filter_le _ _) (List.length_take_le _ _)

end Go.Proofs.Ytcledbejggmfoac
