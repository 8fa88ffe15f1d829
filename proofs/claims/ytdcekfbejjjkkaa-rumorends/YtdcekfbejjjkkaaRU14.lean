
/- Take: the order of telling, plain mathematics. -/
import Derived.Test.YtdcekfbejjjkkaaRU12
import Derived.Test.YtdcekfbejjjkkaaRU13
namespace Go.Proofs.Ytdcekfbejjjkkaa
open Go.RowKit

/-- Whose turn it is: all places, each once, those that come first less than those behind. -/
structure IsOrd (rs : List Rum) (ord : List Nat) : Prop where
  perm : ord.Perm (List.range rs.length)
  less : ∀ i j, i < j → j < ord.length → cfR rs (ord.getD i 0) (ord.getD j 0) < 0
theorem IsOrd.len {rs : List Rum} {ord : List Nat} (h : IsOrd rs ord) : ord.length = rs.length := by rw [h.perm.length_eq]; simp
theorem IsOrd.bd {rs : List Rum} {ord : List Nat} (h : IsOrd rs ord) : ∀ x ∈ ord, x < rs.length := fun x hx => by simpa using h.perm.mem_iff.1 hx
theorem IsOrd.nodup {rs : List Rum} {ord : List Nat} (h : IsOrd rs ord) : ord.Nodup := h.perm.nodup_iff.2 List.nodup_range
theorem IsOrd.all {rs : List Rum} {ord : List Nat} (h : IsOrd rs ord) : ∀ y, y < rs.length → y ∈ ord := fun y hy => h.perm.mem_iff.2 (by simpa using hy)
theorem ord_get {ord : List Nat} {j : Nat} (h : j < ord.length) : ord.getD j 0 = ord[j] := by simp [List.getD, List.getElem?_eq_getElem h]
theorem IsOrd.lt {rs : List Rum} {ord : List Nat} (h : IsOrd rs ord) {j : Nat} (hj : j < rs.length) : ord.getD j 0 < rs.length := by
  have hj' : j < ord.length := by rw [h.len]; exact hj
  rw [ord_get hj']
  exact h.bd _ (List.getElem_mem hj')
theorem IsOrd.fresh {rs : List Rum} {ord : List Nat} (h : IsOrd rs ord) {j : Nat} (hj : j < rs.length) : ord.getD j 0 ∉ ord.take j := by
  have hj' : j < ord.length := by rw [h.len]; exact hj
  rw [ord_get hj']
  intro hm
  obtain ⟨i, hi, e⟩ := List.getElem_of_mem hm
  rw [List.length_take] at hi
  rw [List.getElem_take] at e
  exact List.pairwise_iff_getElem.1 h.nodup i j (by omega) hj' (by omega) e
def bumpOne (l : List Rum) (i : Nat) : List Rum := l.set i ⟨(l.getD i dr).m, (l.getD i dr).told + 1⟩
def bump (rs : List Rum) (ord : List Nat) (k : Nat) : List Rum := (ord.take k).foldl bumpOne rs
def toldL (rs : List Rum) (ord : List Nat) (k : Nat) : List Mem := (ord.take k).map (fun i => (rs.getD i dr).m)
theorem bump_zero (rs : List Rum) (ord : List Nat) : bump rs ord 0 = rs := by simp [bump]
theorem toldL_zero (rs : List Rum) (ord : List Nat) : toldL rs ord 0 = [] := by simp [toldL]
theorem take_ord {ord : List Nat} {k : Nat} (h : k < ord.length) : ord.take (k + 1) = ord.take k ++ [ord.getD k 0] := by
  rw [List.take_succ_eq_append_getElem h, ord_get h]
theorem bump_succ {rs : List Rum} {ord : List Nat} {k : Nat} (h : k < ord.length) : bump rs ord (k + 1) = bumpOne (bump rs ord k) (ord.getD k 0) := by
  unfold bump
  rw [take_ord h, List.foldl_append]
  rfl
theorem toldL_succ {rs : List Rum} {ord : List Nat} {k : Nat} (h : k < ord.length) : toldL rs ord (k + 1) = toldL rs ord k ++ [(rs.getD (ord.getD k 0) dr).m] := by
  unfold toldL
  rw [take_ord h, List.map_append]
  rfl
theorem foldl_len : ∀ (is : List Nat) (l : List Rum), (is.foldl bumpOne l).length = l.length
  | [], _ => rfl
  | i :: r, l => by rw [List.foldl_cons, foldl_len r, bumpOne, List.length_set]
theorem bump_len (rs : List Rum) (ord : List Nat) (k : Nat) : (bump rs ord k).length = rs.length := foldl_len _ _
theorem foldl_other : ∀ (is : List Nat) (l : List Rum) (j : Nat), j ∉ is → (is.foldl bumpOne l).getD j dr = l.getD j dr
  | [], _, _, _ => rfl
  | i :: r, l, j, h => by
    simp only [List.mem_cons, not_or] at h
    rw [List.foldl_cons, foldl_other r _ j h.2, bumpOne]
    simp [List.getD, List.getElem?_set_ne (Ne.symm h.1)]
theorem bump_fresh {rs : List Rum} {ord : List Nat} (h : IsOrd rs ord) {k : Nat} (hk : k < rs.length) : (bump rs ord k).getD (ord.getD k 0) dr = rs.getD (ord.getD k 0) dr :=
  foldl_other _ _ _ (h.fresh hk)

end Go.Proofs.Ytdcekfbejjjkkaa
