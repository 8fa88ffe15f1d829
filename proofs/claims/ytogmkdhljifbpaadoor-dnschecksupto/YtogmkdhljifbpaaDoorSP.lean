/- strings.Split at dots. -/
import Derived.Test.YtogmkdhljifbpaaDoorQ0
import Derived.Test.YtogmkdhljifbpaaDoorShelfC
import Derived.Lib.SplitLaws
import Derived.Lib.IndexBytes
import Derived.Below
namespace Go.Proofs.YtogmkdhljifbpaaDoor
open Go.RowKit Go.Shelf Go.Lib

theorem splitK_spl : ∀ (k : Nat) (l : List UInt8), l.count 46 ≤ k → Lib.splitK [46] 0 k l = spl l
  | 0, l, h => by
    have : 46 ∉ l := fun hm => by have := List.count_pos_iff.2 hm; omega
    rw [spl_none l this]; rfl
  | k + 1, l, h => by
    have hge := Lib.indexByte_ge l 46
    unfold Lib.splitK
    rw [Lib.index_one]
    by_cases hi : Lib.indexByte l 46 = -1
    · rw [if_pos (by rw [hi]; rfl), spl_none l (ix_none hi)]
    · obtain ⟨i, hi2⟩ : ∃ i : Nat, Lib.indexByte l 46 = (i : Int) := ⟨(Lib.indexByte l 46).toNat, by omega⟩
      obtain ⟨h1, h2, h3⟩ := ix_some hi2
      rw [if_neg (by rw [hi2]; simp), hi2]
      have e : ((i : Int)).toNat = i := by omega
      rw [e]
      have hc : (l.drop (i + 1)).count 46 ≤ k := by
        have h4 := congrArg (List.count 46) h2
        rw [List.count_append, List.count_cons_self] at h4
        omega
      show l.take (i + 0) :: Lib.splitK [46] 0 k (l.drop (i + 1)) = spl l
      rw [splitK_spl k _ hc, Nat.add_zero]
      conv => rhs; rw [h2]
      rw [spl_app _ _ h3]
theorem splitB_spl (s : ByteArray) : Lib.splitB ⟨#[46]⟩ 0 (Lib.countB s ⟨#[46]⟩) s = (spl s.data.toList).map mk := by
  have h := Lib.splitB_data ⟨#[46]⟩ 0 (Lib.countB s ⟨#[46]⟩) s
  have hc : Lib.countB s ⟨#[46]⟩ = s.data.toList.count 46 := Lib.count_one 46 s.data.toList
  rw [show (ByteArray.mk #[46]).data.toList = [46] from rfl, splitK_spl _ _ (by rw [hc]; exact Nat.le_refl _)] at h
  rw [← h, List.map_map]
  have e : (mk ∘ fun x : ByteArray => x.data.toList) = id := by funext x; exact mk_data x
  rw [e, List.map_id]

/-- The cell of a variable of the library's, of which nothing but its kind is known. -/
def ML (w : World) : Prop := 0 < w.heap.size ∧ ∃ m, w.cell? ⟨0, 0, none⟩ = some (.int .i64 m)
theorem ML.below {w w' : World} (h : ML w) (hb : RowKit.Below w.heap.size w w') : ML w' := by
  obtain ⟨h1, m, h2⟩ := h
  exact ⟨Nat.lt_of_lt_of_le h1 hb.size, m, (hb.cell (p := ⟨0, 0, none⟩) h1).trans h2⟩
theorem split_any (s : ByteArray) (w : World) (hm : ML w) (hs : s.size ≤ 1000) :
    Calls Tryd.prog 80 #[.string s, .string ⟨#[46]⟩] w fun e w' => e = .returned (.slice (some ⟨w.heap.size, 0, none⟩) (spl s.data.toList).length (spl s.data.toList).length) ∧ w' = w.alloc (.cells (((spl s.data.toList).map mk).map Value.string).toArray 9) := by
  obtain ⟨_, m, h2⟩ := hm
  have h := Tryd.strings_Split s ⟨#[46]⟩ m w (by omega) h2 (by decide)
  rw [splitB_spl] at h
  have hc : Lib.countB s ⟨#[46]⟩ + 1 = (spl s.data.toList).length := by
    rw [spl_len]
    show Lib.count s.data.toList [46] + 1 = _
    rw [Lib.count_one]
  rw [hc] at h
  exact h

end Go.Proofs.YtogmkdhljifbpaaDoor
