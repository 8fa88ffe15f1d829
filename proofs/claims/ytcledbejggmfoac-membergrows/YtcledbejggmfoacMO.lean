
/- The document's own Hear: MemberAt and HearMember. -/
import Derived.Test.YtcledbejggmfoacML
namespace Go.Proofs.Ytcledbejggmfoac
open Go.RowKit

/-- The place of a name; -1: it is none. -/
def AtI (ms : List Mem) (t : ByteArray) (r : Int) : Prop :=
  (∃ k : Nat, k < ms.length ∧ r = k ∧ (ms.getD k dm).name = t) ∨ (r = -1 ∧ ∀ j, j < ms.length → (ms.getD j dm).name ≠ t)

set_option maxHeartbeats 800000 in
theorem memberAt_any (ms : List Mem) (v : Value) (t : ByteArray) (w : World) (hv : Sl w v ms) (hn : ms.length ≤ 1000) :
    Calls Try.prog 13 #[v, .string t] w fun e w' => ∃ r : Int, e = .returned (.int .i64 r) ∧ Hid (AtI ms t r) ∧ w' = w := by
  obtain ⟨pa, ca, rfl, _, ha⟩ := hv
  have HA : Hid (ms = [] ∨ ∃ b off, pa = some ⟨b, off, none⟩ ∧ b < w.heap.size ∧ Row w b off ms) := ha
  clear ha
  generalize hna : ms.length = n at *
  have HN : Hid (ms.length = n) := hna
  clear hna
  go_enter Try.func13, Try.ntmps13
  go_wp2_with fail
  go_loop [5] (fun i => ∃ k : Nat, k ≤ n ∧ i = .int .i64 k ∧ Hid (∀ j, j < k → (ms.getD j dm).name ≠ t)) (fun i => n - (intOf i).toNat)
  case atStart => exact ⟨0, Nat.zero_le _, rfl, fun j h => absurd h (Nat.not_lt_zero _)⟩
  case round =>
    obtain ⟨k, hk, rfl, hz⟩ := hrel
    by_cases hlt : k < n
    · obtain ⟨b1, o1, hp1, hl1, hr1⟩ : ∃ b off, pa = some ⟨b, off, none⟩ ∧ b < w.heap.size ∧ Row w b off ms := by
        rcases HA.out with h | h
        · have := HN.out; rw [h] at this; simp at this; omega
        · exact h
      subst hp1
      obtain ⟨c0, _, _, _, _⟩ := hr1 k (by rw [HN.out]; exact hlt)
      clear hr1
      have HF : Hid ((ms.getD k dm).name = t → AtI ms t (k : Int)) := fun h => .inl ⟨k, by rw [HN.out]; exact hlt, rfl, h⟩
      have HZ : Hid ((ms.getD k dm).name ≠ t → ∀ j, j < k + 1 → (ms.getD j dm).name ≠ t) := fun h j hj => by
        rcases Nat.lt_succ_iff_lt_or_eq.1 hj with h2 | rfl
        · exact hz.out j h2
        · exact h
      generalize (ms.getD k dm).name = nm at *
      by_cases he : nm = t
      · subst he
        have HF2 : Hid (AtI ms nm (k : Int)) := HF.out rfl
        clear HF HZ
        go_wp2_with fail
        go_ret
        exact ⟨k, rfl, HF2, rfl⟩
      · obtain ⟨h1, h2⟩ := beq_name he
        have HE : Hid (nm ≠ t) := he
        clear he
        go_wp2_with fail
        go_round
        case rel => exact ⟨k + 1, by omega, by go_num, HZ.out HE.out⟩
        case measure => simp [intOf]; omega
    · go_wp2_with fail
      go_ret
      exact ⟨-1, rfl, .inr ⟨rfl, fun j hj => hz.out j (by have := HN.out; omega)⟩, rfl⟩

theorem newM_irrefl (m : Mem) : newM m m = false := by simp [newM, newB]

/-- What the document's Hear has put behind k of the members. -/
def outL (ms : List Mem) (m : Mem) (p q k : Nat) : List Mem := if k ≤ p then ms.take k else ms.take p ++ m :: (ms.take k).drop q

theorem outL_lo {ms : List Mem} {m : Mem} {p q k : Nat} (h : k < p) (hk : k < ms.length) : outL ms m p q (k + 1) = outL ms m p q k ++ [ms.getD k dm] := by
  rw [outL, outL, if_pos (by omega), if_pos (by omega), List.take_succ_eq_append_getElem hk]
  simp [List.getD, List.getElem?_eq_getElem hk]
theorem outL_eq {ms : List Mem} {m : Mem} {p : Nat} (hp : p < ms.length) : outL ms m p (p + 1) (p + 1) = outL ms m p (p + 1) p ++ [m] := by
  rw [outL, outL, if_neg (by omega), if_pos (by omega), List.drop_of_length_le (by simp; omega)]
theorem outL_ne {ms : List Mem} {m : Mem} {p : Nat} (hp : p < ms.length) : outL ms m p p (p + 1) = (outL ms m p p p ++ [m]) ++ [ms.getD p dm] := by
  rw [outL, outL, if_neg (by omega), if_pos (by omega), List.take_succ_eq_append_getElem hp, List.drop_append_of_le_length (by simp; omega), List.drop_of_length_le (by simp; omega)]
  simp [List.getD, List.getElem?_eq_getElem hp]
theorem outL_hi {ms : List Mem} {m : Mem} {p q k : Nat} (h : p < k) (hq : q ≤ k) (hk : k < ms.length) : outL ms m p q (k + 1) = outL ms m p q k ++ [ms.getD k dm] := by
  rw [outL, outL, if_neg (by omega), if_neg (by omega), List.take_succ_eq_append_getElem hk, List.drop_append_of_le_length (by simp; omega)]
  simp [List.getD, List.getElem?_eq_getElem hk]
theorem outL_end {ms : List Mem} {m : Mem} {p q : Nat} (hp : p < ms.length) : outL ms m p q ms.length = ms.take p ++ m :: ms.drop q := by
  rw [outL, if_neg (by omega), List.take_length]
theorem outL_len {ms : List Mem} {m : Mem} {p q k : Nat} : (outL ms m p q k).length ≤ 1 + ms.length + ms.length := by
  unfold outL; split <;> simp <;> omega

end Go.Proofs.Ytcledbejggmfoac
