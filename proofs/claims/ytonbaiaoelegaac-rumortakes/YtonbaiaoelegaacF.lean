
/- Members as plain lists: what is known behind a rumor. -/
import Derived.Test.YtonbaiaoelegaacD
namespace Go.Proofs.Ytonbaiaoelegaac
open Go.RowKit

theorem cb_lt : ∀ a b : List UInt8, Lib.compareBytes a b < 0 ↔ Op.bytesLess a b = true
  | [], [] => by simp [Lib.compareBytes, Op.bytesLess]
  | [], _ :: _ => by simp [Lib.compareBytes, Op.bytesLess]
  | _ :: _, [] => by simp [Lib.compareBytes, Op.bytesLess]
  | x :: r, y :: t => by
    have ih := cb_lt r t
    by_cases h1 : x < y
    · simp [Lib.compareBytes, Op.bytesLess, h1]
    · by_cases h2 : y < x
      · have h3 : ¬ x = y := by rintro rfl; exact h1 h2
        simp [Lib.compareBytes, Op.bytesLess, h1, h2, h3]
      · have h3 : x = y := by
          apply UInt8.toNat_inj.1
          rw [UInt8.lt_iff_toNat_lt] at *; omega
        subst h3
        simpa [Lib.compareBytes, Op.bytesLess] using ih

theorem cb_eq : ∀ a b : List UInt8, Lib.compareBytes a b = 0 ↔ a = b
  | [], [] => by simp [Lib.compareBytes]
  | [], _ :: _ => by simp [Lib.compareBytes]
  | _ :: _, [] => by simp [Lib.compareBytes]
  | x :: r, y :: t => by
    have ih := cb_eq r t
    by_cases h1 : x < y
    · have h3 : ¬ x = y := by rintro rfl; rw [UInt8.lt_iff_toNat_lt] at *; omega
      simp [Lib.compareBytes, h1, h3]
    · by_cases h2 : y < x
      · have h3 : ¬ x = y := by rintro rfl; exact h1 h2
        simp [Lib.compareBytes, h1, h2, h3]
      · have h3 : x = y := by
          apply UInt8.toNat_inj.1
          rw [UInt8.lt_iff_toNat_lt] at *; omega
        subst h3
        simpa [Lib.compareBytes] using ih

theorem bl_trans : ∀ a b c : List UInt8, Op.bytesLess a b = true → Op.bytesLess b c = true → Op.bytesLess a c = true
  | [], [], _, h, _ => by simp [Op.bytesLess] at h
  | [], _ :: _, [], _, h => by simp [Op.bytesLess] at h
  | [], _ :: _, _ :: _, _, _ => by simp [Op.bytesLess]
  | _ :: _, [], _, h, _ => by simp [Op.bytesLess] at h
  | _ :: _, _ :: _, [], _, h => by simp [Op.bytesLess] at h
  | x :: r, y :: t, z :: u, h1, h2 => by
    have ih := bl_trans r t u
    simp only [Op.bytesLess, Bool.or_eq_true, Bool.and_eq_true, decide_eq_true_eq, beq_iff_eq] at h1 h2 ⊢
    rcases h1 with h1 | ⟨rfl, h1⟩
    · rcases h2 with h2 | ⟨rfl, h2⟩
      · left; rw [UInt8.lt_iff_toNat_lt] at *; omega
      · left; exact h1
    · rcases h2 with h2 | ⟨rfl, h2⟩
      · left; exact h2
      · right; exact ⟨rfl, ih h1 h2⟩

theorem ba_ext {a b : ByteArray} (h : a.data.toList = b.data.toList) : a = b := by
  obtain ⟨⟨la⟩⟩ := a; obtain ⟨⟨lb⟩⟩ := b; simp at h; subst h; rfl

theorem cmpI_lt (a b : ByteArray) : cmpI a b < 0 ↔ less a b = true := by
  unfold cmpI less; rw [Lib.toList_data, Lib.toList_data]; exact cb_lt _ _
theorem cmpI_eq (a b : ByteArray) : cmpI a b = 0 ↔ a = b := by
  unfold cmpI; rw [cb_eq]; exact ⟨ba_ext, fun h => by rw [h]⟩
theorem less_trans {a b c : ByteArray} (h1 : less a b = true) (h2 : less b c = true) : less a c = true := bl_trans _ _ _ h1 h2
theorem less_irrefl (a : ByteArray) : less a a = false := bl_irrefl _
theorem less_total (a b : ByteArray) : less a b = true ∨ a = b ∨ less b a = true := by
  have h := bl_total a.toList b.toList
  unfold less
  cases h1 : Op.bytesLess a.toList b.toList
  · rw [h1] at h
    cases h2 : Op.bytesLess b.toList a.toList
    · rw [h2] at h
      right; left
      have : b.toList = a.toList := by simpa using h.symm
      rw [Lib.toList_data, Lib.toList_data] at this
      exact (ba_ext this).symm
    · right; right; rfl
  · left; rfl
theorem less_asymm {a b : ByteArray} (h1 : less a b = true) : less b a = false := by
  cases h : less b a
  · rfl
  · have := less_trans h1 h; rw [less_irrefl] at this; cases this
theorem cmpI_gt (a b : ByteArray) : 0 < cmpI a b ↔ less b a = true := by
  have h1 := cmpI_lt a b
  have h2 := cmpI_eq a b
  rcases less_total a b with h | rfl | h
  · have := h1.2 h
    rw [less_asymm h]
    simp; omega
  · rw [less_irrefl]; have := h2.2 rfl; simp; omega
  · rw [h]
    have h3 : ¬ cmpI a b < 0 := fun hh => by rw [h1, less_asymm h] at hh; cases hh
    have h4 : ¬ cmpI a b = 0 := fun hh => by rw [h2] at hh; subst hh; rw [less_irrefl] at h; cases h
    simp; omega

def newM (a b : Mem) : Bool := newB a.state a.life a.addr a.server b.state b.life b.addr b.server

/-- B3: what is known behind a rumor, of members that rise by name. -/
def hearL : List Mem → Mem → List Mem
  | [], m => [m]
  | x :: r, m => if cmpI x.name m.name < 0 then x :: hearL r m else if cmpI x.name m.name = 0 then (if newM m x = true then m :: r else x :: r) else m :: x :: r

abbrev Rise (ms : List Mem) : Prop := ms.Pairwise fun a b => less a.name b.name = true

theorem rise_of : ∀ ms : List Mem, risesB ms = true → Rise ms
  | [], _ => .nil
  | [x], _ => by simp [Rise]
  | a :: b :: r, h => by
    rw [risesB, Bool.and_eq_true] at h
    have ih := rise_of (b :: r) h.2
    refine List.pairwise_cons.2 ⟨fun c hc => ?_, ih⟩
    rcases List.mem_cons.1 hc with rfl | hc
    · exact h.1
    · exact less_trans h.1 (List.rel_of_pairwise_cons ih hc)

theorem rises_of : ∀ ms : List Mem, Rise ms → risesB ms = true
  | [], _ => rfl
  | [x], _ => rfl
  | a :: b :: r, h => by
    rw [risesB, List.rel_of_pairwise_cons h (by simp), Bool.true_and]
    exact rises_of (b :: r) (List.Pairwise.of_cons h)

theorem rise_mono {ms : List Mem} (h : Rise ms) (t : ByteArray) : ∀ i j, i ≤ j → j < ms.length → cmpI (ms.getD j dm).name t < 0 → cmpI (ms.getD i dm).name t < 0 := by
  intro i j hij hj hlt
  rcases Nat.lt_or_eq_of_le hij with hlt' | rfl
  · have hp := List.pairwise_iff_getElem.1 h i j (by omega) hj hlt'
    rw [cmpI_lt] at hlt ⊢
    have e1 : ms.getD i dm = ms[i] := by simp [List.getD, List.getElem?_eq_getElem (show i < ms.length by omega)]
    have e2 : ms.getD j dm = ms[j] := by simp [List.getD, List.getElem?_eq_getElem hj]
    rw [e1]; rw [e2] at hlt
    exact less_trans hp hlt
  · exact hlt

theorem hearL_at : ∀ (ms : List Mem) (m : Mem) (p : Nat) (f : Bool), At ms m.name p f →
    hearL ms m = if f = true then (if newM m (ms.getD p dm) = true then ms.set p m else ms) else ms.take p ++ m :: ms.drop p
  | [], m, p, f, h => by
    have hp : p = 0 := by have := h.le; simpa using this
    subst hp
    have hf : f = false := by
      cases f
      · rfl
      · have := h.is.1 rfl; simp at this
    subst hf
    simp [hearL]
  | x :: r, m, 0, f, h => by
    have h0 := h.hi 0 (Nat.le_refl _) (by simp)
    simp only [List.getD_cons_zero] at h0
    rw [hearL, if_neg (by omega)]
    cases f
    · have hne : ¬ cmpI x.name m.name = 0 := fun e => by have := h.is.2 ⟨by simp, by simpa using e⟩; cases this
      rw [if_neg hne]; simp
    · have he := (h.is.1 rfl).2
      simp only [List.getD_cons_zero] at he
      rw [if_pos he]
      simp only [List.getD_cons_zero, List.set_cons_zero, if_pos]
  | x :: r, m, p + 1, f, h => by
    have h0 := h.lo 0 (by omega)
    simp only [List.getD_cons_zero] at h0
    have hr : At r m.name p f := ⟨by have := h.le; simpa using this, fun j hj => by have := h.lo (j + 1) (by omega); simpa using this,
      fun j hj hl => by have := h.hi (j + 1) (by omega) (by simpa using hl); simpa using this, by have := h.is; simpa using this⟩
    rw [hearL, if_pos h0, hearL_at r m p f hr]
    cases f
    · simp
    · simp only [if_pos, List.getD_cons_succ, List.set_cons_succ]
      split <;> rfl

theorem hearL_mem : ∀ (ms : List Mem) (m x : Mem), x ∈ hearL ms m → x = m ∨ x ∈ ms
  | [], m, x, h => by simp [hearL] at h; exact .inl h
  | y :: r, m, x, h => by
    rw [hearL] at h
    split at h
    · rcases List.mem_cons.1 h with rfl | h
      · exact .inr (by simp)
      · rcases hearL_mem r m x h with h | h
        · exact .inl h
        · exact .inr (by simp [h])
    · split at h
      · split at h
        · rcases List.mem_cons.1 h with h | h
          · exact .inl h
          · exact .inr (by simp [h])
        · exact .inr h
      · rcases List.mem_cons.1 h with h | h
        · exact .inl h
        · exact .inr h

theorem hearL_rise : ∀ (ms : List Mem) (m : Mem), Rise ms → Rise (hearL ms m)
  | [], m, _ => by simp [hearL]
  | x :: r, m, h => by
    have hx := List.pairwise_cons.1 h
    rw [hearL]
    split
    · rename_i hlt
      refine List.pairwise_cons.2 ⟨fun y hy => ?_, hearL_rise r m hx.2⟩
      rcases hearL_mem r m y hy with rfl | hy
      · exact (cmpI_lt _ _).1 hlt
      · exact hx.1 y hy
    · rename_i hlt
      split
      · rename_i he
        have hn : x.name = m.name := (cmpI_eq _ _).1 he
        split
        · exact List.pairwise_cons.2 ⟨fun y hy => by rw [← hn]; exact hx.1 y hy, hx.2⟩
        · exact h
      · rename_i he
        have hg : less m.name x.name = true := (cmpI_gt _ _).1 (by omega)
        refine List.pairwise_cons.2 ⟨fun y hy => ?_, h⟩
        rcases List.mem_cons.1 hy with rfl | hy
        · exact hg
        · exact less_trans hg (hx.1 y hy)

theorem hearL_len : ∀ (ms : List Mem) (m : Mem), ms.length ≤ (hearL ms m).length ∧ (hearL ms m).length ≤ ms.length + 1
  | [], m => by simp [hearL]
  | x :: r, m => by
    have := hearL_len r m
    rw [hearL]
    split
    · simp; omega
    · split
      · split <;> simp
      · simp

/-- All of a second list is heard, one by one. -/
def joinL (a b : List Mem) : List Mem := b.foldl hearL a

theorem joinL_rise : ∀ (b a : List Mem), Rise a → Rise (joinL a b)
  | [], _, h => h
  | m :: r, a, h => joinL_rise r (hearL a m) (hearL_rise a m h)
theorem joinL_len : ∀ (b a : List Mem), (joinL a b).length ≤ a.length + b.length
  | [], _ => by simp [joinL]
  | m :: r, a => by
    have h1 := joinL_len r (hearL a m)
    have h2 := hearL_len a m
    simp only [joinL, List.foldl_cons, List.length_cons] at *
    omega

end Go.Proofs.Ytonbaiaoelegaac
