
/- Orders by texts, numbers and truths, and one behind the other. -/
import Derived.Test.YtmjdeacnapoijaaLV
import Derived.Test.YtmjdeacnapoijaaRL
namespace Go.Proofs.Ytmjdeacnapoijaa
open Go.RowKit

theorem cmpI_self (a : ByteArray) : cmpI a a = 0 := (cmpI_eq a a).2 rfl
theorem cmpI_flip (a b : ByteArray) : 0 < cmpI a b ↔ cmpI b a < 0 := by rw [cmpI_gt, cmpI_lt]
theorem cmpI_trans (a b c : ByteArray) (h1 : cmpI a b < 0) (h2 : cmpI b c < 0) : cmpI a c < 0 := by
  rw [cmpI_lt] at *; exact less_trans h1 h2

namespace RL
section
variable {α : Type}
theorem keyed_txt (f : α → ByteArray) : Keyed fun a b => cmpI (f a) (f b) where
  refl a := cmpI_self _
  gt a b := cmpI_flip _ _
  trans a b c h1 h2 := cmpI_trans _ _ _ h1 h2
  left a b c h := by rw [(cmpI_eq _ _).1 h]
  right a b c h := by rw [(cmpI_eq _ _).1 h]
theorem keyed_int (f : α → Int) : Keyed fun a b => f a - f b where
  refl a := by omega
  gt a b := by constructor <;> intro h <;> omega
  trans a b c h1 h2 := by omega
  left a b c h := by omega
  right a b c h := by omega
def bI (b : Bool) : Int := if b = true then 1 else 0
theorem bI_inj {a b : Bool} (h : bI a - bI b = 0) : a = b := by cases a <;> cases b <;> simp [bI] at h ⊢
/-- First by the one, then by the other. -/
def lex (o p : α → α → Int) (a b : α) : Int := if o a b = 0 then p a b else o a b
theorem keyed_lex {o p : α → α → Int} (h : Keyed o) (k : Keyed p) : Keyed (lex o p) where
  refl a := by rw [lex, if_pos (h.refl a), k.refl a]
  gt a b := by
    unfold lex
    by_cases e : o a b = 0
    · rw [if_pos e, if_pos (h.symm e)]; exact k.gt a b
    · rw [if_neg e, if_neg (fun e2 => e (h.symm e2))]; exact h.gt a b
  trans a b c h1 h2 := by
    unfold lex at *
    by_cases e : o a b = 0
    · rw [if_pos e] at h1
      by_cases e2 : o b c = 0
      · rw [if_pos e2] at h2
        rw [if_pos (h.eqt e e2)]; exact k.trans _ _ _ h1 h2
      · rw [if_neg e2] at h2
        rw [if_neg (fun e3 => e2 (h.eqt (h.symm e) e3)), h.left a b c e]; exact h2
    · rw [if_neg e] at h1
      by_cases e2 : o b c = 0
      · rw [if_neg (fun e3 => e (h.eqt e3 (h.symm e2))), ← h.right b c a e2]; exact h1
      · rw [if_neg e2] at h2
        have h3 := h.trans _ _ _ h1 h2
        rw [if_neg (by omega)]; exact h3
  left a b c e := by
    unfold lex at *
    by_cases e1 : o a b = 0
    · rw [if_pos e1] at e
      rw [h.left a b c e1, k.left a b c e]
    · rw [if_neg e1] at e; exact absurd e e1
  right a b c e := by
    unfold lex at *
    by_cases e1 : o a b = 0
    · rw [if_pos e1] at e
      rw [h.right a b c e1, k.right a b c e]
    · rw [if_neg e1] at e; exact absurd e e1
theorem lex_zero {o p : α → α → Int} {a b : α} (h : lex o p a b = 0) : o a b = 0 ∧ p a b = 0 := by
  unfold lex at h
  by_cases e : o a b = 0
  · rw [if_pos e] at h; exact ⟨e, h⟩
  · rw [if_neg e] at h; exact absurd h e
theorem newest_of {o p : α → α → Int} (k : Keyed p) (hz : ∀ a b, o a b = 0 → p a b = 0 → a = b) : Newest o fun a b => decide (0 < p a b) where
  irrefl a := by simp [k.refl a]
  trans a b c h1 h2 := by
    rw [decide_eq_true_eq] at *
    rw [k.gt] at *
    exact k.trans _ _ _ h2 h1
  total a b e h1 h2 := by
    rw [decide_eq_false_iff_not] at *
    refine hz a b e ?_
    have := k.gt b a
    omega
end
end RL
end Go.Proofs.Ytmjdeacnapoijaa
