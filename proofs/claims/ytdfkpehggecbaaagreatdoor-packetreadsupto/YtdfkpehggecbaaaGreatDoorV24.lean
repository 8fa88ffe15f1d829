/- GKF, GK3 -/
import Derived.Test.YtdfkpehggecbaaaGreatDoorV6
import Derived.Test.YtdfkpehggecbaaaGreatDoorV1
/- gateways as plain lists: their order, which of two is newer, what Check says, what is known behind one more. -/
namespace Go.Proofs.YtdfkpehggecbaaaGreatDoor
namespace Gw
open Go.RowKit

/-- F1: rising by centre. -/
def ord (a b : Gwy) : Int := cmpI a.centre b.centre
theorem keyed : RL.Keyed ord := RL.keyed_txt Gwy.centre
/-- F2: the greater version; of the same version the greater address. -/
def newC : Gwy → Gwy → Int := RL.lex (fun a b => a.version - b.version) (fun a b => a.addr - b.addr)
theorem keyedC : RL.Keyed newC := RL.keyed_lex (RL.keyed_int Gwy.version) (RL.keyed_int Gwy.addr)
def newE (a b : Gwy) : Bool := decide (0 < newC a b)
theorem newest : RL.Newest ord newE := RL.newest_of keyedC fun a b h1 h2 => by
  obtain ⟨h3, h4⟩ := RL.lex_zero h2
  have e1 : a.centre = b.centre := (cmpI_eq _ _).1 h1
  have e2 : a.version = b.version := by omega
  have e3 : a.addr = b.addr := by omega
  obtain ⟨a_centre, a_addr, a_version⟩ := a
  obtain ⟨b_centre, b_addr, b_version⟩ := b
  simp only at e1 e2 e3
  subst e1 e2 e3
  rfl

abbrev Rise (ms : List Gwy) : Prop := RL.Rise ord ms
abbrev hearL (ms : List Gwy) (m : Gwy) : List Gwy := RL.hear ord newE ms m
abbrev joinL (a b : List Gwy) : List Gwy := RL.join ord newE a b
abbrev At (ms : List Gwy) (t : Gwy) (p : Nat) (f : Bool) : Prop := RL.At ord dm ms t p f
abbrev risesB (ms : List Gwy) : Bool := RL.risesB ord ms
theorem rise_mono {ms : List Gwy} (h : Rise ms) (t : Gwy) : ∀ i j, i ≤ j → j < ms.length → ord (ms.getD j dm) t < 0 → ord (ms.getD i dm) t < 0 := RL.rise_mono ord dm keyed h t
theorem rises_allO (ms : List Gwy) (h : ∀ j, j + 1 < ms.length → ord (ms.getD j dm) (ms.getD (j + 1) dm) < 0) : risesB ms = true := RL.rises_all ord dm ms h
theorem rises_getO (ms : List Gwy) (h : risesB ms = true) : ∀ j, j + 1 < ms.length → ord (ms.getD j dm) (ms.getD (j + 1) dm) < 0 := RL.rises_get ord dm ms h
theorem at_any (ms : List Gwy) (hr : Rise ms) (t : Gwy) : ∃ p f, At ms t p f := RL.at_any ord dm keyed ms hr t
theorem at_uniq {ms : List Gwy} {t : Gwy} {p q : Nat} {f e : Bool} (h : At ms t p f) (k : At ms t q e) : p = q ∧ f = e := RL.at_uniq ord dm h k
theorem hearL_at (ms : List Gwy) (m : Gwy) (p : Nat) (f : Bool) (h : At ms m p f) :
    hearL ms m = if f = true then (if newE m (ms.getD p dm) = true then ms.set p m else ms) else ms.take p ++ m :: ms.drop p := RL.hear_at ord newE dm ms m p f h
theorem hearL_mem (ms : List Gwy) (m x : Gwy) (h : x ∈ hearL ms m) : x = m ∨ x ∈ ms := RL.hear_mem ord newE ms m x h
theorem hearL_rise (ms : List Gwy) (m : Gwy) (h : Rise ms) : Rise (hearL ms m) := RL.hear_rise ord newE keyed ms m h
theorem hearL_len (ms : List Gwy) (m : Gwy) : ms.length ≤ (hearL ms m).length ∧ (hearL ms m).length ≤ ms.length + 1 := RL.hear_len ord newE ms m
theorem joinL_rise (b a : List Gwy) (h : Rise a) : Rise (joinL a b) := RL.join_rise ord newE keyed b a h
theorem joinL_len (b a : List Gwy) : (joinL a b).length ≤ a.length + b.length := RL.join_len ord newE b a
theorem joinL_mem (b a : List Gwy) (x : Gwy) (h : x ∈ joinL a b) : x ∈ a ∨ x ∈ b := RL.join_mem ord newE b a x h
theorem joinL_take (a b : List Gwy) (j : Nat) (hj : j < b.length) : joinL a (b.take (j + 1)) = hearL (joinL a (b.take j)) (b.getD j dm) := RL.join_take ord newE dm a b j hj
theorem joinL_nil (b : List Gwy) (h : Rise b) : joinL [] b = b := RL.join_nil ord newE b h
theorem ns_hear {ms : List Gwy} {m : Gwy} (h : ∀ m ∈ ms, m.ok) (hm : m.ok) : ∀ x ∈ hearL ms m, x.ok := by
  intro x hx
  rcases hearL_mem ms m x hx with rfl | hx
  · exact hm
  · exact h x hx
theorem ns_join (b a : List Gwy) (ha : ∀ m ∈ a, m.ok) (hb : ∀ m ∈ b, m.ok) : ∀ x ∈ joinL a b, x.ok := by
  intro x hx
  rcases joinL_mem b a x hx with h | h
  · exact ha x h
  · exact hb x h

/-- F1 of one gateway. -/
def Gwy.e (m : Gwy) : Int := if labB m.centre = true then (if within m.addr 0 4294967295 = true then (if within m.version 1 1000000 = true then 0 else 3) else 3) else 1


def firstE : List Gwy → Int
  | [] => 0
  | m :: r => if m.e = 0 then firstE r else m.e
theorem firstE_zero : ∀ (ms : List Gwy), (∀ j, j < ms.length → (ms.getD j dm).e = 0) → firstE ms = 0
  | [], _ => rfl
  | m :: r, h => by
    have h0 := h 0 (by simp)
    simp only [List.getD_cons_zero] at h0
    rw [firstE, if_pos h0]
    exact firstE_zero r fun j hj => by have := h (j + 1) (by simpa using hj); simpa using this
theorem firstE_at : ∀ (ms : List Gwy) (k : Nat), k < ms.length → (∀ j, j < k → (ms.getD j dm).e = 0) → (ms.getD k dm).e ≠ 0 → firstE ms = (ms.getD k dm).e
  | [], k, h, _, _ => by simp at h
  | m :: r, 0, _, _, hne => by
    simp only [List.getD_cons_zero] at hne ⊢
    rw [firstE, if_neg hne]
  | m :: r, k + 1, h, hz, hne => by
    have h0 := hz 0 (by omega)
    simp only [List.getD_cons_zero] at h0
    rw [firstE, if_pos h0, List.getD_cons_succ]
    rw [List.getD_cons_succ] at hne
    exact firstE_at r k (by simpa using h) (fun j hj => by have := hz (j + 1) (by omega); simpa using this) hne
theorem firstE_mem : ∀ (ms : List Gwy), firstE ms = 0 → ∀ m ∈ ms, m.e = 0
  | [], _, m, hm => by simp at hm
  | x :: r, h, m, hm => by
    rw [firstE] at h
    split at h
    · rename_i hx
      rcases List.mem_cons.1 hm with rfl | hm
      · exact hx
      · exact firstE_mem r h m hm
    · rename_i hx; exact absurd h hx
theorem firstE_all : ∀ (ms : List Gwy), (∀ m ∈ ms, m.e = 0) → firstE ms = 0
  | [], _ => rfl
  | x :: r, h => by rw [firstE, if_pos (h x (by simp))]; exact firstE_all r fun m hm => h m (by simp [hm])

/-- What Check says. -/
def chk (ms : List Gwy) : Int := if 6 < ms.length then 2 else if firstE ms = 0 then (if risesB ms = true then 0 else 4) else firstE ms

theorem chk_e (ms : List Gwy) (k : Nat) (hn : ms.length ≤ 6) (hk : k < ms.length) (hz : ∀ j, j < k → (ms.getD j dm).e = 0) (hne : (ms.getD k dm).e ≠ 0) : chk ms = (ms.getD k dm).e := by
  have h := firstE_at ms k hk hz hne
  rw [chk, if_neg (by omega), h, if_neg hne]
theorem chk_r (ms : List Gwy) (hn : ms.length ≤ 6) (hz : ∀ j, j < ms.length → (ms.getD j dm).e = 0) : chk ms = if risesB ms = true then 0 else 4 := by
  rw [chk, if_neg (by omega), firstE_zero ms hz, if_pos rfl]
theorem chk_4 (ms : List Gwy) (k : Nat) (hn : ms.length ≤ 6) (hz : ∀ j, j < ms.length → (ms.getD j dm).e = 0) (hk : k + 1 < ms.length) (hl : ¬ ord (ms.getD k dm) (ms.getD (k + 1) dm) < 0) : chk ms = 4 := by
  rw [chk_r ms hn hz, if_neg]
  intro h
  exact hl (rises_getO ms h k hk)
theorem chk_0 (ms : List Gwy) (hn : ms.length ≤ 6) (hz : ∀ j, j < ms.length → (ms.getD j dm).e = 0) (hl : ∀ j, j + 1 < ms.length → ord (ms.getD j dm) (ms.getD (j + 1) dm) < 0) : chk ms = 0 := by
  rw [chk_r ms hn hz, if_pos (rises_allO ms hl)]
theorem chk_zero {ms : List Gwy} (h : chk ms = 0) : ms.length ≤ 6 ∧ Rise ms ∧ firstE ms = 0 := by
  unfold chk at h
  split at h
  · omega
  · split at h
    · rename_i h1 h2
      split at h
      · rename_i h3
        exact ⟨by omega, RL.rise_of ord keyed ms h3, h2⟩
      · omega
    · rename_i h1 h2; exact absurd h h2
theorem chk_of {ms : List Gwy} (h1 : ms.length ≤ 6) (h2 : Rise ms) (h3 : ∀ m ∈ ms, m.e = 0) : chk ms = 0 := by
  rw [chk, if_neg (by omega), firstE_all ms h3, if_pos rfl, if_pos (RL.rises_of ord ms h2)]
theorem chk_one (m : Gwy) : chk [m] = m.e := by
  have h1 : firstE [m] = m.e := by
    rw [firstE]
    split
    · rename_i h; rw [h]; rfl
    · rfl
  rw [chk, if_neg (by simp), h1]
  split
  · rename_i h; rw [h]; exact if_pos rfl
  · rfl
theorem chk_nil : chk [] = 0 := rfl

def chkTwo (a b : List Gwy) : Int := if chk a = 0 then chk b else chk a
/-- What is there behind k lists. -/
def stg (a b : List Gwy) (k : Nat) : List Gwy := if k = 0 then [] else if k = 1 then a else joinL a b
/-- Join's errno. -/
def joinE (a b : List Gwy) : Int := if chkTwo a b = 0 then (if 6 < (joinL a b).length then 2 else 0) else chkTwo a b

end Gw
end Go.Proofs.YtdfkpehggecbaaaGreatDoor

/- gateways: the order and which is newer, walked. -/
namespace Go.Proofs.YtdfkpehggecbaaaGreatDoor
namespace Gw
open Go.RowKit

set_option maxHeartbeats 400000 in
theorem order_any (a b : Gwy) (w : World) :
    Calls Tryz.prog 70 #[.agg #[.string a.centre, .int .i64 a.addr, .int .i64 a.version], .agg #[.string b.centre, .int .i64 b.addr, .int .i64 b.version]] w fun e w' => e = .returned (.int .i64 (ord a b)) ∧ Below w.heap.size w w' := by
  go_enter Tryz.func70, Tryz.ntmps70
  go_wp2_with (go_at_call 73; refine (compare_any _ _ _).mono ?_; rintro e w' ⟨rfl, rfl⟩)
  go_ret
  exact ⟨rfl, ((Below.refl _ _).alloc (Nat.le_refl _) _).alloc (by simp) _⟩



end Gw
end Go.Proofs.YtdfkpehggecbaaaGreatDoor

