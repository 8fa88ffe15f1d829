/- WK2, WKF, WK3, WK4 -/
import Derived.Test.YtdfkpehggecbaaaGreatDoorV7
import Derived.Test.YtdfkpehggecbaaaGreatDoorV1
import Derived.Test.YtdfkpehggecbaaaGreatDoorV11
import Derived.Lib.QuietBelow
/- slices.Insert at places that are told: the library's own text, walked. -/
namespace Go.Proofs.YtdfkpehggecbaaaGreatDoor
namespace Wh
open Go.RowKit

theorem Tryz.info66 : (Tryz.prog.info? 66).map (fun i => (i.zero, i.size, i.bytes)) = some (some (.agg #[.string ⟨#[]⟩, .int .i64 0, .int .i64 0, .int .i64 0, .int .i64 0, .int .i64 0]), 6, 56) := by kernel_rfl

theorem size66 : (Tryz.prog.info? 66).map (·.size) = some 6 := by
  obtain ⟨i, hi, h1, h2, h3⟩ := info_parts Tryz.info66
  rw [hi]; simp [h2]

theorem sizeOf66 (w : World) : (Go.sizeOf 66).run Tryz.prog w = .ok 6 w := by
  obtain ⟨i, hi, h1, h2, h3⟩ := info_parts Tryz.info66
  simp [Go.sizeOf, typeInfo, hi, h2]

end Wh
end Go.Proofs.YtdfkpehggecbaaaGreatDoor

/- places that are told as plain lists: their order, which of two is newer, what Check says, what is known behind one more. -/
namespace Go.Proofs.YtdfkpehggecbaaaGreatDoor
namespace Wh
open Go.RowKit

def ord (a b : Whe) : Int := cmpI a.node b.node
theorem keyed : RL.Keyed ord := RL.keyed_txt Whe.node
def newE (_ _ : Whe) : Bool := true

abbrev Rise (ms : List Whe) : Prop := RL.Rise ord ms
abbrev hearL (ms : List Whe) (m : Whe) : List Whe := RL.hear ord newE ms m
abbrev joinL (a b : List Whe) : List Whe := RL.join ord newE a b
abbrev At (ms : List Whe) (t : Whe) (p : Nat) (f : Bool) : Prop := RL.At ord dm ms t p f
abbrev risesB (ms : List Whe) : Bool := RL.risesB ord ms
theorem rise_mono {ms : List Whe} (h : Rise ms) (t : Whe) : ∀ i j, i ≤ j → j < ms.length → ord (ms.getD j dm) t < 0 → ord (ms.getD i dm) t < 0 := RL.rise_mono ord dm keyed h t
theorem rises_allO (ms : List Whe) (h : ∀ j, j + 1 < ms.length → ord (ms.getD j dm) (ms.getD (j + 1) dm) < 0) : risesB ms = true := RL.rises_all ord dm ms h
theorem rises_getO (ms : List Whe) (h : risesB ms = true) : ∀ j, j + 1 < ms.length → ord (ms.getD j dm) (ms.getD (j + 1) dm) < 0 := RL.rises_get ord dm ms h
theorem at_any (ms : List Whe) (hr : Rise ms) (t : Whe) : ∃ p f, At ms t p f := RL.at_any ord dm keyed ms hr t
theorem at_uniq {ms : List Whe} {t : Whe} {p q : Nat} {f e : Bool} (h : At ms t p f) (k : At ms t q e) : p = q ∧ f = e := RL.at_uniq ord dm h k
theorem hearL_at (ms : List Whe) (m : Whe) (p : Nat) (f : Bool) (h : At ms m p f) :
    hearL ms m = if f = true then (if newE m (ms.getD p dm) = true then ms.set p m else ms) else ms.take p ++ m :: ms.drop p := RL.hear_at ord newE dm ms m p f h
theorem hearL_mem (ms : List Whe) (m x : Whe) (h : x ∈ hearL ms m) : x = m ∨ x ∈ ms := RL.hear_mem ord newE ms m x h
theorem hearL_rise (ms : List Whe) (m : Whe) (h : Rise ms) : Rise (hearL ms m) := RL.hear_rise ord newE keyed ms m h
theorem hearL_len (ms : List Whe) (m : Whe) : ms.length ≤ (hearL ms m).length ∧ (hearL ms m).length ≤ ms.length + 1 := RL.hear_len ord newE ms m
theorem joinL_rise (b a : List Whe) (h : Rise a) : Rise (joinL a b) := RL.join_rise ord newE keyed b a h
theorem joinL_len (b a : List Whe) : (joinL a b).length ≤ a.length + b.length := RL.join_len ord newE b a
theorem joinL_mem (b a : List Whe) (x : Whe) (h : x ∈ joinL a b) : x ∈ a ∨ x ∈ b := RL.join_mem ord newE b a x h
theorem joinL_take (a b : List Whe) (j : Nat) (hj : j < b.length) : joinL a (b.take (j + 1)) = hearL (joinL a (b.take j)) (b.getD j dm) := RL.join_take ord newE dm a b j hj
theorem joinL_nil (b : List Whe) (h : Rise b) : joinL [] b = b := RL.join_nil ord newE b h
theorem ns_hear {ms : List Whe} {m : Whe} (h : ∀ m ∈ ms, m.ok) (hm : m.ok) : ∀ x ∈ hearL ms m, x.ok := by
  intro x hx
  rcases hearL_mem ms m x hx with rfl | hx
  · exact hm
  · exact h x hx
theorem ns_join (b a : List Whe) (ha : ∀ m ∈ a, m.ok) (hb : ∀ m ∈ b, m.ok) : ∀ x ∈ joinL a b, x.ok := by
  intro x hx
  rcases joinL_mem b a x hx with h | h
  · exact ha x h
  · exact hb x h


/-- D1 of one place. -/
def Whe.e (m : Whe) : Int := if labB m.node = true then chkP ⟨m.x, m.y, m.z, m.h, m.s⟩ else 1

def firstE : List Whe → Int
  | [] => 0
  | m :: r => if m.e = 0 then firstE r else m.e
theorem firstE_zero : ∀ (ms : List Whe), (∀ j, j < ms.length → (ms.getD j dm).e = 0) → firstE ms = 0
  | [], _ => rfl
  | m :: r, h => by
    have h0 := h 0 (by simp)
    simp only [List.getD_cons_zero] at h0
    rw [firstE, if_pos h0]
    exact firstE_zero r fun j hj => by have := h (j + 1) (by simpa using hj); simpa using this
theorem firstE_at : ∀ (ms : List Whe) (k : Nat), k < ms.length → (∀ j, j < k → (ms.getD j dm).e = 0) → (ms.getD k dm).e ≠ 0 → firstE ms = (ms.getD k dm).e
  | [], k, h, _, _ => by simp at h
  | m :: r, 0, _, _, hne => by
    simp only [List.getD_cons_zero] at hne ⊢
    rw [firstE, if_neg hne]
  | m :: r, k + 1, h, hz, hne => by
    have h0 := hz 0 (by omega)
    simp only [List.getD_cons_zero] at h0
    rw [firstE, if_pos h0, List.getD_cons_succ]
    rw [List.getD_cons_succ] at hne
    exact firstE_at r k (by simpa using h) (fun j hj => by have := hz (j + 1) (by omega); simpa using this) hne
theorem firstE_mem : ∀ (ms : List Whe), firstE ms = 0 → ∀ m ∈ ms, m.e = 0
  | [], _, m, hm => by simp at hm
  | x :: r, h, m, hm => by
    rw [firstE] at h
    split at h
    · rename_i hx
      rcases List.mem_cons.1 hm with rfl | hm
      · exact hx
      · exact firstE_mem r h m hm
    · rename_i hx; exact absurd h hx
theorem firstE_all : ∀ (ms : List Whe), (∀ m ∈ ms, m.e = 0) → firstE ms = 0
  | [], _ => rfl
  | x :: r, h => by rw [firstE, if_pos (h x (by simp))]; exact firstE_all r fun m hm => h m (by simp [hm])

/-- What Check says. -/
def chk (ms : List Whe) : Int := if 20 < ms.length then 2 else if firstE ms = 0 then (if risesB ms = true then 0 else 4) else firstE ms

theorem chk_e (ms : List Whe) (k : Nat) (hn : ms.length ≤ 20) (hk : k < ms.length) (hz : ∀ j, j < k → (ms.getD j dm).e = 0) (hne : (ms.getD k dm).e ≠ 0) : chk ms = (ms.getD k dm).e := by
  have h := firstE_at ms k hk hz hne
  rw [chk, if_neg (by omega), h, if_neg hne]
theorem chk_r (ms : List Whe) (hn : ms.length ≤ 20) (hz : ∀ j, j < ms.length → (ms.getD j dm).e = 0) : chk ms = if risesB ms = true then 0 else 4 := by
  rw [chk, if_neg (by omega), firstE_zero ms hz, if_pos rfl]
theorem chk_4 (ms : List Whe) (k : Nat) (hn : ms.length ≤ 20) (hz : ∀ j, j < ms.length → (ms.getD j dm).e = 0) (hk : k + 1 < ms.length) (hl : ¬ ord (ms.getD k dm) (ms.getD (k + 1) dm) < 0) : chk ms = 4 := by
  rw [chk_r ms hn hz, if_neg]
  intro h
  exact hl (rises_getO ms h k hk)
theorem chk_0 (ms : List Whe) (hn : ms.length ≤ 20) (hz : ∀ j, j < ms.length → (ms.getD j dm).e = 0) (hl : ∀ j, j + 1 < ms.length → ord (ms.getD j dm) (ms.getD (j + 1) dm) < 0) : chk ms = 0 := by
  rw [chk_r ms hn hz, if_pos (rises_allO ms hl)]
theorem chk_zero {ms : List Whe} (h : chk ms = 0) : ms.length ≤ 20 ∧ Rise ms ∧ firstE ms = 0 := by
  unfold chk at h
  split at h
  · omega
  · split at h
    · rename_i h1 h2
      split at h
      · rename_i h3
        exact ⟨by omega, RL.rise_of ord keyed ms h3, h2⟩
      · omega
    · rename_i h1 h2; exact absurd h h2
theorem chk_of {ms : List Whe} (h1 : ms.length ≤ 20) (h2 : Rise ms) (h3 : ∀ m ∈ ms, m.e = 0) : chk ms = 0 := by
  rw [chk, if_neg (by omega), firstE_all ms h3, if_pos rfl, if_pos (RL.rises_of ord ms h2)]
theorem chk_one (m : Whe) : chk [m] = m.e := by
  have h1 : firstE [m] = m.e := by
    rw [firstE]
    split
    · rename_i h; rw [h]; rfl
    · rfl
  rw [chk, if_neg (by simp), h1]
  split
  · rename_i h; rw [h]; exact if_pos rfl
  · rfl
theorem chk_nil : chk [] = 0 := rfl

def chkTwo (a b : List Whe) : Int := if chk a = 0 then chk b else chk a
/-- What is there behind k lists. -/
def stg (a b : List Whe) (k : Nat) : List Whe := if k = 0 then [] else if k = 1 then a else joinL a b
/-- Join's errno. -/
def joinE (a b : List Whe) : Int := if chkTwo a b = 0 then (if 20 < (joinL a b).length then 2 else 0) else chkTwo a b

end Wh
end Go.Proofs.YtdfkpehggecbaaaGreatDoor

/- places that are told: the order and which is newer, walked. -/
namespace Go.Proofs.YtdfkpehggecbaaaGreatDoor
namespace Wh
open Go.RowKit

end Wh
end Go.Proofs.YtdfkpehggecbaaaGreatDoor

/- Do places that are told rise? Where is one of a key? The library's binary search, walked. -/
namespace Go.Proofs.YtdfkpehggecbaaaGreatDoor
namespace Wh
open Go.RowKit

set_option maxHeartbeats 400000 in
theorem rises_none (a : Option Addr) (cap : Nat) (fv : Value) (w : World) :
    Calls Tryz.prog 74 #[.slice a 0 cap, fv] w fun e w' => e = .returned (.bool true) ∧ w' = w := by
  go_enter Tryz.func74, Tryz.ntmps74
  go_wp2_with fail
  go_loop [5] (fun i => i = .int .i64 1) (fun _ => 0)
  case atStart => rfl
  case round =>
    subst hrel
    go_wp2_with fail
    go_ret
    exact ⟨rfl, rfl⟩

end Wh
end Go.Proofs.YtdfkpehggecbaaaGreatDoor

