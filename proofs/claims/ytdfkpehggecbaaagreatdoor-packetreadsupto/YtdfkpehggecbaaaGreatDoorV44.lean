/- SK8, SKS1, SK9, SKS2 -/
import Derived.Test.YtdfkpehggecbaaaGreatDoorV37
/- services: find. -/
namespace Go.Proofs.YtdfkpehggecbaaaGreatDoor
namespace Sv
open Go.RowKit

/-- What find tells. -/
def fnd (ms : List Svc) (p : Nat) (f : Bool) : Svc := if f = true then ms.getD p dm else dm

end Sv
end Go.Proofs.YtdfkpehggecbaaaGreatDoor

/- Register and Find; what must be in any case of services. -/
namespace Go.Proofs.YtdfkpehggecbaaaGreatDoor
namespace Sv
open Go.RowKit

theorem e_zero {m : Svc} (h : m.e = 0) : labB m.node = true ∧ labB m.idn = true ∧ labB m.name = true ∧ tagB m.tag = true ∧ 1 ≤ m.version ∧ m.version ≤ 1000000 := by
  unfold Svc.e at h
  split at h
  · rename_i h1
    split at h
    · rename_i h2
      simp [within] at h1 h2
      exact ⟨h1.1, h1.2.1, h1.2.2.1, h1.2.2.2, h2.2.2.1, h2.2.2.2⟩
    · omega
  · omega
theorem e_at {ms : List Svc} (h : firstE ms = 0) (p : Nat) (hp : p < ms.length) : (ms.getD p dm).e = 0 := by
  have := firstE_mem ms h ms[p] (List.getElem_mem hp)
  simpa [List.getD, List.getElem?_eq_getElem hp] using this
theorem fnd_ver {ms : List Svc} {t : Svc} (h : firstE ms = 0) {p : Nat} {f : Bool} (hat : At ms t p f) : 0 ≤ (fnd ms p f).version ∧ (fnd ms p f).version ≤ 1000000 := by
  cases f
  · exact ⟨by show (0 : Int) ≤ 0; omega, by show (0 : Int) ≤ 1000000; omega⟩
  · have := (e_zero (e_at h p (hat.is.1 rfl).1)).2.2.2.2
    rw [fnd, if_pos rfl]
    omega

/-- E3: the service as it is registered: by one more version, not gone. -/
def reg (ms : List Svc) (p : Nat) (f : Bool) (s : Svc) : Svc := { s with version := (fnd ms p f).version + 1, gone := false }
theorem reg_ok {ms : List Svc} {p : Nat} {f : Bool} {s : Svc} (h : s.ok) : (reg ms p f s).ok := h
/-- The key of a service. -/
def keyOf (s : Svc) : Svc := ⟨s.node, s.idn, ⟨#[]⟩, ⟨#[]⟩, 0, 0, false, 0, false⟩

/-- E4: is a service one that Find tells? -/
def keep (name tag : ByteArray) (m : Svc) : Bool := (m.name.toList == name.toList) && ((tag.toList == []) || (m.tag.toList == tag.toList)) && m.passing && !m.gone
def findL (ms : List Svc) (name tag : ByteArray) : List Svc := ms.filter (keep name tag)
def findE (name tag : ByteArray) : Int := if (labB name && tagB tag) = true then 0 else 1

theorem findL_yes {ms : List Svc} {name tag : ByteArray} {k : Nat} (hk : k < ms.length) (h : keep name tag (ms.getD k dm) = true) : findL (ms.take (k + 1)) name tag = findL (ms.take k) name tag ++ [ms.getD k dm] := by
  rw [RL.getD_el dm hk] at h ⊢
  rw [findL, findL, List.take_succ_eq_append_getElem hk, List.filter_append, List.filter_cons_of_pos h]
  rfl
theorem findL_no {ms : List Svc} {name tag : ByteArray} {k : Nat} (hk : k < ms.length) (h : keep name tag (ms.getD k dm) = false) : findL (ms.take (k + 1)) name tag = findL (ms.take k) name tag := by
  rw [RL.getD_el dm hk] at h
  rw [findL, findL, List.take_succ_eq_append_getElem hk, List.filter_append, List.filter_cons_of_neg (by rw [h]; exact Bool.false_ne_true)]
  simp
theorem findL_len (ms : List Svc) (name tag : ByteArray) : (findL ms name tag).length ≤ ms.length := List.length_filter_le _ _
theorem findL_ok {ms : List Svc} {name tag : ByteArray} (h : ∀ m ∈ ms, m.ok) : ∀ m ∈ findL ms name tag, m.ok := fun m hm => h m (List.mem_filter.1 hm).1

/-- Why a service is not told, or is. -/
theorem keep_why (name tag : ByteArray) (m : Svc) :
    (keep name tag m = false ∧ ((m.name.toList == name.toList) = false ∨ ((m.name.toList == name.toList) = true ∧ (tag.toList == []) = false ∧ (m.tag.toList == tag.toList) = false)
      ∨ ((m.name.toList == name.toList) = true ∧ (tag.toList == []) = true ∧ m.passing = false) ∨ ((m.name.toList == name.toList) = true ∧ (tag.toList == []) = false ∧ (m.tag.toList == tag.toList) = true ∧ m.passing = false)
      ∨ ((m.name.toList == name.toList) = true ∧ (tag.toList == []) = true ∧ m.passing = true ∧ m.gone = true) ∨ ((m.name.toList == name.toList) = true ∧ (tag.toList == []) = false ∧ (m.tag.toList == tag.toList) = true ∧ m.passing = true ∧ m.gone = true)))
    ∨ (keep name tag m = true ∧ (((m.name.toList == name.toList) = true ∧ (tag.toList == []) = true ∧ m.passing = true ∧ m.gone = false) ∨ ((m.name.toList == name.toList) = true ∧ (tag.toList == []) = false ∧ (m.tag.toList == tag.toList) = true ∧ m.passing = true ∧ m.gone = false))) := by
  unfold keep
  generalize (m.name.toList == name.toList) = b1
  generalize (tag.toList == []) = b2
  generalize (m.tag.toList == tag.toList) = b3
  generalize m.passing = b4
  generalize m.gone = b5
  cases b1 <;> cases b2 <;> cases b3 <;> cases b4 <;> cases b5 <;> simp

end Sv
end Go.Proofs.YtdfkpehggecbaaaGreatDoor

/- services: whoever joins the same, in whatever order, has the same: of plain lists; and what the laws ask. -/
namespace Go.Proofs.YtdfkpehggecbaaaGreatDoor
namespace Sv
open Go.RowKit

theorem joinL_comm {a b : List Svc} (ha : Rise a) (hb : Rise b) : joinL a b = joinL b a := RL.join_comm ord newE keyed newest ha hb
theorem joinL_assoc {a b c : List Svc} (ha : Rise a) (hb : Rise b) (hc : Rise c) : joinL (joinL a b) c = joinL a (joinL b c) := RL.join_assoc ord newE keyed newest ha hb hc
theorem joinL_absorb {a b : List Svc} (ha : Rise a) (hb : Rise b) : joinL (joinL a b) a = joinL a b := RL.join_absorb ord newE keyed newest ha hb

theorem joinE_zero {a b : List Svc} (h : joinE a b = 0) : chk a = 0 ∧ chk b = 0 ∧ (joinL a b).length ≤ 40 := by
  by_cases ha : chk a = 0
  · by_cases hb : chk b = 0
    · rw [joinE_good ha hb] at h
      refine ⟨ha, hb, ?_⟩
      split at h
      · cases h
      · omega
    · rw [joinE_bad2 ha hb] at h; exact absurd h hb
  · rw [joinE_bad1 ha] at h; exact absurd h ha
theorem joinE_mk {a b : List Svc} (ha : chk a = 0) (hb : chk b = 0) (hl : (joinL a b).length ≤ 40) : joinE a b = 0 := by
  rw [joinE_good ha hb, if_neg (by omega)]
theorem joinE_right {a b : List Svc} (h : joinE a b = 0) : chk (joinL a b) = 0 := by
  obtain ⟨ha, hb, hl⟩ := joinE_zero h
  have za := chk_zero ha
  have zb := chk_zero hb
  exact chk_of hl (joinL_rise b a za.2.1) fun m hm => by
    rcases joinL_mem b a m hm with h | h
    · exact firstE_mem a za.2.2 m h
    · exact firstE_mem b zb.2.2 m h

/-- What is handed back: with an error nothing. -/
def jx (a b : List Svc) : List Svc := if joinE a b = 0 then joinL a b else []
theorem jx_len (a b : List Svc) : (jx a b).length ≤ 40 := by
  unfold jx
  split
  · rename_i h; exact (joinE_zero h).2.2
  · simp
theorem jx_ok {a b : List Svc} (ha : ∀ m ∈ a, (m).ok) (hb : ∀ m ∈ b, (m).ok) : ∀ m ∈ jx a b, (m).ok := by
  unfold jx
  split
  · exact ns_join b a ha hb
  · simp
theorem joinE_comm0 {a b : List Svc} (h : joinE a b = 0) : joinE b a = 0 := by
  obtain ⟨ha, hb, hl⟩ := joinE_zero h
  exact joinE_mk hb ha (by rw [← joinL_comm (chk_zero ha).2.1 (chk_zero hb).2.1]; exact hl)
theorem jx_comm (a b : List Svc) : jx a b = jx b a := by
  unfold jx
  by_cases h : joinE a b = 0
  · obtain ⟨ha, hb, hl⟩ := joinE_zero h
    rw [if_pos h, if_pos (joinE_comm0 h), joinL_comm (chk_zero ha).2.1 (chk_zero hb).2.1]
  · rw [if_neg h, if_neg (fun h' => h (joinE_comm0 h'))]
theorem jx_assoc {l o t : List Svc} (h1 : joinE l o = 0) (h3 : joinE (jx l o) t = 0) (h4 : joinE o t = 0) : joinE l (jx o t) = 0 ∧ jx (jx l o) t = jx l (jx o t) := by
  have e1 : jx l o = joinL l o := if_pos h1
  have e4 : jx o t = joinL o t := if_pos h4
  rw [e1] at h3
  rw [e1, e4]
  obtain ⟨hl, ho, _⟩ := joinE_zero h1
  obtain ⟨_, ht, hlen⟩ := joinE_zero h3
  have e := joinL_assoc (chk_zero hl).2.1 (chk_zero ho).2.1 (chk_zero ht).2.1
  have h5 : joinE l (joinL o t) = 0 := joinE_mk hl (joinE_right h4) (by rw [← e]; exact hlen)
  exact ⟨h5, by rw [jx, jx, if_pos h3, if_pos h5, e]⟩
theorem jx_absorb {a b : List Svc} (h : joinE a b = 0) : joinE (jx a b) a = 0 ∧ jx (jx a b) a = jx a b := by
  have e1 : jx a b = joinL a b := if_pos h
  rw [e1]
  obtain ⟨ha, hb, hl⟩ := joinE_zero h
  have e := joinL_absorb (chk_zero ha).2.1 (chk_zero hb).2.1
  have h5 : joinE (joinL a b) a = 0 := joinE_mk (joinE_right h) ha (by rw [e]; exact hl)
  exact ⟨h5, by rw [jx, if_pos h5, e]⟩

theorem sl_ok {w : World} {v : Value} {ms : List Svc} (h : Sl w v ms) : ∀ m ∈ ms, (m).ok := by obtain ⟨_, _, _, h, _⟩ := h; exact ns_mem h

theorem same_eq (L : List Svc) (v1 v2 : Value) (w : World) (h1 : Sl w v1 L) (h2 : Sl w v2 L) (hn : L.length ≤ 1000) :
    Calls Tryz.prog 41 #[v1, v2] w fun e w' => e = .returned (.bool true) ∧ Below w.heap.size w w' := by
  refine (same_any L L v1 v2 w h1 h2 hn).mono ?_
  rintro e w' ⟨r, rfl, h, hb⟩
  exact ⟨ret_bool (h.2 rfl), hb⟩

end Sv
end Go.Proofs.YtdfkpehggecbaaaGreatDoor

/- What must be in any case of services; the law CatalogOrders. -/
namespace Go.Proofs.YtdfkpehggecbaaaGreatDoor
namespace Sv
open Go.RowKit

def s0 : Svc := ⟨⟨#[110]⟩, ⟨#[105]⟩, ⟨#[115]⟩, ⟨#[]⟩, 0, 0, true, 0, false⟩
def s1 : Svc := ⟨⟨#[110]⟩, ⟨#[105]⟩, ⟨#[115]⟩, ⟨#[]⟩, 0, 0, true, 1, false⟩
theorem at_nil (t : Svc) : At [] t 0 false := ⟨by simp, fun j h => by omega, fun j h h2 => by simp at h2, by simp⟩
theorem s1_ok : s1.ok := ⟨by decide, by decide, by decide, by decide⟩
theorem s0_ok : s0.ok := ⟨by decide, by decide, by decide, by decide⟩
theorem chk_s1 : chk [s1] = 0 := by rw [chk_one]; decide
theorem join_s1 : joinE [] [s1] = 0 := by rw [joinE_good chk_nil chk_s1]; rfl
theorem toList_mk (l : Array UInt8) : (⟨l⟩ : ByteArray).toList = l.toList := Lib.toList_data _
theorem find_s1 : findL [s1] ⟨#[115]⟩ ⟨#[]⟩ = [s1] := by
  have h : keep ⟨#[115]⟩ ⟨#[]⟩ s1 = true := by simp [keep, s1, toList_mk]
  simp [findL, h]
theorem findE_s1 : findE ⟨#[115]⟩ ⟨#[]⟩ = 0 := by decide

end Sv
end Go.Proofs.YtdfkpehggecbaaaGreatDoor

