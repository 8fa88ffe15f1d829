
/- gateways: whoever joins the same, in whatever order, has the same: of plain lists; and what the laws ask. -/
import Derived.Test.YtjpcngkddejdjafGK7
namespace Go.Proofs.Ytjpcngkddejdjaf
namespace Gw
open Go.RowKit

theorem joinL_comm {a b : List Gwy} (ha : Rise a) (hb : Rise b) : joinL a b = joinL b a := RL.join_comm ord newE keyed newest ha hb
theorem joinL_assoc {a b c : List Gwy} (ha : Rise a) (hb : Rise b) (hc : Rise c) : joinL (joinL a b) c = joinL a (joinL b c) := RL.join_assoc ord newE keyed newest ha hb hc
theorem joinL_absorb {a b : List Gwy} (ha : Rise a) (hb : Rise b) : joinL (joinL a b) a = joinL a b := RL.join_absorb ord newE keyed newest ha hb

theorem joinE_zero {a b : List Gwy} (h : joinE a b = 0) : chk a = 0 ∧ chk b = 0 ∧ (joinL a b).length ≤ 6 := by
  by_cases ha : chk a = 0
  · by_cases hb : chk b = 0
    · rw [joinE_good ha hb] at h
      refine ⟨ha, hb, ?_⟩
      split at h
      · cases h
      · omega
    · rw [joinE_bad2 ha hb] at h; exact absurd h hb
  · rw [joinE_bad1 ha] at h; exact absurd h ha
theorem joinE_mk {a b : List Gwy} (ha : chk a = 0) (hb : chk b = 0) (hl : (joinL a b).length ≤ 6) : joinE a b = 0 := by
  rw [joinE_good ha hb, if_neg (by omega)]
theorem joinE_right {a b : List Gwy} (h : joinE a b = 0) : chk (joinL a b) = 0 := by
  obtain ⟨ha, hb, hl⟩ := joinE_zero h
  have za := chk_zero ha
  have zb := chk_zero hb
  exact chk_of hl (joinL_rise b a za.2.1) fun m hm => by
    rcases joinL_mem b a m hm with h | h
    · exact firstE_mem a za.2.2 m h
    · exact firstE_mem b zb.2.2 m h

/-- What is handed back: with an error nothing. -/
def jx (a b : List Gwy) : List Gwy := if joinE a b = 0 then joinL a b else []
theorem jx_len (a b : List Gwy) : (jx a b).length ≤ 6 := by
  unfold jx
  split
  · rename_i h; exact (joinE_zero h).2.2
  · simp
theorem jx_ok {a b : List Gwy} (ha : ∀ m ∈ a, (m).ok) (hb : ∀ m ∈ b, (m).ok) : ∀ m ∈ jx a b, (m).ok := by
  unfold jx
  split
  · exact ns_join b a ha hb
  · simp
theorem joinE_comm0 {a b : List Gwy} (h : joinE a b = 0) : joinE b a = 0 := by
  obtain ⟨ha, hb, hl⟩ := joinE_zero h
  exact joinE_mk hb ha (by rw [← joinL_comm (chk_zero ha).2.1 (chk_zero hb).2.1]; exact hl)
theorem jx_comm (a b : List Gwy) : jx a b = jx b a := by
  unfold jx
  by_cases h : joinE a b = 0
  · obtain ⟨ha, hb, hl⟩ := joinE_zero h
    rw [if_pos h, if_pos (joinE_comm0 h), joinL_comm (chk_zero ha).2.1 (chk_zero hb).2.1]
  · rw [if_neg h, if_neg (fun h' => h (joinE_comm0 h'))]
theorem jx_assoc {l o t : List Gwy} (h1 : joinE l o = 0) (h3 : joinE (jx l o) t = 0) (h4 : joinE o t = 0) : joinE l (jx o t) = 0 ∧ jx (jx l o) t = jx l (jx o t) := by
  have e1 : jx l o = joinL l o := if_pos h1
  have e4 : jx o t = joinL o t := if_pos h4
  rw [e1] at h3
  rw [e1, e4]
  obtain ⟨hl, ho, _⟩ := joinE_zero h1
  obtain ⟨_, ht, hlen⟩ := joinE_zero h3
  have e := joinL_assoc (chk_zero hl).2.1 (chk_zero ho).2.1 (chk_zero ht).2.1
  have h5 : joinE l (joinL o t) = 0 := joinE_mk hl (joinE_right h4) (by rw [← e]; exact hlen)
  exact ⟨h5, by rw [jx, jx, if_pos h3, if_pos h5, e]⟩
theorem jx_absorb {a b : List Gwy} (h : joinE a b = 0) : joinE (jx a b) a = 0 ∧ jx (jx a b) a = jx a b := by
  have e1 : jx a b = joinL a b := if_pos h
  rw [e1]
  obtain ⟨ha, hb, hl⟩ := joinE_zero h
  have e := joinL_absorb (chk_zero ha).2.1 (chk_zero hb).2.1
  have h5 : joinE (joinL a b) a = 0 := joinE_mk (joinE_right h) ha (by rw [e]; exact hl)
  exact ⟨h5, by rw [jx, if_pos h5, e]⟩

theorem sl_ok {w : World} {v : Value} {ms : List Gwy} (h : Sl w v ms) : ∀ m ∈ ms, (m).ok := by obtain ⟨_, _, _, h, _⟩ := h; exact ns_mem h

theorem join_jx (a b : List Gwy) (va vb : Value) (w : World) (ha : Sl w va a) (hb : Sl w vb b) :
    Calls Try.prog 22 #[va, vb] w fun e w' => ∃ v', e = .returned (.tuple #[v', .int .i64 (joinE a b)]) ∧ Hid (Sl w' v' (jx a b)) ∧ Below w.heap.size w w' := by
  have hna := sl_ok ha
  have hnb := sl_ok hb
  refine (join2_any a b va vb w ha hb).mono ?_
  rintro e w' ⟨v', rfl, hbl, hbad, hgood⟩
  refine ⟨v', rfl, ?_, hbl⟩
  show Sl w' v' (jx a b)
  by_cases h : joinE a b = 0
  · rw [jx, if_pos h]
    exact own_names (hgood h) (ns_join b a hna hnb)
  · rw [jx, if_neg h, hbad h]
    exact sl_nil _

theorem same_eq (L : List Gwy) (v1 v2 : Value) (w : World) (h1 : Sl w v1 L) (h2 : Sl w v2 L) (hn : L.length ≤ 1000) :
    Calls Try.prog 28 #[v1, v2] w fun e w' => e = .returned (.bool true) ∧ Below w.heap.size w w' := by
  refine (same_any L L v1 v2 w h1 h2 hn).mono ?_
  rintro e w' ⟨r, rfl, h, hb⟩
  exact ⟨ret_bool (h.2 rfl), hb⟩

end Gw
end Go.Proofs.Ytjpcngkddejdjaf
