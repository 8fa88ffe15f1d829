/- SK9, SKS2, SKS3, SK9A -/
import Derived.Test.YtignmeaeibaejaaGreatDoorV12
import Derived.Test.YtignmeaeibaejaaGreatDoorV13
/- services: whoever joins the same, in whatever order, has the same: of plain lists; and what the laws ask. -/
namespace Go.Proofs.YtignmeaeibaejaaGreatDoor
namespace Sv
open Go.RowKit

theorem joinL_comm {a b : List Svc} (ha : Rise a) (hb : Rise b) : joinL a b = joinL b a := RL.join_comm ord newE keyed newest ha hb
theorem joinL_assoc {a b c : List Svc} (ha : Rise a) (hb : Rise b) (hc : Rise c) : joinL (joinL a b) c = joinL a (joinL b c) := RL.join_assoc ord newE keyed newest ha hb hc
theorem joinL_absorb {a b : List Svc} (ha : Rise a) (hb : Rise b) : joinL (joinL a b) a = joinL a b := RL.join_absorb ord newE keyed newest ha hb

theorem joinE_zero {a b : List Svc} (h : joinE a b = 0) : chk a = 0 ∧ chk b = 0 ∧ (joinL a b).length ≤ 40 := by
  by_cases ha : chk a = 0
  · by_cases hb : chk b = 0
    · rw [joinE_good ha hb] at h
      refine ⟨ha, hb, ?_⟩
      split at h
      · cases h
      · omega
    · rw [joinE_bad2 ha hb] at h; exact absurd h hb
  · rw [joinE_bad1 ha] at h; exact absurd h ha
theorem joinE_mk {a b : List Svc} (ha : chk a = 0) (hb : chk b = 0) (hl : (joinL a b).length ≤ 40) : joinE a b = 0 := by
  rw [joinE_good ha hb, if_neg (by omega)]
theorem joinE_right {a b : List Svc} (h : joinE a b = 0) : chk (joinL a b) = 0 := by
  obtain ⟨ha, hb, hl⟩ := joinE_zero h
  have za := chk_zero ha
  have zb := chk_zero hb
  exact chk_of hl (joinL_rise b a za.2.1) fun m hm => by
    rcases joinL_mem b a m hm with h | h
    · exact firstE_mem a za.2.2 m h
    · exact firstE_mem b zb.2.2 m h

/-- What is handed back: with an error nothing. -/
def jx (a b : List Svc) : List Svc := if joinE a b = 0 then joinL a b else []
theorem jx_len (a b : List Svc) : (jx a b).length ≤ 40 := by
  unfold jx
  split
  · rename_i h; exact (joinE_zero h).2.2
  · simp
theorem jx_ok {a b : List Svc} (ha : ∀ m ∈ a, (m).ok) (hb : ∀ m ∈ b, (m).ok) : ∀ m ∈ jx a b, (m).ok := by
  unfold jx
  split
  · exact ns_join b a ha hb
  · simp
theorem joinE_comm0 {a b : List Svc} (h : joinE a b = 0) : joinE b a = 0 := by
  obtain ⟨ha, hb, hl⟩ := joinE_zero h
  exact joinE_mk hb ha (by rw [← joinL_comm (chk_zero ha).2.1 (chk_zero hb).2.1]; exact hl)
theorem jx_comm (a b : List Svc) : jx a b = jx b a := by
  unfold jx
  by_cases h : joinE a b = 0
  · obtain ⟨ha, hb, hl⟩ := joinE_zero h
    rw [if_pos h, if_pos (joinE_comm0 h), joinL_comm (chk_zero ha).2.1 (chk_zero hb).2.1]
  · rw [if_neg h, if_neg (fun h' => h (joinE_comm0 h'))]
theorem jx_assoc {l o t : List Svc} (h1 : joinE l o = 0) (h3 : joinE (jx l o) t = 0) (h4 : joinE o t = 0) : joinE l (jx o t) = 0 ∧ jx (jx l o) t = jx l (jx o t) := by
  have e1 : jx l o = joinL l o := if_pos h1
  have e4 : jx o t = joinL o t := if_pos h4
  rw [e1] at h3
  rw [e1, e4]
  obtain ⟨hl, ho, _⟩ := joinE_zero h1
  obtain ⟨_, ht, hlen⟩ := joinE_zero h3
  have e := joinL_assoc (chk_zero hl).2.1 (chk_zero ho).2.1 (chk_zero ht).2.1
  have h5 : joinE l (joinL o t) = 0 := joinE_mk hl (joinE_right h4) (by rw [← e]; exact hlen)
  exact ⟨h5, by rw [jx, jx, if_pos h3, if_pos h5, e]⟩
theorem jx_absorb {a b : List Svc} (h : joinE a b = 0) : joinE (jx a b) a = 0 ∧ jx (jx a b) a = jx a b := by
  have e1 : jx a b = joinL a b := if_pos h
  rw [e1]
  obtain ⟨ha, hb, hl⟩ := joinE_zero h
  have e := joinL_absorb (chk_zero ha).2.1 (chk_zero hb).2.1
  have h5 : joinE (joinL a b) a = 0 := joinE_mk (joinE_right h) ha (by rw [e]; exact hl)
  exact ⟨h5, by rw [jx, if_pos h5, e]⟩

theorem sl_ok {w : World} {v : Value} {ms : List Svc} (h : Sl w v ms) : ∀ m ∈ ms, (m).ok := by obtain ⟨_, _, _, h, _⟩ := h; exact ns_mem h

end Sv
end Go.Proofs.YtignmeaeibaejaaGreatDoor

/- What must be in any case of services; the law CatalogOrders. -/
namespace Go.Proofs.YtignmeaeibaejaaGreatDoor
namespace Sv
open Go.RowKit

def s0 : Svc := ⟨⟨#[110]⟩, ⟨#[105]⟩, ⟨#[115]⟩, ⟨#[]⟩, 0, 0, true, 0, false⟩
def s1 : Svc := ⟨⟨#[110]⟩, ⟨#[105]⟩, ⟨#[115]⟩, ⟨#[]⟩, 0, 0, true, 1, false⟩
theorem at_nil (t : Svc) : At [] t 0 false := ⟨by simp, fun j h => by omega, fun j h h2 => by simp at h2, by simp⟩
theorem s1_ok : s1.ok := ⟨by decide, by decide, by decide, by decide⟩
theorem s0_ok : s0.ok := ⟨by decide, by decide, by decide, by decide⟩
theorem chk_s1 : chk [s1] = 0 := by rw [chk_one]; decide
theorem join_s1 : joinE [] [s1] = 0 := by rw [joinE_good chk_nil chk_s1]; rfl
theorem toList_mk (l : Array UInt8) : (⟨l⟩ : ByteArray).toList = l.toList := Lib.toList_data _
theorem find_s1 : findL [s1] ⟨#[115]⟩ ⟨#[]⟩ = [s1] := by
  have h : keep ⟨#[115]⟩ ⟨#[]⟩ s1 = true := by simp [keep, s1, toList_mk]
  simp [findL, h]
theorem findE_s1 : findE ⟨#[115]⟩ ⟨#[]⟩ = 0 := by decide

end Sv
end Go.Proofs.YtignmeaeibaejaaGreatDoor

/- The document's own Check of services. -/
namespace Go.Proofs.YtignmeaeibaejaaGreatDoor
namespace Sv
open Go.RowKit

theorem e_if (m : Svc) : m.e = if labB m.node = true then (if labB m.idn = true then (if labB m.name = true then (if tagB m.tag = true then (if within m.addr 0 4294967295 = true then (if within m.port 0 65535 = true then (if within m.version 1 1000000 = true then 0 else 3) else 3) else 3) else 1) else 1) else 1) else 1 := by
  unfold Svc.e
  cases labB m.node <;> cases labB m.idn <;> cases labB m.name <;> cases tagB m.tag <;> cases within m.addr 0 4294967295 <;> cases within m.port 0 65535 <;> cases within m.version 1 1000000 <;> rfl

set_option maxHeartbeats 3200000 in
theorem refOne_any (m : Svc) (w : World) (hm : m.ok) :
    Calls Tryz.prog 74 #[.agg #[.string m.node, .string m.idn, .string m.name, .string m.tag, .int .i64 m.addr, .int .i64 m.port, .bool m.passing, .int .i64 m.version, .bool m.gone]] w fun e w' => e = .returned (.int .i64 m.e) ∧ Below w.heap.size w w' := by
  obtain ⟨hs1, hs2, hs3, hs4⟩ := hm
  have hB : Hid (Below w.heap.size w (w.alloc (.cells #[.string m.node, .string m.idn, .string m.name, .string m.tag, .int .i64 m.addr, .int .i64 m.port, .bool m.passing, .int .i64 m.version, .bool m.gone] 57))) := (Below.refl _ _).alloc (Nat.le_refl _) _
  have HD : Hid (m.e = _) := e_if m
  have hsA : Hid (∀ s : ByteArray, (s = m.node ∨ s = m.idn ∨ s = m.name ∨ s = m.tag) → s.size ≤ maxLen) := by rintro s (rfl | rfl | rfl | rfl) <;> assumption
  clear hs1 hs2 hs3 hs4
  rcases h1 : labB m.node with _ | _
  · go_enter Tryz.func74, Tryz.ntmps74
    go_wp2_with (go_at_call 32; refine (isLabel_any _ _ (hsA.out _ (by simp))).mono ?_; rintro e w' ⟨rfl, rfl⟩; first | rw [h1])
    go_ret
    exact ⟨ret_int (by rw [HD.out]; simp [h1]), hB.out⟩
  · rcases h2 : labB m.idn with _ | _
    · go_enter Tryz.func74, Tryz.ntmps74
      go_wp2_with (go_at_call 32; refine (isLabel_any _ _ (hsA.out _ (by simp))).mono ?_; rintro e w' ⟨rfl, rfl⟩; first | rw [h1] | rw [h2])
      go_ret
      exact ⟨ret_int (by rw [HD.out]; simp [h1, h2]), hB.out⟩
    · rcases h3 : labB m.name with _ | _
      · go_enter Tryz.func74, Tryz.ntmps74
        go_wp2_with (go_at_call 32; refine (isLabel_any _ _ (hsA.out _ (by simp))).mono ?_; rintro e w' ⟨rfl, rfl⟩; first | rw [h1] | rw [h2] | rw [h3])
        go_ret
        exact ⟨ret_int (by rw [HD.out]; simp [h1, h2, h3]), hB.out⟩
      · by_cases ht : m.tag = ByteArray.empty
        · have ht1 : m.tag.toList = [] := by rw [ht, Lib.toList_data]; rfl
          have ht2 : (m.tag.toList == []) = true := by rw [ht1]; rfl
          have htt : tagB m.tag = true := by simp [tagB, ht]
          clear ht
          rcases h5 : within m.addr 0 4294967295 with _ | _
          · go_enter Tryz.func74, Tryz.ntmps74
            go_wp2_with (first | (go_at_call 32; refine (isLabel_any _ _ (hsA.out _ (by simp))).mono ?_; rintro e w' ⟨rfl, rfl⟩; first | rw [h1] | rw [h2] | rw [h3]) | (go_at_call 104; refine (isAddress_any _ _).mono ?_; rintro e w' ⟨rfl, rfl⟩; rw [h5]))
            go_ret
            exact ⟨ret_int (by rw [HD.out]; simp [h1, h2, h3, htt, h5]), hB.out⟩
          · rcases h6 : within m.port 0 65535 with _ | _
            · go_enter Tryz.func74, Tryz.ntmps74
              go_wp2_with (first | (go_at_call 32; refine (isLabel_any _ _ (hsA.out _ (by simp))).mono ?_; rintro e w' ⟨rfl, rfl⟩; first | rw [h1] | rw [h2] | rw [h3]) | (go_at_call 104; refine (isAddress_any _ _).mono ?_; rintro e w' ⟨rfl, rfl⟩; rw [h5]) | (go_at_call 47; refine (between_any _ _ _ _).mono ?_; rintro e w' ⟨rfl, rfl⟩; first | rw [h6]))
              go_ret
              exact ⟨ret_int (by rw [HD.out]; simp [h1, h2, h3, htt, h5, h6]), hB.out⟩
            · rcases h7 : within m.version 1 1000000 with _ | _
              · go_enter Tryz.func74, Tryz.ntmps74
                go_wp2_with (first | (go_at_call 32; refine (isLabel_any _ _ (hsA.out _ (by simp))).mono ?_; rintro e w' ⟨rfl, rfl⟩; first | rw [h1] | rw [h2] | rw [h3]) | (go_at_call 104; refine (isAddress_any _ _).mono ?_; rintro e w' ⟨rfl, rfl⟩; rw [h5]) | (go_at_call 47; refine (between_any _ _ _ _).mono ?_; rintro e w' ⟨rfl, rfl⟩; first | rw [h6] | rw [h7]))
                go_ret
                exact ⟨ret_int (by rw [HD.out]; simp [h1, h2, h3, htt, h5, h6, h7]), hB.out⟩
              · go_enter Tryz.func74, Tryz.ntmps74
                go_wp2_with (first | (go_at_call 32; refine (isLabel_any _ _ (hsA.out _ (by simp))).mono ?_; rintro e w' ⟨rfl, rfl⟩; first | rw [h1] | rw [h2] | rw [h3]) | (go_at_call 104; refine (isAddress_any _ _).mono ?_; rintro e w' ⟨rfl, rfl⟩; rw [h5]) | (go_at_call 47; refine (between_any _ _ _ _).mono ?_; rintro e w' ⟨rfl, rfl⟩; first | rw [h6] | rw [h7]))
                go_ret
                exact ⟨ret_int (by rw [HD.out]; simp [h1, h2, h3, htt, h5, h6, h7]), hB.out⟩
        · have ht1 : ¬ m.tag.toList = [] := fun e => (beq_name ht).2 (by rw [e, Lib.toList_data]; rfl)
          have ht2 : (m.tag.toList == []) = false := by simpa using ht1
          have HTT : Hid (tagB m.tag = labB m.tag) := (show tagB m.tag = labB m.tag by simp [tagB, ht])
          clear ht
          rcases h4 : labB m.tag with _ | _
          · have htt : tagB m.tag = false := HTT.out.trans h4
            go_enter Tryz.func74, Tryz.ntmps74
            go_wp2_with (go_at_call 32; refine (isLabel_any _ _ (hsA.out _ (by simp))).mono ?_; rintro e w' ⟨rfl, rfl⟩; first | rw [h1] | rw [h2] | rw [h3] | rw [h4])
            go_ret
            exact ⟨ret_int (by rw [HD.out]; simp [h1, h2, h3, htt]), hB.out⟩
          · have htt : tagB m.tag = true := HTT.out.trans h4
            rcases h5 : within m.addr 0 4294967295 with _ | _
            · go_enter Tryz.func74, Tryz.ntmps74
              go_wp2_with (first | (go_at_call 32; refine (isLabel_any _ _ (hsA.out _ (by simp))).mono ?_; rintro e w' ⟨rfl, rfl⟩; first | rw [h1] | rw [h2] | rw [h3] | rw [h4]) | (go_at_call 104; refine (isAddress_any _ _).mono ?_; rintro e w' ⟨rfl, rfl⟩; rw [h5]))
              go_ret
              exact ⟨ret_int (by rw [HD.out]; simp [h1, h2, h3, htt, h5]), hB.out⟩
            · rcases h6 : within m.port 0 65535 with _ | _
              · go_enter Tryz.func74, Tryz.ntmps74
                go_wp2_with (first | (go_at_call 32; refine (isLabel_any _ _ (hsA.out _ (by simp))).mono ?_; rintro e w' ⟨rfl, rfl⟩; first | rw [h1] | rw [h2] | rw [h3] | rw [h4]) | (go_at_call 104; refine (isAddress_any _ _).mono ?_; rintro e w' ⟨rfl, rfl⟩; rw [h5]) | (go_at_call 47; refine (between_any _ _ _ _).mono ?_; rintro e w' ⟨rfl, rfl⟩; first | rw [h6]))
                go_ret
                exact ⟨ret_int (by rw [HD.out]; simp [h1, h2, h3, htt, h5, h6]), hB.out⟩
              · rcases h7 : within m.version 1 1000000 with _ | _
                · go_enter Tryz.func74, Tryz.ntmps74
                  go_wp2_with (first | (go_at_call 32; refine (isLabel_any _ _ (hsA.out _ (by simp))).mono ?_; rintro e w' ⟨rfl, rfl⟩; first | rw [h1] | rw [h2] | rw [h3] | rw [h4]) | (go_at_call 104; refine (isAddress_any _ _).mono ?_; rintro e w' ⟨rfl, rfl⟩; rw [h5]) | (go_at_call 47; refine (between_any _ _ _ _).mono ?_; rintro e w' ⟨rfl, rfl⟩; first | rw [h6] | rw [h7]))
                  go_ret
                  exact ⟨ret_int (by rw [HD.out]; simp [h1, h2, h3, htt, h5, h6, h7]), hB.out⟩
                · go_enter Tryz.func74, Tryz.ntmps74
                  go_wp2_with (first | (go_at_call 32; refine (isLabel_any _ _ (hsA.out _ (by simp))).mono ?_; rintro e w' ⟨rfl, rfl⟩; first | rw [h1] | rw [h2] | rw [h3] | rw [h4]) | (go_at_call 104; refine (isAddress_any _ _).mono ?_; rintro e w' ⟨rfl, rfl⟩; rw [h5]) | (go_at_call 47; refine (between_any _ _ _ _).mono ?_; rintro e w' ⟨rfl, rfl⟩; first | rw [h6] | rw [h7]))
                  go_ret
                  exact ⟨ret_int (by rw [HD.out]; simp [h1, h2, h3, htt, h5, h6, h7]), hB.out⟩

end Sv
end Go.Proofs.YtignmeaeibaejaaGreatDoor

/- services: what they must be beside an errno. -/
namespace Go.Proofs.YtignmeaeibaejaaGreatDoor
namespace Sv
open Go.RowKit

end Sv
end Go.Proofs.YtignmeaeibaejaaGreatDoor

