/- SKS3 -/
import Derived.Test.YtdfkpehggecbaaaGreatDoorV44
/- The document's own Check of services. -/
namespace Go.Proofs.YtdfkpehggecbaaaGreatDoor
namespace Sv
open Go.RowKit

theorem e_if (m : Svc) : m.e = if labB m.node = true then (if labB m.idn = true then (if labB m.name = true then (if tagB m.tag = true then (if within m.addr 0 4294967295 = true then (if within m.port 0 65535 = true then (if within m.version 1 1000000 = true then 0 else 3) else 3) else 3) else 1) else 1) else 1) else 1 := by
  unfold Svc.e
  cases labB m.node <;> cases labB m.idn <;> cases labB m.name <;> cases tagB m.tag <;> cases within m.addr 0 4294967295 <;> cases within m.port 0 65535 <;> cases within m.version 1 1000000 <;> rfl

set_option maxHeartbeats 3200000 in
theorem refOne_any (m : Svc) (w : World) (hm : m.ok) :
    Calls Tryz.prog 55 #[.agg #[.string m.node, .string m.idn, .string m.name, .string m.tag, .int .i64 m.addr, .int .i64 m.port, .bool m.passing, .int .i64 m.version, .bool m.gone]] w fun e w' => e = .returned (.int .i64 m.e) ∧ Below w.heap.size w w' := by
  obtain ⟨hs1, hs2, hs3, hs4⟩ := hm
  have hB : Hid (Below w.heap.size w (w.alloc (.cells #[.string m.node, .string m.idn, .string m.name, .string m.tag, .int .i64 m.addr, .int .i64 m.port, .bool m.passing, .int .i64 m.version, .bool m.gone] 60))) := (Below.refl _ _).alloc (Nat.le_refl _) _
  have HD : Hid (m.e = _) := e_if m
  have hsA : Hid (∀ s : ByteArray, (s = m.node ∨ s = m.idn ∨ s = m.name ∨ s = m.tag) → s.size ≤ maxLen) := by rintro s (rfl | rfl | rfl | rfl) <;> assumption
  clear hs1 hs2 hs3 hs4
  rcases h1 : labB m.node with _ | _
  · go_enter Tryz.func55, Tryz.ntmps55
    go_wp2_with (go_at_call 17; refine (isLabel_any _ _ (hsA.out _ (by simp))).mono ?_; rintro e w' ⟨rfl, rfl⟩; first | rw [h1])
    go_ret
    exact ⟨ret_int (by rw [HD.out]; simp [h1]), hB.out⟩
  · rcases h2 : labB m.idn with _ | _
    · go_enter Tryz.func55, Tryz.ntmps55
      go_wp2_with (go_at_call 17; refine (isLabel_any _ _ (hsA.out _ (by simp))).mono ?_; rintro e w' ⟨rfl, rfl⟩; first | rw [h1] | rw [h2])
      go_ret
      exact ⟨ret_int (by rw [HD.out]; simp [h1, h2]), hB.out⟩
    · rcases h3 : labB m.name with _ | _
      · go_enter Tryz.func55, Tryz.ntmps55
        go_wp2_with (go_at_call 17; refine (isLabel_any _ _ (hsA.out _ (by simp))).mono ?_; rintro e w' ⟨rfl, rfl⟩; first | rw [h1] | rw [h2] | rw [h3])
        go_ret
        exact ⟨ret_int (by rw [HD.out]; simp [h1, h2, h3]), hB.out⟩
      · by_cases ht : m.tag = ByteArray.empty
        · have ht1 : m.tag.toList = [] := by rw [ht, Lib.toList_data]; rfl
          have ht2 : (m.tag.toList == []) = true := by rw [ht1]; rfl
          have htt : tagB m.tag = true := by simp [tagB, ht]
          clear ht
          rcases h5 : within m.addr 0 4294967295 with _ | _
          · go_enter Tryz.func55, Tryz.ntmps55
            go_wp2_with (first | (go_at_call 17; refine (isLabel_any _ _ (hsA.out _ (by simp))).mono ?_; rintro e w' ⟨rfl, rfl⟩; first | rw [h1] | rw [h2] | rw [h3]) | (go_at_call 57; refine (isAddress_any _ _).mono ?_; rintro e w' ⟨rfl, rfl⟩; rw [h5]))
            go_ret
            exact ⟨ret_int (by rw [HD.out]; simp [h1, h2, h3, htt, h5]), hB.out⟩
          · rcases h6 : within m.port 0 65535 with _ | _
            · go_enter Tryz.func55, Tryz.ntmps55
              go_wp2_with (first | (go_at_call 17; refine (isLabel_any _ _ (hsA.out _ (by simp))).mono ?_; rintro e w' ⟨rfl, rfl⟩; first | rw [h1] | rw [h2] | rw [h3]) | (go_at_call 57; refine (isAddress_any _ _).mono ?_; rintro e w' ⟨rfl, rfl⟩; rw [h5]) | (go_at_call 58; refine (between_any _ _ _ _).mono ?_; rintro e w' ⟨rfl, rfl⟩; first | rw [h6]))
              go_ret
              exact ⟨ret_int (by rw [HD.out]; simp [h1, h2, h3, htt, h5, h6]), hB.out⟩
            · rcases h7 : within m.version 1 1000000 with _ | _
              · go_enter Tryz.func55, Tryz.ntmps55
                go_wp2_with (first | (go_at_call 17; refine (isLabel_any _ _ (hsA.out _ (by simp))).mono ?_; rintro e w' ⟨rfl, rfl⟩; first | rw [h1] | rw [h2] | rw [h3]) | (go_at_call 57; refine (isAddress_any _ _).mono ?_; rintro e w' ⟨rfl, rfl⟩; rw [h5]) | (go_at_call 58; refine (between_any _ _ _ _).mono ?_; rintro e w' ⟨rfl, rfl⟩; first | rw [h6] | rw [h7]))
                go_ret
                exact ⟨ret_int (by rw [HD.out]; simp [h1, h2, h3, htt, h5, h6, h7]), hB.out⟩
              · go_enter Tryz.func55, Tryz.ntmps55
                go_wp2_with (first | (go_at_call 17; refine (isLabel_any _ _ (hsA.out _ (by simp))).mono ?_; rintro e w' ⟨rfl, rfl⟩; first | rw [h1] | rw [h2] | rw [h3]) | (go_at_call 57; refine (isAddress_any _ _).mono ?_; rintro e w' ⟨rfl, rfl⟩; rw [h5]) | (go_at_call 58; refine (between_any _ _ _ _).mono ?_; rintro e w' ⟨rfl, rfl⟩; first | rw [h6] | rw [h7]))
                go_ret
                exact ⟨ret_int (by rw [HD.out]; simp [h1, h2, h3, htt, h5, h6, h7]), hB.out⟩
        · have ht1 : ¬ m.tag.toList = [] := fun e => (beq_name ht).2 (by rw [e, Lib.toList_data]; rfl)
          have ht2 : (m.tag.toList == []) = false := by simpa using ht1
          have HTT : Hid (tagB m.tag = labB m.tag) := (show tagB m.tag = labB m.tag by simp [tagB, ht])
          clear ht
          rcases h4 : labB m.tag with _ | _
          · have htt : tagB m.tag = false := HTT.out.trans h4
            go_enter Tryz.func55, Tryz.ntmps55
            go_wp2_with (go_at_call 17; refine (isLabel_any _ _ (hsA.out _ (by simp))).mono ?_; rintro e w' ⟨rfl, rfl⟩; first | rw [h1] | rw [h2] | rw [h3] | rw [h4])
            go_ret
            exact ⟨ret_int (by rw [HD.out]; simp [h1, h2, h3, htt]), hB.out⟩
          · have htt : tagB m.tag = true := HTT.out.trans h4
            rcases h5 : within m.addr 0 4294967295 with _ | _
            · go_enter Tryz.func55, Tryz.ntmps55
              go_wp2_with (first | (go_at_call 17; refine (isLabel_any _ _ (hsA.out _ (by simp))).mono ?_; rintro e w' ⟨rfl, rfl⟩; first | rw [h1] | rw [h2] | rw [h3] | rw [h4]) | (go_at_call 57; refine (isAddress_any _ _).mono ?_; rintro e w' ⟨rfl, rfl⟩; rw [h5]))
              go_ret
              exact ⟨ret_int (by rw [HD.out]; simp [h1, h2, h3, htt, h5]), hB.out⟩
            · rcases h6 : within m.port 0 65535 with _ | _
              · go_enter Tryz.func55, Tryz.ntmps55
                go_wp2_with (first | (go_at_call 17; refine (isLabel_any _ _ (hsA.out _ (by simp))).mono ?_; rintro e w' ⟨rfl, rfl⟩; first | rw [h1] | rw [h2] | rw [h3] | rw [h4]) | (go_at_call 57; refine (isAddress_any _ _).mono ?_; rintro e w' ⟨rfl, rfl⟩; rw [h5]) | (go_at_call 58; refine (between_any _ _ _ _).mono ?_; rintro e w' ⟨rfl, rfl⟩; first | rw [h6]))
                go_ret
                exact ⟨ret_int (by rw [HD.out]; simp [h1, h2, h3, htt, h5, h6]), hB.out⟩
              · rcases h7 : within m.version 1 1000000 with _ | _
                · go_enter Tryz.func55, Tryz.ntmps55
                  go_wp2_with (first | (go_at_call 17; refine (isLabel_any _ _ (hsA.out _ (by simp))).mono ?_; rintro e w' ⟨rfl, rfl⟩; first | rw [h1] | rw [h2] | rw [h3] | rw [h4]) | (go_at_call 57; refine (isAddress_any _ _).mono ?_; rintro e w' ⟨rfl, rfl⟩; rw [h5]) | (go_at_call 58; refine (between_any _ _ _ _).mono ?_; rintro e w' ⟨rfl, rfl⟩; first | rw [h6] | rw [h7]))
                  go_ret
                  exact ⟨ret_int (by rw [HD.out]; simp [h1, h2, h3, htt, h5, h6, h7]), hB.out⟩
                · go_enter Tryz.func55, Tryz.ntmps55
                  go_wp2_with (first | (go_at_call 17; refine (isLabel_any _ _ (hsA.out _ (by simp))).mono ?_; rintro e w' ⟨rfl, rfl⟩; first | rw [h1] | rw [h2] | rw [h3] | rw [h4]) | (go_at_call 57; refine (isAddress_any _ _).mono ?_; rintro e w' ⟨rfl, rfl⟩; rw [h5]) | (go_at_call 58; refine (between_any _ _ _ _).mono ?_; rintro e w' ⟨rfl, rfl⟩; first | rw [h6] | rw [h7]))
                  go_ret
                  exact ⟨ret_int (by rw [HD.out]; simp [h1, h2, h3, htt, h5, h6, h7]), hB.out⟩

end Sv
end Go.Proofs.YtdfkpehggecbaaaGreatDoor

