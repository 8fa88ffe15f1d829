/- GKG2 -/
import Derived.Test.YtdfkpehggecbaaaGreatDoorV40
/- The document's own Check of gateways; where a centre is; a gateway in the place of that of its centre. -/
namespace Go.Proofs.YtdfkpehggecbaaaGreatDoor
namespace Gw
open Go.RowKit

theorem e_cases (m : Gwy) : m.e = if labB m.centre = true then (if within m.addr 0 4294967295 = true then (if within m.version 1 1000000 = true then 0 else 3) else 3) else 1 := rfl

set_option maxHeartbeats 1600000 in
theorem refCheck_row (ms : List Gwy) (b off cap : Nat) (w : World) (hr : Row w b off ms) (hb : b < w.heap.size) (hn : ms.length ≤ 6) (hs : ∀ j, (ms.getD j dm).ok) :
    Calls Tryz.prog 20 #[.slice (some ⟨b, off, none⟩) ms.length cap] w fun e w' => e = .returned (.int .i64 (chk ms)) ∧ Below w.heap.size w w' := by
  have HR : Hid (Row w b off ms) := hr
  clear hr
  have HE : Hid (∀ k, k < ms.length → (∀ j, j < k → (ms.getD j dm).e = 0) → (ms.getD k dm).e ≠ 0 → chk ms = (ms.getD k dm).e) := fun k h1 h2 h3 => chk_e ms k hn h1 h2 h3
  have H4 : Hid ((∀ j, j < ms.length → (ms.getD j dm).e = 0) → ∀ k, k + 1 < ms.length → less (ms.getD k dm).centre (ms.getD (k + 1) dm).centre = false → chk ms = 4) := fun h1 k h2 h3 => chk_4 ms k hn h1 h2 (fun h => by rw [show ord (ms.getD k dm) (ms.getD (k + 1) dm) = cmpI (ms.getD k dm).centre (ms.getD (k + 1) dm).centre from rfl, cmpI_lt, h3] at h; cases h)
  have H0 : Hid ((∀ j, j < ms.length → (ms.getD j dm).e = 0) → (∀ j, j + 1 < ms.length → less (ms.getD j dm).centre (ms.getD (j + 1) dm).centre = true) → chk ms = 0) := fun h1 h2 => chk_0 ms hn h1 (fun j hj => (cmpI_lt _ _).2 (h2 j hj))
  generalize hN : ms.length = n at *
  have HN : Hid (ms.length = n) := hN
  clear hN
  have HS : Hid (∀ j, (ms.getD j dm).ok) := hs
  clear hs
  generalize hC : chk ms = res at *
  have HC : Hid (chk ms = res) := hC
  clear hC
  go_enter Tryz.func20, Tryz.ntmps20
  go_wp2_with fail
  go_loopw [3] (fun i w' => ∃ k : Nat, k ≤ n ∧ i = .int .i64 k ∧ Below w.heap.size w w' ∧ Hid (∀ j, j < k → (ms.getD j dm).e = 0)) (fun i _ => n - (intOf i).toNat)
  case atStart => exact ⟨0, Nat.zero_le _, rfl, Below.refl _ _, fun j h => absurd h (Nat.not_lt_zero _)⟩
  case round =>
    obtain ⟨k, hk, rfl, hbl, hz⟩ := hrel
    obtain ⟨hbc, hbf⟩ := bcell hbl
    have hsz := hbl.size
    by_cases hlt : k < n
    · obtain ⟨c0, c1, c2⟩ := HR.out k (by rw [HN.out]; exact hlt)
      have hsk : (ms.getD k dm).centre.size ≤ maxLen := HS.out k
      have HK : Hid ((ms.getD k dm).e ≠ 0 → res = (ms.getD k dm).e) := fun h => HE.out k hlt hz.out h
      have HZ : Hid ((ms.getD k dm).e = 0 → ∀ j, j < k + 1 → (ms.getD j dm).e = 0) := fun h j hj => by
        rcases Nat.lt_succ_iff_lt_or_eq.1 hj with h2 | rfl
        · exact hz.out j h2
        · exact h
      generalize ms.getD k dm = m at *
      have HD : Hid (m.e = if labB m.centre = true then (if within m.addr 0 4294967295 = true then (if within m.version 1 1000000 = true then 0 else 3) else 3) else 1) := rfl
      generalize m.e = me at *
      rcases h1 : labB m.centre with _ | _
      · have HRes : Hid (res = 1) := (HK.out (by rw [HD.out]; simp [h1])).trans (by rw [HD.out]; simp [h1])
        go_wp2_with (go_at_call 17; refine (isLabel_any _ _ hsk).mono ?_; rintro e w' ⟨rfl, rfl⟩; rw [h1])
        go_ret
        exact ⟨ret_int HRes.out.symm, hbl⟩
      · rcases h2 : within m.addr 0 4294967295 with _ | _
        · have HRes : Hid (res = 3) := (HK.out (by rw [HD.out]; simp [h1, h2])).trans (by rw [HD.out]; simp [h1, h2])
          go_wp2_with (first | (go_at_call 17; refine (isLabel_any _ _ hsk).mono ?_; rintro e w' ⟨rfl, rfl⟩; rw [h1]) | (go_at_call 57; refine (isAddress_any _ _).mono ?_; rintro e w' ⟨rfl, rfl⟩; rw [h2]))
          go_ret
          exact ⟨ret_int HRes.out.symm, hbl⟩
        · rcases h3 : within m.version 1 1000000 with _ | _
          · have HRes : Hid (res = 3) := (HK.out (by rw [HD.out]; simp [h1, h2, h3])).trans (by rw [HD.out]; simp [h1, h2, h3])
            go_wp2_with (first | (go_at_call 17; refine (isLabel_any _ _ hsk).mono ?_; rintro e w' ⟨rfl, rfl⟩; rw [h1]) | (go_at_call 57; refine (isAddress_any _ _).mono ?_; rintro e w' ⟨rfl, rfl⟩; rw [h2]) | (go_at_call 58; refine (between_any _ _ _ _).mono ?_; rintro e w' ⟨rfl, rfl⟩; rw [h3]))
            go_ret
            exact ⟨ret_int HRes.out.symm, hbl⟩
          · have HM0 : Hid (me = 0) := (show me = 0 by rw [HD.out]; simp [h1, h2, h3])
            go_wp2_with (first | (go_at_call 17; refine (isLabel_any _ _ hsk).mono ?_; rintro e w' ⟨rfl, rfl⟩; rw [h1]) | (go_at_call 57; refine (isAddress_any _ _).mono ?_; rintro e w' ⟨rfl, rfl⟩; rw [h2]) | (go_at_call 58; refine (between_any _ _ _ _).mono ?_; rintro e w' ⟨rfl, rfl⟩; rw [h3]))
            go_roundw
            case rel => exact ⟨k + 1, by omega, by go_num, hbl, HZ.out HM0.out⟩
            case measure => simp [intOf]; omega
    · have hall : Hid (∀ j, j < n → (ms.getD j dm).e = 0) := fun j hj => hz.out j (by omega)
      clear hz
      go_wp2_with fail
      go_loopw [4] (fun i w' => ∃ k : Nat, (k + 1 ≤ n ∨ k = 0) ∧ i = .int .i64 (k + 1) ∧ Below w.heap.size w w' ∧ Hid (∀ j, j < k → less (ms.getD j dm).centre (ms.getD (j + 1) dm).centre = true)) (fun i _ => n - (intOf i).toNat)
      case atStart => exact ⟨0, .inr rfl, rfl, hbl, fun j h => absurd h (Nat.not_lt_zero _)⟩
      case round =>
        clear hbc hbf hsz hbl
        obtain ⟨q, hq, rfl, hbl, hz⟩ := hrel
        obtain ⟨hbc, hbf⟩ := bcell hbl
        have hsz := hbl.size
        by_cases hlt : q + 1 < n
        · obtain ⟨c0, _, _⟩ := HR.out q (by rw [HN.out]; omega)
          obtain ⟨d0, _, _⟩ := HR.out (q + 1) (by rw [HN.out]; exact hlt)
          have HK : Hid (less (ms.getD q dm).centre (ms.getD (q + 1) dm).centre = false → res = 4) := fun h => H4.out hall.out q hlt h
          have HZ : Hid (less (ms.getD q dm).centre (ms.getD (q + 1) dm).centre = true → ∀ j, j < q + 1 → less (ms.getD j dm).centre (ms.getD (j + 1) dm).centre = true) := fun h j hj => by
            rcases Nat.lt_succ_iff_lt_or_eq.1 hj with h2 | rfl
            · exact hz.out j h2
            · exact h
          generalize ms.getD q dm = m1 at *
          generalize ms.getD (q + 1) dm = m2 at *
          rcases hl : Op.bytesLess m1.centre.toList m2.centre.toList with _ | _
          · have h4 : Hid (res = 4) := HK.out hl
            have hl2 := bl_total m1.centre.toList m2.centre.toList
            rw [hl] at hl2
            have hl3 := hl2.symm
            clear hl2 hl
            go_wp2_with fail
            go_quiet (fail)
            go_wp2_with fail
            go_ret
            exact ⟨ret_int h4.out.symm, below_drewN hbl _⟩
          · have hl2 := bl_total m1.centre.toList m2.centre.toList
            rw [hl] at hl2
            have hl3 := hl2.symm
            clear hl2
            have HL : Hid (Op.bytesLess m1.centre.toList m2.centre.toList = true) := hl
            clear hl
            go_wp2_with fail
            go_quiet (fail)
            go_wp2_with fail
            go_roundw
            case rel => exact ⟨q + 1, .inl (by omega), by go_num, below_drewN hbl _, HZ.out HL.out⟩
            case measure => simp [intOf]; omega
        · have h0 : Hid (res = 0) := H0.out hall.out fun j hj => hz.out j (by omega)
          go_wp2_with fail
          go_ret
          exact ⟨ret_int h0.out.symm, hbl⟩

set_option maxHeartbeats 400000 in
theorem refCheck_many (a : Option Addr) (n cap : Nat) (w : World) (hn : 6 < n) :
    Calls Tryz.prog 20 #[.slice a n cap] w fun e w' => e = .returned (.int .i64 2) ∧ w' = w := by
  go_enter Tryz.func20, Tryz.ntmps20
  go_wp2_with fail
  go_ret
  exact ⟨rfl, rfl⟩
set_option maxHeartbeats 400000 in
theorem refCheck_none (a : Option Addr) (cap : Nat) (w : World) :
    Calls Tryz.prog 20 #[.slice a 0 cap] w fun e w' => e = .returned (.int .i64 0) ∧ w' = w := by
  go_enter Tryz.func20, Tryz.ntmps20
  go_wp2_with fail
  go_loop [3] (fun i => i = .int .i64 0) (fun _ => 0)
  case atStart => rfl
  case round =>
    subst hrel
    go_wp2_with fail
    go_loop [4] (fun i => i = .int .i64 1) (fun _ => 0)
    case atStart => rfl
    case round =>
      subst hrel
      go_wp2_with fail
      go_ret
      exact ⟨rfl, rfl⟩

theorem refCheck_any (ms : List Gwy) (v : Value) (w : World) (h : Sl w v ms) :
    Calls Tryz.prog 20 #[v] w fun e w' => e = .returned (.int .i64 (chk ms)) ∧ Below w.heap.size w w' := by
  obtain ⟨a, cap, rfl, hs, h⟩ := h
  by_cases hn : 6 < ms.length
  · refine (refCheck_many a ms.length cap w hn).mono ?_
    rintro e w' ⟨rfl, rfl⟩
    exact ⟨ret_int (by rw [chk, if_pos hn]), Below.refl _ _⟩
  · rcases h with rfl | ⟨b, off, rfl, hb, hr⟩
    · refine (refCheck_none a cap w).mono ?_
      rintro e w' ⟨rfl, rfl⟩
      exact ⟨rfl, Below.refl _ _⟩
    · exact refCheck_row ms b off cap w hr hb (by omega) hs

/-- The place of a centre; -1: there is none. -/
def AtI (ms : List Gwy) (t : ByteArray) (r : Int) : Prop :=
  (∃ k : Nat, k < ms.length ∧ r = k ∧ (ms.getD k dm).centre = t) ∨ (r = -1 ∧ ∀ j, j < ms.length → (ms.getD j dm).centre ≠ t)

theorem atI_at {ms : List Gwy} {t : Gwy} {r : Int} {p : Nat} {f : Bool} (hi : AtI ms t.centre r) (ha : At ms t p f) (hr : Rise ms) : (f = true → r = p) ∧ (f = false → r = -1) := by
  rcases hi with ⟨k, hk, rfl, hn⟩ | ⟨rfl, hn⟩
  · obtain ⟨rfl, rfl⟩ := at_uniq ha (RL.at_of ord dm keyed hr hk ((cmpI_eq _ _).2 hn))
    exact ⟨fun _ => rfl, fun h => by cases h⟩
  · refine ⟨fun h => ?_, fun _ => rfl⟩
    have := ha.is.1 h
    exact absurd ((cmpI_eq _ _).1 this.2) (hn p this.1)

end Gw
end Go.Proofs.YtdfkpehggecbaaaGreatDoor

