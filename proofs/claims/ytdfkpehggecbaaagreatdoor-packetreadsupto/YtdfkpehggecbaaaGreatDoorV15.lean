/- MC2 -/
import Derived.Test.YtdfkpehggecbaaaGreatDoorV14
/- The document's own Check of members; a list of one. -/
namespace Go.Proofs.YtdfkpehggecbaaaGreatDoor
open Go.RowKit

set_option maxHeartbeats 800000 in
theorem checkMembers_row (ms : List Mem) (b off cap : Nat) (w : World) (hr : Row w b off ms) (hb : b < w.heap.size) (hn : ms.length ≤ 20) (hs : ∀ j, (ms.getD j dm).name.size ≤ maxLen) :
    Calls Tryz.prog 18 #[.slice (some ⟨b, off, none⟩) ms.length cap] w fun e w' => e = .returned (.int .i64 (chk ms)) ∧ Below w.heap.size w w' := by
  have HR : Hid (Row w b off ms) := hr
  clear hr
  have HE : Hid (∀ k, k < ms.length → (∀ j, j < k → (ms.getD j dm).e = 0) → (ms.getD k dm).e ≠ 0 → chk ms = (ms.getD k dm).e) := fun k h1 h2 h3 => chk_e ms k hn h1 h2 h3
  have H4 : Hid ((∀ j, j < ms.length → (ms.getD j dm).e = 0) → ∀ k, k + 1 < ms.length → less (ms.getD k dm).name (ms.getD (k + 1) dm).name = false → chk ms = 4) := fun h1 k h2 h3 => chk_4 ms k hn h1 h2 h3
  have H0 : Hid ((∀ j, j < ms.length → (ms.getD j dm).e = 0) → (∀ j, j + 1 < ms.length → less (ms.getD j dm).name (ms.getD (j + 1) dm).name = true) → chk ms = 0) := fun h1 h2 => chk_0 ms hn h1 h2
  generalize hN : ms.length = n at *
  have HN : Hid (ms.length = n) := hN
  clear hN
  have HS : Hid (∀ j, (ms.getD j dm).name.size ≤ maxLen) := hs
  clear hs
  generalize hC : chk ms = res at *
  go_enter Tryz.func18, Tryz.ntmps18
  go_wp2_with fail
  go_loopw [3] (fun i w' => ∃ k : Nat, k ≤ n ∧ i = .int .i64 k ∧ Below w.heap.size w w' ∧ Hid (∀ j, j < k → (ms.getD j dm).e = 0)) (fun i _ => n - (intOf i).toNat)
  case atStart => exact ⟨0, Nat.zero_le _, rfl, Below.refl _ _, fun j h => absurd h (Nat.not_lt_zero _)⟩
  case round =>
    obtain ⟨k, hk, rfl, hbl, hz⟩ := hrel
    obtain ⟨hbc, hbf⟩ := bcell hbl
    have hsz := hbl.size
    by_cases hlt : k < n
    · obtain ⟨c0, c1, c2, c3, c4⟩ := HR.out k (by rw [HN.out]; exact hlt)
      have hsk := HS.out k
      have HK : Hid ((ms.getD k dm).e ≠ 0 → res = (ms.getD k dm).e) := fun h => HE.out k hlt hz.out h
      have HZ : Hid ((ms.getD k dm).e = 0 → ∀ j, j < k + 1 → (ms.getD j dm).e = 0) := fun h j hj => by
        rcases Nat.lt_succ_iff_lt_or_eq.1 hj with h2 | rfl
        · exact hz.out j h2
        · exact h
      generalize ms.getD k dm = m at *
      obtain ⟨nm, st, lf, ad, sv⟩ := m
      simp only at c0 c1 c2 c3 c4 hsk
      rcases he : decide (oneE nm st lf ad = 0) with _ | _
      · have he' : (oneE nm st lf ad != 0) = true := by simpa using he
        clear he
        go_wp2_with (go_at_call 22; refine (oneMember_any _ _ _ _ _ _ hsk).mono ?_; rintro e w' ⟨rfl, rfl⟩)
        go_ret
        have hne : oneE nm st lf ad ≠ 0 := by simpa using he'
        have hres : res = oneE nm st lf ad := HK.out hne
        exact ⟨ret_int hres.symm, hbl.alloc hsz _⟩
      · have he' : (oneE nm st lf ad != 0) = false := by simpa using he
        clear he
        go_wp2_with (go_at_call 22; refine (oneMember_any _ _ _ _ _ _ hsk).mono ?_; rintro e w' ⟨rfl, rfl⟩)
        go_roundw
        case rel =>
          have he0 : oneE nm st lf ad = 0 := by simpa using he'
          exact ⟨k + 1, by omega, by go_num, hbl.alloc hsz _, HZ.out he0⟩
        case measure => simp [intOf]; omega
    · have hall : Hid (∀ j, j < n → (ms.getD j dm).e = 0) := fun j hj => hz.out j (by omega)
      clear hz
      go_wp2_with fail
      go_loopw [5] (fun i w' => ∃ k : Nat, (k + 1 ≤ n ∨ k = 0) ∧ i = .int .i64 (k + 1) ∧ Below w.heap.size w w' ∧ Hid (∀ j, j < k → less (ms.getD j dm).name (ms.getD (j + 1) dm).name = true)) (fun i _ => n - (intOf i).toNat)
      case atStart => exact ⟨0, .inr rfl, rfl, hbl, fun j h => absurd h (Nat.not_lt_zero _)⟩
      case round =>
        clear hbc hbf hsz hbl
        obtain ⟨q, hq, rfl, hbl, hz⟩ := hrel
        obtain ⟨hbc, hbf⟩ := bcell hbl
        have hsz := hbl.size
        by_cases hlt : q + 1 < n
        · obtain ⟨c0, _, _, _, _⟩ := HR.out q (by rw [HN.out]; omega)
          obtain ⟨d0, _, _, _, _⟩ := HR.out (q + 1) (by rw [HN.out]; exact hlt)
          have HK : Hid (less (ms.getD q dm).name (ms.getD (q + 1) dm).name = false → res = 4) := fun h => H4.out hall.out q hlt h
          have HZ : Hid (less (ms.getD q dm).name (ms.getD (q + 1) dm).name = true → ∀ j, j < q + 1 → less (ms.getD j dm).name (ms.getD (j + 1) dm).name = true) := fun h j hj => by
            rcases Nat.lt_succ_iff_lt_or_eq.1 hj with h2 | rfl
            · exact hz.out j h2
            · exact h
          generalize ms.getD q dm = m1 at *
          generalize ms.getD (q + 1) dm = m2 at *
          rcases hl : Op.bytesLess m1.name.toList m2.name.toList with _ | _
          · have h4 : res = 4 := HK.out hl
            clear hC
            have hl2 := bl_total m1.name.toList m2.name.toList
            rw [hl] at hl2
            have hl3 := hl2.symm
            clear hl2 hl
            go_wp2_with fail
            go_quiet (fail)
            go_wp2_with fail
            go_ret
            exact ⟨ret_int h4.symm, below_drewN hbl _⟩
          · have hl2 := bl_total m1.name.toList m2.name.toList
            rw [hl] at hl2
            have hl3 := hl2.symm
            clear hl2
            have HL : Hid (Op.bytesLess m1.name.toList m2.name.toList = true) := hl
            clear hl
            go_wp2_with fail
            go_quiet (fail)
            go_wp2_with fail
            go_roundw
            case rel => exact ⟨q + 1, .inl (by omega), by go_num, below_drewN hbl _, HZ.out HL.out⟩
            case measure => simp [intOf]; omega
        · have h0 : res = 0 := H0.out hall.out fun j hj => hz.out j (by omega)
          clear hC
          go_wp2_with fail
          go_ret
          exact ⟨ret_int h0.symm, hbl⟩


set_option maxHeartbeats 400000 in
theorem checkMembers_many (a : Option Addr) (n cap : Nat) (w : World) (hn : 20 < n) :
    Calls Tryz.prog 18 #[.slice a n cap] w fun e w' => e = .returned (.int .i64 2) ∧ w' = w := by
  go_enter Tryz.func18, Tryz.ntmps18
  go_wp2_with fail
  go_ret
  exact ⟨rfl, rfl⟩
set_option maxHeartbeats 400000 in
theorem checkMembers_none (a : Option Addr) (cap : Nat) (w : World) :
    Calls Tryz.prog 18 #[.slice a 0 cap] w fun e w' => e = .returned (.int .i64 0) ∧ w' = w := by
  go_enter Tryz.func18, Tryz.ntmps18
  go_wp2_with fail
  go_loop [3] (fun i => i = .int .i64 0) (fun _ => 0)
  case atStart => rfl
  case round =>
    subst hrel
    go_wp2_with fail
    go_loop [5] (fun i => i = .int .i64 1) (fun _ => 0)
    case atStart => rfl
    case round =>
      subst hrel
      go_wp2_with fail
      go_ret
      exact ⟨rfl, rfl⟩

theorem checkMembers_any (ms : List Mem) (v : Value) (w : World) (h : Sl w v ms) :
    Calls Tryz.prog 18 #[v] w fun e w' => e = .returned (.int .i64 (chk ms)) ∧ Below w.heap.size w w' := by
  obtain ⟨a, cap, rfl, hs, h⟩ := h
  by_cases hn : 20 < ms.length
  · refine (checkMembers_many a ms.length cap w hn).mono ?_
    rintro e w' ⟨rfl, rfl⟩
    exact ⟨ret_int (by rw [chk, if_pos hn]), Below.refl _ _⟩
  · rcases h with rfl | ⟨b, off, rfl, hb, hr⟩
    · refine (checkMembers_none a cap w).mono ?_
      rintro e w' ⟨rfl, rfl⟩
      exact ⟨rfl, Below.refl _ _⟩
    · exact checkMembers_row ms b off cap w hr hb (by omega) hs

end Go.Proofs.YtdfkpehggecbaaaGreatDoor

