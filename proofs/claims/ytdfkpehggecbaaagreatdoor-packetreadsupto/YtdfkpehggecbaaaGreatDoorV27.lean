/- GK5, GK6 -/
import Derived.Test.YtdfkpehggecbaaaGreatDoorV25
import Derived.Test.YtdfkpehggecbaaaGreatDoorV21
/- Two lists of gateways, joined. -/
namespace Go.Proofs.YtdfkpehggecbaaaGreatDoor
namespace Gw
open Go.RowKit

theorem stg_len {a b : List Gwy} (hla : a.length ≤ 6) (hlb : b.length ≤ 6) (k : Nat) : (stg a b k).length ≤ 12 := by
  unfold stg
  split
  · simp
  · split
    · omega
    · have := joinL_len b a; omega

/-- Of the k-th list: where it lies, and what is known behind it. -/
structure Kth (w : World) (pb : Nat) (a b : List Gwy) (k : Nat) (l : List Gwy) (pk : Option Addr) (ck : Nat) : Prop where
  cell : w.cell? ⟨pb, k, none⟩ = some (.slice pk l.length ck)
  row : l = [] ∨ ∃ b off, pk = some ⟨b, off, none⟩ ∧ b < w.heap.size ∧ Row w b off l
  oks : ∀ m ∈ l, (m).ok
  len : l.length ≤ 6
  len0 : (stg a b k).length ≤ 6
  rise0 : Rise (stg a b k)
  oks0 : ∀ m ∈ stg a b k, (m).ok
  step : stg a b (k + 1) = joinL (stg a b k) l

theorem kth_of {a b : List Gwy} {va vb : Value} {pb : Nat} {w : World} (ha : Sl w va a) (hb : Sl w vb b) (hc0 : w.cell? ⟨pb, 0, none⟩ = some va) (hc1 : w.cell? ⟨pb, 1, none⟩ = some vb) (hla : a.length ≤ 6) (hlb : b.length ≤ 6) (ra : Rise a) (k : Nat) (hk : k < 2) :
    ∃ l pk ck, Kth w pb a b k l pk ck := by
  obtain ⟨pa, ca, rfl, nsa, ha⟩ := ha
  obtain ⟨pv, cb, rfl, nsb, hb⟩ := hb
  have hcases : k = 0 ∨ k = 1 := by omega
  rcases hcases with rfl | rfl
  · exact ⟨a, pa, ca, hc0, ha, ns_mem nsa, hla, by simp [stg], by simp [stg], by simp [stg], (joinL_nil a ra).symm⟩
  · exact ⟨b, pv, cb, hc1, hb, ns_mem nsb, hlb, hla, ra, ns_mem nsa, rfl⟩

end Gw
end Go.Proofs.YtdfkpehggecbaaaGreatDoor

/- gateways: Check, one list and two; join. -/
namespace Go.Proofs.YtdfkpehggecbaaaGreatDoor
namespace Gw
open Go.RowKit


set_option maxHeartbeats 800000 in
theorem checkOneE_any (m : Gwy) (w : World) (hm : m.ok) :
    Calls Tryz.prog 68 #[.agg #[.string m.centre, .int .i64 m.addr, .int .i64 m.version]] w fun e w' => e = .returned (.int .i64 m.e) ∧ Below w.heap.size w w' := by
  have hs : m.centre.size ≤ maxLen := hm
  have hB : Hid (Below w.heap.size w (w.alloc (.cells #[.string m.centre, .int .i64 m.addr, .int .i64 m.version] 62))) := (Below.refl _ _).alloc (Nat.le_refl _) _
  clear hm
  rcases h1 : labB m.centre with _ | _
  · go_enter Tryz.func68, Tryz.ntmps68
    go_wp2_with (go_at_call 26; refine (label_any _ _ hs).mono ?_; rintro e w' ⟨rfl, rfl⟩; rw [h1])
    go_ret
    exact ⟨ret_int (by simp [Gwy.e, h1]), hB.out⟩
  · rcases h2 : within m.addr 0 4294967295 with _ | _
    · go_enter Tryz.func68, Tryz.ntmps68
      go_wp2_with (first | (go_at_call 26; refine (label_any _ _ hs).mono ?_; rintro e w' ⟨rfl, rfl⟩; rw [h1]) | (go_at_call 91; refine (address_any _ _).mono ?_; rintro e w' ⟨rfl, rfl⟩; rw [h2]))
      go_ret
      exact ⟨ret_int (by simp [Gwy.e, h1, h2]), hB.out⟩
    · rcases h3 : within m.version 1 1000000 with _ | _
      all_goals
        go_enter Tryz.func68, Tryz.ntmps68
        go_wp2_with (first | (go_at_call 26; refine (label_any _ _ hs).mono ?_; rintro e w' ⟨rfl, rfl⟩; rw [h1]) | (go_at_call 91; refine (address_any _ _).mono ?_; rintro e w' ⟨rfl, rfl⟩; rw [h2]) | (go_at_call 60; refine (within_any _ _ _ _).mono ?_; rintro e w' ⟨rfl, rfl⟩; rw [h3]))
        go_ret
        exact ⟨ret_int (by simp [Gwy.e, h1, h2, h3]), hB.out⟩





set_option maxHeartbeats 800000 in
theorem check_row (ms : List Gwy) (b off cap : Nat) (w : World) (hr : Row w b off ms) (hb : b < w.heap.size) (hn : ms.length ≤ 6) (hs : ∀ j, (ms.getD j dm).ok) :
    Calls Tryz.prog 30 #[.slice (some ⟨b, off, none⟩) ms.length cap] w fun e w' => e = .returned (.int .i64 (chk ms)) ∧ Below w.heap.size w w' := by
  have HR : Hid (Row w b off ms) := hr
  have HE : Hid (∀ k, k < ms.length → (∀ j, j < k → (ms.getD j dm).e = 0) → (ms.getD k dm).e ≠ 0 → chk ms = (ms.getD k dm).e) := fun k h1 h2 h3 => chk_e ms k hn h1 h2 h3
  have H4 : Hid ((∀ j, j < ms.length → (ms.getD j dm).e = 0) → chk ms = if risesB ms = true then 0 else 4) := fun h1 => chk_r ms hn h1
  have HSl : Hid (∀ w', Below w.heap.size w w' → Calls Tryz.prog 69 #[.slice (some ⟨b, off, none⟩) ms.length cap, .func (.func 70) #[] #[]] w' fun e w'' => e = .returned (.bool (risesB ms)) ∧ Below w'.heap.size w' w'') := fun w' hbw => rises_row ms b off cap w' (hr.later hbw hb) (Nat.lt_of_lt_of_le hb hbw.size) hn
  clear hr
  generalize hN : ms.length = n at *
  have HN : Hid (ms.length = n) := hN
  clear hN
  have HS : Hid (∀ j, (ms.getD j dm).ok) := hs
  clear hs
  generalize hC : chk ms = res at *
  have HC : Hid (chk ms = res) := hC
  clear hC
  generalize hRB : risesB ms = rb at *
  have HRB : Hid (risesB ms = rb) := hRB
  clear hRB
  go_enter Tryz.func30, Tryz.ntmps30
  go_wp2_with fail
  go_loopw [11] (fun i w' => ∃ k : Nat, k ≤ n ∧ i = .int .i64 k ∧ Below w.heap.size w w' ∧ Hid (∀ j, j < k → (ms.getD j dm).e = 0)) (fun i _ => n - (intOf i).toNat)
  case atStart => exact ⟨0, Nat.zero_le _, rfl, Below.refl _ _, fun j h => absurd h (Nat.not_lt_zero _)⟩
  case round =>
    obtain ⟨k, hk, rfl, hbl, hz⟩ := hrel
    obtain ⟨hbc, hbf⟩ := bcell hbl
    have hsz := hbl.size
    by_cases hlt : k < n
    · obtain ⟨c0, c1, c2⟩ := HR.out k (by rw [HN.out]; exact hlt)
      have HSK : Hid ((ms.getD k dm).ok) := HS.out k
      have HK : Hid ((ms.getD k dm).e ≠ 0 → res = (ms.getD k dm).e) := fun h => HE.out k hlt hz.out h
      have HZ : Hid ((ms.getD k dm).e = 0 → ∀ j, j < k + 1 → (ms.getD j dm).e = 0) := fun h j hj => by
        rcases Nat.lt_succ_iff_lt_or_eq.1 hj with h2 | rfl
        · exact hz.out j h2
        · exact h
      generalize ms.getD k dm = m at *
      have HO : Hid (∀ w, Calls Tryz.prog 68 #[.agg #[.string m.centre, .int .i64 m.addr, .int .i64 m.version]] w fun e w' => e = .returned (.int .i64 m.e) ∧ Below w.heap.size w w') := fun w => checkOneE_any m w HSK.out
      generalize m.e = me at *
      rcases he : decide (me = 0) with _ | _
      · have he' : (me != 0) = true := by simpa using he
        clear he
        go_wp2_with (go_at_call 68; refine (HO.out _).mono ?_; rintro e w' ⟨rfl, hb2⟩)
        go_ret
        have hne : me ≠ 0 := by simpa using he'
        have hres : res = me := HK.out hne
        exact ⟨ret_int hres.symm, (hbl.alloc hsz _).trans (hb2.mono (by simp; omega))⟩
      · have he' : (me != 0) = false := by simpa using he
        clear he
        go_wp2_with (go_at_call 68; refine (HO.out _).mono ?_; rintro e w' ⟨rfl, hb2⟩)
        go_roundw
        case rel =>
          have he0 : me = 0 := by simpa using he'
          exact ⟨k + 1, by omega, by go_num, (hbl.alloc hsz _).trans (hb2.mono (by simp; omega)), HZ.out he0⟩
        case measure => simp [intOf]; omega
    · have hall : Hid (∀ j, j < n → (ms.getD j dm).e = 0) := fun j hj => hz.out j (by omega)
      have HRes : Hid (res = if rb = true then 0 else 4) := H4.out hall.out
      clear hz hall H4 HE HC HRB
      cases rb
      · go_wp2_with (go_at_call 69; refine (HSl.out _ hbl).mono ?_; rintro e w' ⟨rfl, hb2⟩)
        go_ret
        exact ⟨ret_int (by rw [HRes.out]; rfl), hbl.trans (hb2.mono hsz)⟩
      · go_wp2_with (go_at_call 69; refine (HSl.out _ hbl).mono ?_; rintro e w' ⟨rfl, hb2⟩)
        go_ret
        exact ⟨ret_int (by rw [HRes.out]; rfl), hbl.trans (hb2.mono hsz)⟩

set_option maxHeartbeats 400000 in
theorem check_many (a : Option Addr) (n cap : Nat) (w : World) (hn : 6 < n) :
    Calls Tryz.prog 30 #[.slice a n cap] w fun e w' => e = .returned (.int .i64 2) ∧ w' = w := by
  go_enter Tryz.func30, Tryz.ntmps30
  go_wp2_with fail
  go_ret
  exact ⟨rfl, rfl⟩
set_option maxHeartbeats 400000 in
theorem check_none (a : Option Addr) (cap : Nat) (w : World) :
    Calls Tryz.prog 30 #[.slice a 0 cap] w fun e w' => e = .returned (.int .i64 0) ∧ w' = w := by
  go_enter Tryz.func30, Tryz.ntmps30
  go_wp2_with fail
  go_loop [11] (fun i => i = .int .i64 0) (fun _ => 0)
  case atStart => rfl
  case round =>
    subst hrel
    go_wp2_with (go_at_call 69; refine (rises_none _ _ _ _).mono ?_; rintro e w' ⟨rfl, rfl⟩)
    go_ret
    exact ⟨rfl, rfl⟩

theorem check_any (ms : List Gwy) (v : Value) (w : World) (h : Sl w v ms) :
    Calls Tryz.prog 30 #[v] w fun e w' => e = .returned (.int .i64 (chk ms)) ∧ Below w.heap.size w w' := by
  obtain ⟨a, cap, rfl, hs, h⟩ := h
  by_cases hn : 6 < ms.length
  · refine (check_many a ms.length cap w hn).mono ?_
    rintro e w' ⟨rfl, rfl⟩
    exact ⟨ret_int (by rw [chk, if_pos hn]), Below.refl _ _⟩
  · rcases h with rfl | ⟨b, off, rfl, hb, hr⟩
    · refine (check_none a cap w).mono ?_
      rintro e w' ⟨rfl, rfl⟩
      exact ⟨rfl, Below.refl _ _⟩
    · exact check_row ms b off cap w hr hb (by omega) hs

end Gw
end Go.Proofs.YtdfkpehggecbaaaGreatDoor

