
/- gateways: Check, one list and two; join. -/
import Derived.Test.YtjpcngkddejdjafGK5
import Derived.Test.YtjpcngkddejdjafLB
namespace Go.Proofs.Ytjpcngkddejdjaf
namespace Gw
open Go.RowKit


set_option maxHeartbeats 800000 in
theorem checkOneE_any (m : Gwy) (w : World) (hm : m.ok) :
    Calls Try.prog 43 #[.agg #[.string m.centre, .int .i64 m.addr, .int .i64 m.version]] w fun e w' => e = .returned (.int .i64 m.e) ∧ Below w.heap.size w w' := by
  have hs : m.centre.size ≤ maxLen := hm
  have hB : Hid (Below w.heap.size w (w.alloc (.cells #[.string m.centre, .int .i64 m.addr, .int .i64 m.version] 51))) := (Below.refl _ _).alloc (Nat.le_refl _) _
  clear hm
  rcases h1 : labB m.centre with _ | _
  · go_enter Try.func43, Try.ntmps43
    go_wp2_with (go_at_call 31; refine (label_any _ _ hs).mono ?_; rintro e w' ⟨rfl, rfl⟩; rw [h1])
    go_ret
    exact ⟨ret_int (by simp [Gwy.e, h1]), hB.out⟩
  · rcases h2 : within m.addr 0 4294967295 with _ | _
    · go_enter Try.func43, Try.ntmps43
      go_wp2_with (first | (go_at_call 31; refine (label_any _ _ hs).mono ?_; rintro e w' ⟨rfl, rfl⟩; rw [h1]) | (go_at_call 50; refine (address_any _ _).mono ?_; rintro e w' ⟨rfl, rfl⟩; rw [h2]))
      go_ret
      exact ⟨ret_int (by simp [Gwy.e, h1, h2]), hB.out⟩
    · rcases h3 : within m.version 1 1000000 with _ | _
      all_goals
        go_enter Try.func43, Try.ntmps43
        go_wp2_with (first | (go_at_call 31; refine (label_any _ _ hs).mono ?_; rintro e w' ⟨rfl, rfl⟩; rw [h1]) | (go_at_call 50; refine (address_any _ _).mono ?_; rintro e w' ⟨rfl, rfl⟩; rw [h2]) | (go_at_call 48; refine (within_any _ _ _ _).mono ?_; rintro e w' ⟨rfl, rfl⟩; rw [h3]))
        go_ret
        exact ⟨ret_int (by simp [Gwy.e, h1, h2, h3]), hB.out⟩





set_option maxHeartbeats 800000 in
theorem check_row (ms : List Gwy) (b off cap : Nat) (w : World) (hr : Row w b off ms) (hb : b < w.heap.size) (hn : ms.length ≤ 6) (hs : ∀ j, (ms.getD j dm).ok) :
    Calls Try.prog 20 #[.slice (some ⟨b, off, none⟩) ms.length cap] w fun e w' => e = .returned (.int .i64 (chk ms)) ∧ Below w.heap.size w w' := by
  have HR : Hid (Row w b off ms) := hr
  have HE : Hid (∀ k, k < ms.length → (∀ j, j < k → (ms.getD j dm).e = 0) → (ms.getD k dm).e ≠ 0 → chk ms = (ms.getD k dm).e) := fun k h1 h2 h3 => chk_e ms k hn h1 h2 h3
  have H4 : Hid ((∀ j, j < ms.length → (ms.getD j dm).e = 0) → chk ms = if risesB ms = true then 0 else 4) := fun h1 => chk_r ms hn h1
  have HSl : Hid (∀ w', Below w.heap.size w w' → Calls Try.prog 44 #[.slice (some ⟨b, off, none⟩) ms.length cap, .func (.func 45) #[] #[]] w' fun e w'' => e = .returned (.bool (risesB ms)) ∧ Below w'.heap.size w' w'') := fun w' hbw => rises_row ms b off cap w' (hr.later hbw hb) (Nat.lt_of_lt_of_le hb hbw.size) hn
  clear hr
  generalize hN : ms.length = n at *
  have HN : Hid (ms.length = n) := hN
  clear hN
  have HS : Hid (∀ j, (ms.getD j dm).ok) := hs
  clear hs
  generalize hC : chk ms = res at *
  have HC : Hid (chk ms = res) := hC
  clear hC
  generalize hRB : risesB ms = rb at *
  have HRB : Hid (risesB ms = rb) := hRB
  clear hRB
  go_enter Try.func20, Try.ntmps20
  go_wp2_with fail
  go_loopw [11] (fun i w' => ∃ k : Nat, k ≤ n ∧ i = .int .i64 k ∧ Below w.heap.size w w' ∧ Hid (∀ j, j < k → (ms.getD j dm).e = 0)) (fun i _ => n - (intOf i).toNat)
  case atStart => exact ⟨0, Nat.zero_le _, rfl, Below.refl _ _, fun j h => absurd h (Nat.not_lt_zero _)⟩
  case round =>
    obtain ⟨k, hk, rfl, hbl, hz⟩ := hrel
    obtain ⟨hbc, hbf⟩ := bcell hbl
    have hsz := hbl.size
    by_cases hlt : k < n
    · obtain ⟨c0, c1, c2⟩ := HR.out k (by rw [HN.out]; exact hlt)
      have HSK : Hid ((ms.getD k dm).ok) := HS.out k
      have HK : Hid ((ms.getD k dm).e ≠ 0 → res = (ms.getD k dm).e) := fun h => HE.out k hlt hz.out h
      have HZ : Hid ((ms.getD k dm).e = 0 → ∀ j, j < k + 1 → (ms.getD j dm).e = 0) := fun h j hj => by
        rcases Nat.lt_succ_iff_lt_or_eq.1 hj with h2 | rfl
        · exact hz.out j h2
        · exact h
      generalize ms.getD k dm = m at *
      have HO : Hid (∀ w, Calls Try.prog 43 #[.agg #[.string m.centre, .int .i64 m.addr, .int .i64 m.version]] w fun e w' => e = .returned (.int .i64 m.e) ∧ Below w.heap.size w w') := fun w => checkOneE_any m w HSK.out
      generalize m.e = me at *
      rcases he : decide (me = 0) with _ | _
      · have he' : (me != 0) = true := by simpa using he
        clear he
        go_wp2_with (go_at_call 43; refine (HO.out _).mono ?_; rintro e w' ⟨rfl, hb2⟩)
        go_ret
        have hne : me ≠ 0 := by simpa using he'
        have hres : res = me := HK.out hne
        exact ⟨ret_int hres.symm, (hbl.alloc hsz _).trans (hb2.mono (by simp; omega))⟩
      · have he' : (me != 0) = false := by simpa using he
        clear he
        go_wp2_with (go_at_call 43; refine (HO.out _).mono ?_; rintro e w' ⟨rfl, hb2⟩)
        go_roundw
        case rel =>
          have he0 : me = 0 := by simpa using he'
          exact ⟨k + 1, by omega, by go_num, (hbl.alloc hsz _).trans (hb2.mono (by simp; omega)), HZ.out he0⟩
        case measure => simp [intOf]; omega
    · have hall : Hid (∀ j, j < n → (ms.getD j dm).e = 0) := fun j hj => hz.out j (by omega)
      have HRes : Hid (res = if rb = true then 0 else 4) := H4.out hall.out
      clear hz hall H4 HE HC HRB
      cases rb
      · go_wp2_with (go_at_call 44; refine (HSl.out _ hbl).mono ?_; rintro e w' ⟨rfl, hb2⟩)
        go_ret
        exact ⟨ret_int (by rw [HRes.out]; rfl), hbl.trans (hb2.mono hsz)⟩
      · go_wp2_with (go_at_call 44; refine (HSl.out _ hbl).mono ?_; rintro e w' ⟨rfl, hb2⟩)
        go_ret
        exact ⟨ret_int (by rw [HRes.out]; rfl), hbl.trans (hb2.mono hsz)⟩

set_option maxHeartbeats 400000 in
theorem check_many (a : Option Addr) (n cap : Nat) (w : World) (hn : 6 < n) :
    Calls Try.prog 20 #[.slice a n cap] w fun e w' => e = .returned (.int .i64 2) ∧ w' = w := by
  go_enter Try.func20, Try.ntmps20
  go_wp2_with fail
  go_ret
  exact ⟨rfl, rfl⟩
set_option maxHeartbeats 400000 in
theorem check_none (a : Option Addr) (cap : Nat) (w : World) :
    Calls Try.prog 20 #[.slice a 0 cap] w fun e w' => e = .returned (.int .i64 0) ∧ w' = w := by
  go_enter Try.func20, Try.ntmps20
  go_wp2_with fail
  go_loop [11] (fun i => i = .int .i64 0) (fun _ => 0)
  case atStart => rfl
  case round =>
    subst hrel
    go_wp2_with (go_at_call 44; refine (rises_none _ _ _ _).mono ?_; rintro e w' ⟨rfl, rfl⟩)
    go_ret
    exact ⟨rfl, rfl⟩

theorem check_any (ms : List Gwy) (v : Value) (w : World) (h : Sl w v ms) :
    Calls Try.prog 20 #[v] w fun e w' => e = .returned (.int .i64 (chk ms)) ∧ Below w.heap.size w w' := by
  obtain ⟨a, cap, rfl, hs, h⟩ := h
  by_cases hn : 6 < ms.length
  · refine (check_many a ms.length cap w hn).mono ?_
    rintro e w' ⟨rfl, rfl⟩
    exact ⟨ret_int (by rw [chk, if_pos hn]), Below.refl _ _⟩
  · rcases h with rfl | ⟨b, off, rfl, hb, hr⟩
    · refine (check_none a cap w).mono ?_
      rintro e w' ⟨rfl, rfl⟩
      exact ⟨rfl, Below.refl _ _⟩
    · exact check_row ms b off cap w hr hb (by omega) hs

set_option maxHeartbeats 800000 in
theorem checkAll_two (a b : List Gwy) (va vb : Value) (pb cap : Nat) (w : World) (ha : Sl w va a) (hb : Sl w vb b) (hpb : pb < w.heap.size) (hc0 : w.cell? ⟨pb, 0, none⟩ = some va) (hc1 : w.cell? ⟨pb, 1, none⟩ = some vb) :
    Calls Try.prog 57 #[.slice (some ⟨pb, 0, none⟩) 2 cap] w fun e w' => e = .returned (.int .i64 (chkTwo a b)) ∧ Below w.heap.size w w' := by
  have HA : Hid (Sl w va a) := ha
  have HB : Hid (Sl w vb b) := hb
  clear ha hb
  go_enter Try.func57, Try.ntmps57
  go_wp2_with fail
  go_loopw [8] (fun i w' => ∃ k : Nat, k ≤ 2 ∧ i = .int .i64 k ∧ Below w.heap.size w w' ∧ Hid (0 < k → chk a = 0) ∧ Hid (1 < k → chk b = 0)) (fun i _ => 2 - (intOf i).toNat)
  case atStart => exact ⟨0, by omega, rfl, Below.refl _ _, fun h => by omega, fun h => by omega⟩
  case round =>
    obtain ⟨k, hk, rfl, hbl, hz0, hz1⟩ := hrel
    obtain ⟨hbc, hbf⟩ := bcell hbl
    have hsz := hbl.size
    have HA' : Hid (Sl wr va a) := HA.out.below hbl
    have HB' : Hid (Sl wr vb b) := HB.out.below hbl
    have hcases : k = 0 ∨ k = 1 ∨ k = 2 := by omega
    rcases hcases with rfl | rfl | rfl
    · rcases he : decide (chk a = 0) with _ | _
      · have he' : (chk a != 0) = true := by simpa using he
        clear he
        go_wp2_with (go_at_call 20; refine (check_any a _ _ HA'.out).mono ?_; rintro e w' ⟨rfl, hb2⟩)
        go_ret
        exact ⟨ret_int (by have h0 : chk a ≠ 0 := (by simpa using he'); rw [chkTwo, if_neg h0]), hbl.trans (hb2.mono hsz)⟩
      · have he' : (chk a != 0) = false := by simpa using he
        clear he
        go_wp2_with (go_at_call 20; refine (check_any a _ _ HA'.out).mono ?_; rintro e w' ⟨rfl, hb2⟩)
        go_roundw
        case rel => exact ⟨1, by omega, by go_num, hbl.trans (hb2.mono hsz), fun _ => (by simpa using he'), fun h => by omega⟩
        case measure => simp [intOf]
    · have h0 : Hid (chk a = 0) := hz0.out (by omega)
      rcases he : decide (chk b = 0) with _ | _
      · have he' : (chk b != 0) = true := by simpa using he
        clear he
        go_wp2_with (go_at_call 20; refine (check_any b _ _ HB'.out).mono ?_; rintro e w' ⟨rfl, hb2⟩)
        go_ret
        exact ⟨ret_int (by rw [chkTwo, if_pos h0.out]), hbl.trans (hb2.mono hsz)⟩
      · have he' : (chk b != 0) = false := by simpa using he
        clear he
        go_wp2_with (go_at_call 20; refine (check_any b _ _ HB'.out).mono ?_; rintro e w' ⟨rfl, hb2⟩)
        go_roundw
        case rel => exact ⟨2, by omega, by go_num, hbl.trans (hb2.mono hsz), fun _ => h0.out, fun _ => (by simpa using he')⟩
        case measure => simp [intOf]
    · go_wp2_with fail
      go_ret
      exact ⟨ret_int (by rw [chkTwo, if_pos (hz0.out (by omega)), hz1.out (by omega)]), hbl⟩

set_option maxHeartbeats 400000 in
theorem join_bad (a b : List Gwy) (va vb : Value) (pb cap : Nat) (w : World) (ha : Sl w va a) (hb : Sl w vb b) (hpb : pb < w.heap.size) (hc0 : w.cell? ⟨pb, 0, none⟩ = some va) (hc1 : w.cell? ⟨pb, 1, none⟩ = some vb) (hne : chkTwo a b ≠ 0) :
    Calls Try.prog 39 #[.slice (some ⟨pb, 0, none⟩) 2 cap] w fun e w' => e = .returned (.tuple #[.slice none 0 0, .int .i64 (joinE a b)]) ∧ Below w.heap.size w w' := by
  have he : (chkTwo a b != 0) = true := by simpa using hne
  have HE : Hid (joinE a b = chkTwo a b) := if_neg hne
  have hcon := checkAll_two a b va vb pb cap w ha hb hpb hc0 hc1
  have HC : Hid (Calls Try.prog 57 #[.slice (some ⟨pb, 0, none⟩) 2 cap] w fun e w' => e = .returned (.int .i64 (chkTwo a b)) ∧ Below w.heap.size w w') := hcon
  clear hcon ha hb hne
  go_enter Try.func39, Try.ntmps39
  go_wp2_with (go_at_call 57; refine HC.out.mono ?_; rintro e w' ⟨rfl, hb2⟩)
  go_ret2
  exact ⟨by rw [HE.out]; rfl, hb2⟩

set_option maxHeartbeats 1600000 in
set_option maxRecDepth 100000 in
theorem join_good (a b : List Gwy) (va vb : Value) (pb cap : Nat) (w : World) (ha : Sl w va a) (hb : Sl w vb b) (hpb : pb < w.heap.size) (hc0 : w.cell? ⟨pb, 0, none⟩ = some va) (hc1 : w.cell? ⟨pb, 1, none⟩ = some vb) (h0 : chkTwo a b = 0) :
    Calls Try.prog 39 #[.slice (some ⟨pb, 0, none⟩) 2 cap] w fun e w' => ∃ v', e = .returned (.tuple #[v', .int .i64 (joinE a b)]) ∧ Below w.heap.size w w' ∧
      (6 < (joinL a b).length → v' = .slice none 0 0) ∧ ((joinL a b).length ≤ 6 → Own w.heap.size w' v' (joinL a b)) := by
  have he : (chkTwo a b != 0) = false := by simpa using h0
  have hca : chk a = 0 := by unfold chkTwo at h0; split at h0 <;> assumption
  have hcb : chk b = 0 := by unfold chkTwo at h0; rw [if_pos hca] at h0; exact h0
  have za := chk_zero hca
  have zb := chk_zero hcb
  have HE : Hid (joinE a b = if 6 < (joinL a b).length then 2 else 0) := if_pos h0
  have HC : Hid (Calls Try.prog 57 #[.slice (some ⟨pb, 0, none⟩) 2 cap] w fun e w' => e = .returned (.int .i64 (chkTwo a b)) ∧ Below w.heap.size w w') := checkAll_two a b va vb pb cap w ha hb hpb hc0 hc1
  have HJ : Hid (∀ w1, Below w.heap.size w w1 → Calls Try.prog 58 #[.func (.func 45) #[] #[], .func (.func 59) #[] #[], .slice (some ⟨pb, 0, none⟩) 2 cap] w1 fun e w' => ∃ v', e = .returned v' ∧ Own w1.heap.size w' v' (joinL a b) ∧ Below w1.heap.size w1 w') := fun w1 hb1 =>
    rjoin_two a b va vb pb cap w1 (ha.below hb1) (hb.below hb1) (Nat.lt_of_lt_of_le hpb hb1.size) ((bcell hb1).1 pb 0 hpb |>.trans hc0) ((bcell hb1).1 pb 1 hpb |>.trans hc1) za.1 zb.1 za.2.1
  have hl40 : (joinL a b).length ≤ 12 := by have h1 := joinL_len b a; have h2 := za.1; have h3 := zb.1; omega
  clear h0 hca hcb za zb ha hb hc0 hc1
  generalize joinL a b = jl at *
  generalize hgn : jl.length = n at *
  have HGN : Hid (jl.length = n) := hgn
  clear hgn
  go_enter Try.func39, Try.ntmps39
  go_wp2_with (go_at_call 57; refine HC.out.mono ?_; rintro e w1 ⟨rfl, hb1⟩)
  refine (HJ.out w1 hb1).mono ?_
  rintro e w2 ⟨v', rfl, ho, hb2⟩
  have hform : ∃ p c, v' = .slice p n c := by
    have hn := HGN.out
    rcases ho.2 with ⟨h, h0⟩ | ⟨g, c, cur, h, _⟩
    · exact ⟨none, 0, by rw [h]; congr 1; omega⟩
    · exact ⟨_, c, by rw [h, hn]⟩
  obtain ⟨p, c, rfl⟩ := hform
  have HBx : Hid (Below w.heap.size w w2) := hb1.trans (hb2.mono hb1.size)
  have HO3 : Hid (Own w.heap.size w2 (.slice p n c) jl) := ho.mono hb1.size
  clear ho hb1 hb2 HC HJ
  by_cases hlt : 6 < n
  · go_wp2_with fail
    go_ret2
    refine ⟨_, by rw [HE.out, if_pos hlt]; rfl, HBx.out, fun _ => rfl, fun h => by omega⟩
  · go_wp2_with fail
    go_ret2
    refine ⟨.slice p n c, by rw [HE.out, if_neg hlt]; rfl, HBx.out, fun h => by omega, fun _ => HO3.out⟩

end Gw
end Go.Proofs.Ytjpcngkddejdjaf
