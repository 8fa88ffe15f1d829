/- MK3, MK4 -/
import Derived.Test.YtdfkpehggecbaaaGreatDoorV12
import Derived.Lib.QuietBelow
/- members: the order and which is newer, walked. -/
namespace Go.Proofs.YtdfkpehggecbaaaGreatDoor

open Go.RowKit

set_option maxHeartbeats 400000 in
theorem order_any (a b : Mem) (w : World) :
    Calls Tryz.prog 64 #[.agg #[.string a.name, .int .i64 a.state, .int .i64 a.life, .int .i64 a.addr, .bool a.server], .agg #[.string b.name, .int .i64 b.state, .int .i64 b.life, .int .i64 b.addr, .bool b.server]] w fun e w' => e = .returned (.int .i64 (cmpI a.name b.name)) ∧ Below w.heap.size w w' := by
  go_enter Tryz.func64, Tryz.ntmps64
  go_wp2_with (go_at_call 73; refine (compare_any _ _ _).mono ?_; rintro e w' ⟨rfl, rfl⟩)
  go_ret
  exact ⟨rfl, ((Below.refl _ _).alloc (Nat.le_refl _) _).alloc (by simp) _⟩

end Go.Proofs.YtdfkpehggecbaaaGreatDoor

/- Do members rise? Where is one of a key? The library's binary search, walked. -/
namespace Go.Proofs.YtdfkpehggecbaaaGreatDoor

open Go.RowKit

set_option maxHeartbeats 800000 in
set_option maxRecDepth 100000 in
theorem rises_row (ms : List Mem) (b off cap : Nat) (w : World) (hr : Row w b off ms) (hb : b < w.heap.size) (hn : ms.length ≤ 20) :
    Calls Tryz.prog 63 #[.slice (some ⟨b, off, none⟩) ms.length cap, .func (.func 64) #[] #[]] w fun e w' => e = .returned (.bool (risesB ms)) ∧ Below w.heap.size w w' := by
  have HR : Hid (Row w b off ms) := hr
  clear hr
  have H4 : Hid (∀ k, k + 1 < ms.length → 0 ≤ cmpI (ms.getD k dm).name (ms.getD (k + 1) dm).name → risesB ms = false) := fun k hk hl => by
    rcases h : risesB ms with _ | _
    · rfl
    · have := rises_getO ms h k hk; omega
  have H0 : Hid ((∀ j, j + 1 < ms.length → cmpI (ms.getD j dm).name (ms.getD (j + 1) dm).name < 0) → risesB ms = true) := rises_allO ms
  generalize hN : ms.length = n at *
  have HN : Hid (ms.length = n) := hN
  clear hN
  generalize hC : risesB ms = res at *
  have HC : Hid (risesB ms = res) := hC
  clear hC
  go_enter Tryz.func63, Tryz.ntmps63
  go_wp2_with fail
  go_loopw [5] (fun i w' => ∃ k : Nat, (k + 1 ≤ n ∨ k = 0) ∧ i = .int .i64 (k + 1) ∧ Below w.heap.size w w' ∧ Hid (∀ j, j < k → cmpI (ms.getD j dm).name (ms.getD (j + 1) dm).name < 0)) (fun i _ => n - (intOf i).toNat)
  case atStart => exact ⟨0, .inr rfl, rfl, Below.refl _ _, fun j h => absurd h (Nat.not_lt_zero _)⟩
  case round =>
    obtain ⟨q, hq, rfl, hbl, hz⟩ := hrel
    obtain ⟨hbc, hbf⟩ := bcell hbl
    have hsz := hbl.size
    by_cases hlt : q + 1 < n
    · obtain ⟨c0, c1, c2, c3, c4⟩ := HR.out q (by rw [HN.out]; omega)
      obtain ⟨d0, d1, d2, d3, d4⟩ := HR.out (q + 1) (by rw [HN.out]; exact hlt)
      have HK : Hid (0 ≤ cmpI (ms.getD q dm).name (ms.getD (q + 1) dm).name → res = false) := fun h => H4.out q hlt h
      have HZ : Hid (cmpI (ms.getD q dm).name (ms.getD (q + 1) dm).name < 0 → ∀ j, j < q + 1 → cmpI (ms.getD j dm).name (ms.getD (j + 1) dm).name < 0) := fun h j hj => by
        rcases Nat.lt_succ_iff_lt_or_eq.1 hj with h2 | rfl
        · exact hz.out j h2
        · exact h
      generalize ms.getD q dm = m1 at *
      generalize ms.getD (q + 1) dm = m2 at *
      have hN : ∀ d os, Calls Tryz.prog 64 #[.agg #[.string m1.name, .int .i64 m1.state, .int .i64 m1.life, .int .i64 m1.addr, .bool m1.server], .agg #[.string m2.name, .int .i64 m2.state, .int .i64 m2.life, .int .i64 m2.addr, .bool m2.server]] (Go.Sort.grow (redrawn wr d) os) fun e w'' => e = .returned (.int .i64 (cmpI m1.name m2.name)) ∧ ∃ p : Regrown, w'' = Go.Sort.grow (redrawn wr p.d) p.os := fun d os => Calls.regrown_of (order_any m1 m2 _)
      have F0 : ∀ d os, (Go.Sort.grow (redrawn wr d) os).cell? ⟨b, off + q * 5, none⟩ = some (.string m1.name) := cell_regrown ((hbc _ _ hb).trans c0)
      have F1 : ∀ d os, (Go.Sort.grow (redrawn wr d) os).cell? ⟨b, off + q * 5 + 1, none⟩ = some (.int .i64 m1.state) := cell_regrown ((hbc _ _ hb).trans c1)
      have F2 : ∀ d os, (Go.Sort.grow (redrawn wr d) os).cell? ⟨b, off + q * 5 + 2, none⟩ = some (.int .i64 m1.life) := cell_regrown ((hbc _ _ hb).trans c2)
      have F3 : ∀ d os, (Go.Sort.grow (redrawn wr d) os).cell? ⟨b, off + q * 5 + 3, none⟩ = some (.int .i64 m1.addr) := cell_regrown ((hbc _ _ hb).trans c3)
      have F4 : ∀ d os, (Go.Sort.grow (redrawn wr d) os).cell? ⟨b, off + q * 5 + 4, none⟩ = some (.bool m1.server) := cell_regrown ((hbc _ _ hb).trans c4)
      have G0 : ∀ d os, (Go.Sort.grow (redrawn wr d) os).cell? ⟨b, off + (q + 1) * 5, none⟩ = some (.string m2.name) := cell_regrown ((hbc _ _ hb).trans d0)
      have G1 : ∀ d os, (Go.Sort.grow (redrawn wr d) os).cell? ⟨b, off + (q + 1) * 5 + 1, none⟩ = some (.int .i64 m2.state) := cell_regrown ((hbc _ _ hb).trans d1)
      have G2 : ∀ d os, (Go.Sort.grow (redrawn wr d) os).cell? ⟨b, off + (q + 1) * 5 + 2, none⟩ = some (.int .i64 m2.life) := cell_regrown ((hbc _ _ hb).trans d2)
      have G3 : ∀ d os, (Go.Sort.grow (redrawn wr d) os).cell? ⟨b, off + (q + 1) * 5 + 3, none⟩ = some (.int .i64 m2.addr) := cell_regrown ((hbc _ _ hb).trans d3)
      have G4 : ∀ d os, (Go.Sort.grow (redrawn wr d) os).cell? ⟨b, off + (q + 1) * 5 + 4, none⟩ = some (.bool m2.server) := cell_regrown ((hbc _ _ hb).trans d4)
      clear c0 c1 c2 c3 c4 d0 d1 d2 d3 d4 hbc hbf
      generalize cmpI m1.name m2.name = r at *
      have hwq : IntKind.i64.wrap (q : Int) = (q : Int) := by rw [IntKind.wrap_i64]; omega
      have hqn : q < n := by omega
      have hq1 : (q : Int) + 1 < (n : Int) := by omega
      have hq0 : (0 : Int) ≤ (q : Int) + 1 := by omega
      have htn : ((q : Int) + 1).toNat = q + 1 := by omega
      by_cases hl : r < 0
      · have hl2 : ¬ (0 ≤ r) := by omega
        go_wp2_with fail
        refine wp_region_quiet_below (by kernel_rfl) (by kernel_rfl) ?_
        repeat (quiet_step (exact hN _ _))
        refine wpQuiet_nil ?_
        intro _ hw'
        obtain ⟨⟨dq, osq⟩, hw''⟩ := hw'
        subst hw''
        have HBQ : Hid (Below wr.heap.size wr (Go.Sort.grow (redrawn wr dq) osq)) := below_regrown wr dq osq
        clear hN F0 F1 F2 F3 F4 G0 G1 G2 G3 G4
        go_wp2_with fail
        go_roundw
        case rel => exact ⟨q + 1, .inl (by omega), by go_num, hbl.trans (HBQ.out.mono hsz), HZ.out hl⟩
        case measure => simp [intOf]; omega
      · have hl2 : 0 ≤ r := by omega
        have h4 : Hid (res = false) := HK.out hl2
        go_wp2_with fail
        refine wp_region_quiet_below (by kernel_rfl) (by kernel_rfl) ?_
        repeat (quiet_step (exact hN _ _))
        refine wpQuiet_nil ?_
        intro _ hw'
        obtain ⟨⟨dq, osq⟩, hw''⟩ := hw'
        subst hw''
        have HBQ : Hid (Below wr.heap.size wr (Go.Sort.grow (redrawn wr dq) osq)) := below_regrown wr dq osq
        clear hN F0 F1 F2 F3 F4 G0 G1 G2 G3 G4
        go_wp2_with fail
        go_ret
        exact ⟨ret_bool h4.out.symm, hbl.trans (HBQ.out.mono hsz)⟩
    · have h0 : Hid (res = true) := H0.out fun j hj => hz.out j (by omega)
      go_wp2_with fail
      go_ret
      exact ⟨ret_bool h0.out.symm, hbl⟩

set_option maxHeartbeats 400000 in
theorem rises_none (a : Option Addr) (cap : Nat) (fv : Value) (w : World) :
    Calls Tryz.prog 63 #[.slice a 0 cap, fv] w fun e w' => e = .returned (.bool true) ∧ w' = w := by
  go_enter Tryz.func63, Tryz.ntmps63
  go_wp2_with fail
  go_loop [5] (fun i => i = .int .i64 1) (fun _ => 0)
  case atStart => rfl
  case round =>
    subst hrel
    go_wp2_with fail
    go_ret
    exact ⟨rfl, rfl⟩

theorem rises_any (ms : List Mem) (v : Value) (w : World) (h : Sl w v ms) (hn : ms.length ≤ 20) :
    Calls Tryz.prog 63 #[v, .func (.func 64) #[] #[]] w fun e w' => e = .returned (.bool (risesB ms)) ∧ Below w.heap.size w w' := by
  obtain ⟨a, cap, rfl, hs, h⟩ := h
  rcases h with rfl | ⟨b, off, rfl, hb, hr⟩
  · refine (rises_none a cap _ w).mono ?_
    rintro e w' ⟨rfl, rfl⟩
    exact ⟨rfl, Below.refl _ _⟩
  · exact rises_row ms b off cap w hr hb hn

end Go.Proofs.YtdfkpehggecbaaaGreatDoor

