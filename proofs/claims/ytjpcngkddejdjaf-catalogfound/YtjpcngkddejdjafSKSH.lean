/- The law CatalogFound, walked. -/
import Derived.Test.YtjpcngkddejdjafSKSG
namespace Go.Proofs.Ytjpcngkddejdjaf
namespace Sv
open Go.RowKit

set_option maxHeartbeats 6400000 in
set_option maxRecDepth 100000 in
theorem found_good (ms : List Svc) (v : Value) (nd id nm tg : ByteArray) (ad pt : Int) (ps : Bool) (vr : Int) (gn : Bool) (w : World) (hv : Sl w v ms) (hml : ms.length ≤ 40) (X FM Y FY : List Svc) (k0 : Nat) (dE : Int) (hF : Found ms v ⟨nd, id, nm, tg, ad, pt, true, vr, gn⟩ X FM Y FY k0 dE) :
    Calls Try.prog 3 #[v, .agg #[.string nd, .string id, .string nm, .string tg, .int .i64 ad, .int .i64 pt, .bool ps, .int .i64 vr, .bool gn]] w fun e w' => e = .returned (.bool true) ∧ Below w.heap.size w w' := by
  have hb0 : Below w.heap.size w (w.alloc (.cells #[.string nd, .string id, .string nm, .string tg, .int .i64 ad, .int .i64 pt, .bool ps, .int .i64 vr, .bool gn] 24)) := (Below.refl _ _).alloc (Nat.le_refl _) _
  have hc0 : ∀ o, (w.alloc (.cells #[.string nd, .string id, .string nm, .string tg, .int .i64 ad, .int .i64 pt, .bool ps, .int .i64 vr, .bool gn] 24)).cell? ⟨w.heap.size, o, none⟩ = #[Value.string nd, .string id, .string nm, .string tg, .int .i64 ad, .int .i64 pt, .bool ps, .int .i64 vr, .bool gn][o]? := fun o => cell_topL rfl
  have HV : Hid (Sl w v ms) := hv
  have HREG : Hid (∀ W, Sl W v ms → Calls Try.prog 9 #[v, .agg #[.string nd, .string id, .string nm, .string tg, .int .i64 ad, .int .i64 pt, .bool true, .int .i64 vr, .bool gn]] W fun e w' => ∃ v', e = .returned (.tuple #[v', .int .i64 0]) ∧ Below W.heap.size W w' ∧ Hid (Sl w' v' X)) := hF.reg
  have HFIND : Hid (∀ W u, Sl W u X → Calls Try.prog 10 #[u, .string nm, .string tg] W fun e w' => ∃ v', e = .returned (.tuple #[v', .int .i64 0]) ∧ Below W.heap.size W w' ∧ Hid (Sl w' v' FM)) := hF.find
  have HAT0 : Hid (∀ W u, Sl W u FM → Calls Try.prog 11 #[u, .string nd, .string id] W fun e w' => e = .returned (.int .i64 k0) ∧ Below W.heap.size W w') := hF.at0
  have hk0 := hF.k0lt
  have HK0 : Hid ((FM.getD k0 dm).addr = ad ∧ (FM.getD k0 dm).port = pt) := hF.k0is
  have HCHK : Hid (∀ W u, Sl W u X → Calls Try.prog 12 #[u] W fun e w' => e = .returned (.int .i64 0) ∧ Below W.heap.size W w') := hF.check
  have HOTH : Hid (∀ i, i < ms.length → ¬ ((ms.getD i dm).node = nd ∧ (ms.getD i dm).idn = id) → ∃ k : Nat, k < X.length ∧ X.getD k dm = ms.getD i dm ∧ ∀ W u, Sl W u X → Calls Try.prog 11 #[u, .string (ms.getD i dm).node, .string (ms.getD i dm).idn] W fun e w' => e = .returned (.int .i64 k) ∧ Below W.heap.size W w') := hF.others
  have HDROP : Hid (∀ W u, Sl W u X → Calls Try.prog 13 #[u, .string nd, .string id] W fun e w' => ∃ v', e = .returned (.tuple #[v', .int .i64 dE]) ∧ Below W.heap.size W w' ∧ Hid (dE = 0 → Sl w' v' Y)) := hF.drop
  have HJOIN : Hid (dE = 0 → ∀ W u z, Sl W u X → Sl W z Y → Calls Try.prog 14 #[u, z] W fun e w' => ∃ v', e = .returned (.tuple #[v', .int .i64 0]) ∧ Below W.heap.size W w' ∧ Hid (Sl w' v' Y)) := hF.join
  have HSAME : Hid (dE = 0 → ∀ W u z, Sl W u Y → Sl W z Y → Calls Try.prog 15 #[u, z] W fun e w' => e = .returned (.bool true) ∧ Below W.heap.size W w') := hF.same
  have HFIND2 : Hid (dE = 0 → ∀ W u, Sl W u Y → Calls Try.prog 10 #[u, .string nm, .string tg] W fun e w' => ∃ v', e = .returned (.tuple #[v', .int .i64 0]) ∧ Below W.heap.size W w' ∧ Hid (Sl w' v' FY)) := hF.find2
  have HGONE : Hid (dE = 0 → ∀ W u, Sl W u FY → Calls Try.prog 11 #[u, .string nd, .string id] W fun e w' => e = .returned (.int .i64 (-1)) ∧ Below W.heap.size W w') := hF.gone
  have HDC : Hid (dE = 0 ∨ dE = 3) := hF.dcase
  have hxl := hF.xlen
  have hfl0 := hF.flen
  clear hF hv
  go_enter Try.func3, Try.ntmps3
  go_wp2_with fail
  refine (begun_any _).mono ?_
  rintro e w1 ⟨rfl, hb1⟩
  have HC1 : Hid (∀ o, w1.cell? ⟨w.heap.size, o, none⟩ = #[Value.string nd, .string id, .string nm, .string tg, .int .i64 ad, .int .i64 pt, .bool ps, .int .i64 vr, .bool gn][o]?) := fun o => (hb1.cell (p := ⟨w.heap.size, o, none⟩) (by simp)).trans (hc0 o)
  have hfz : w1.frozen? ⟨w.heap.size, 6, none⟩ = false := (hb1.frozen (p := ⟨w.heap.size, 6, none⟩) (by simp)).trans (by simp)
  have HB1 : Hid (Below w.heap.size w w1) := hb0.trans (hb1.mono (by simp))
  have hs1 : w.heap.size + 1 ≤ w1.heap.size := by have := hb1.size; simpa using this
  have d6 : w1.cell? ⟨w.heap.size, 6, none⟩ = some (.bool ps) := HC1.out 6
  have HB2 : Hid (Below w.heap.size w (w1.setCell ⟨w.heap.size, 6, none⟩ (.bool true))) := HB1.out.setCell (p := ⟨w.heap.size, 6, none⟩) (Nat.le_refl _) _
  have HC2 : Hid (∀ o, (w1.setCell ⟨w.heap.size, 6, none⟩ (.bool true)).cell? ⟨w.heap.size, o, none⟩ = #[Value.string nd, .string id, .string nm, .string tg, .int .i64 ad, .int .i64 pt, .bool true, .int .i64 vr, .bool gn][o]?) := fun o => by
    by_cases h : o = 6
    · subst h; rw [World.cell?_setCell_same _ _ _ d6]; rfl
    · rw [World.cell?_setCell_other _ _ _ _ (fun e => h (by simpa using e.symm)), HC1.out o]
      match o, h with
      | 0, _ => rfl
      | 1, _ => rfl
      | 2, _ => rfl
      | 3, _ => rfl
      | 4, _ => rfl
      | 5, _ => rfl
      | 6, h => exact absurd rfl h
      | 7, _ => rfl
      | 8, _ => rfl
      | n + 9, _ => simp
  have e0 := HC2.out 0
  have e1 := HC2.out 1
  have e2 := HC2.out 2
  have e3 := HC2.out 3
  have e4 := HC2.out 4
  have e5 := HC2.out 5
  have e6 := HC2.out 6
  have e7 := HC2.out 7
  have e8 := HC2.out 8
  simp only [List.getElem?_toArray, List.getElem?_cons_zero, List.getElem?_cons_succ] at e0 e1 e2 e3 e4 e5 e6 e7 e8
  have hs2 : w.heap.size + 1 ≤ (w1.setCell ⟨w.heap.size, 6, none⟩ (.bool true)).heap.size := by simpa using hs1
  clear hb1 hb0 hc0
  go_wp2_with fail
  refine (HREG.out _ (HV.out.below HB2.out)).mono ?_
  rintro e w3 ⟨vx, rfl, hb3, HX3⟩
  have a0 := (hb3.cell (p := ⟨w.heap.size, 0, none⟩) (by show w.heap.size < _; omega)).trans e0
  have a1 := (hb3.cell (p := ⟨w.heap.size, 1, none⟩) (by show w.heap.size < _; omega)).trans e1
  have a2 := (hb3.cell (p := ⟨w.heap.size, 2, none⟩) (by show w.heap.size < _; omega)).trans e2
  have a3 := (hb3.cell (p := ⟨w.heap.size, 3, none⟩) (by show w.heap.size < _; omega)).trans e3
  have a4 := (hb3.cell (p := ⟨w.heap.size, 4, none⟩) (by show w.heap.size < _; omega)).trans e4
  have a5 := (hb3.cell (p := ⟨w.heap.size, 5, none⟩) (by show w.heap.size < _; omega)).trans e5
  have a6 := (hb3.cell (p := ⟨w.heap.size, 6, none⟩) (by show w.heap.size < _; omega)).trans e6
  have a7 := (hb3.cell (p := ⟨w.heap.size, 7, none⟩) (by show w.heap.size < _; omega)).trans e7
  have a8 := (hb3.cell (p := ⟨w.heap.size, 8, none⟩) (by show w.heap.size < _; omega)).trans e8
  have HB3 : Hid (Below w.heap.size w w3) := HB2.out.trans (hb3.mono (by omega))
  have hs3 : w.heap.size + 1 ≤ w3.heap.size := by have := hb3.size; omega
  clear hb3 e0 e1 e2 e3 e4 e5 e6 e7 e8 hfz d6 HC1 HC2 HB2 HB1 HREG
  go_wp2_with fail
  refine (HFIND.out _ _ HX3.out).mono ?_
  rintro e w4 ⟨vm, rfl, hb4, HM4⟩
  have b0 := (hb4.cell (p := ⟨w.heap.size, 0, none⟩) (by show w.heap.size < _; omega)).trans a0
  have b1 := (hb4.cell (p := ⟨w.heap.size, 1, none⟩) (by show w.heap.size < _; omega)).trans a1
  have b2 := (hb4.cell (p := ⟨w.heap.size, 2, none⟩) (by show w.heap.size < _; omega)).trans a2
  have b3 := (hb4.cell (p := ⟨w.heap.size, 3, none⟩) (by show w.heap.size < _; omega)).trans a3
  have b4 := (hb4.cell (p := ⟨w.heap.size, 4, none⟩) (by show w.heap.size < _; omega)).trans a4
  have b5 := (hb4.cell (p := ⟨w.heap.size, 5, none⟩) (by show w.heap.size < _; omega)).trans a5
  have b6 := (hb4.cell (p := ⟨w.heap.size, 6, none⟩) (by show w.heap.size < _; omega)).trans a6
  have b7 := (hb4.cell (p := ⟨w.heap.size, 7, none⟩) (by show w.heap.size < _; omega)).trans a7
  have b8 := (hb4.cell (p := ⟨w.heap.size, 8, none⟩) (by show w.heap.size < _; omega)).trans a8
  have HX4 : Hid (Sl w4 vx X) := HX3.out.below hb4
  have HB4 : Hid (Below w.heap.size w w4) := HB3.out.trans (hb4.mono (by omega))
  have hs4 : w.heap.size + 1 ≤ w4.heap.size := by have := hb4.size; omega
  clear hb4 a0 a1 a2 a3 a4 a5 a6 a7 a8 HB3 HX3 HFIND
  go_wp2_with fail
  refine (HAT0.out _ _ HM4.out).mono ?_
  rintro e w5 ⟨rfl, hb5⟩
  have c0 := (hb5.cell (p := ⟨w.heap.size, 0, none⟩) (by show w.heap.size < _; omega)).trans b0
  have c1 := (hb5.cell (p := ⟨w.heap.size, 1, none⟩) (by show w.heap.size < _; omega)).trans b1
  have c2 := (hb5.cell (p := ⟨w.heap.size, 2, none⟩) (by show w.heap.size < _; omega)).trans b2
  have c3 := (hb5.cell (p := ⟨w.heap.size, 3, none⟩) (by show w.heap.size < _; omega)).trans b3
  have c4 := (hb5.cell (p := ⟨w.heap.size, 4, none⟩) (by show w.heap.size < _; omega)).trans b4
  have c5 := (hb5.cell (p := ⟨w.heap.size, 5, none⟩) (by show w.heap.size < _; omega)).trans b5
  have c6 := (hb5.cell (p := ⟨w.heap.size, 6, none⟩) (by show w.heap.size < _; omega)).trans b6
  have c7 := (hb5.cell (p := ⟨w.heap.size, 7, none⟩) (by show w.heap.size < _; omega)).trans b7
  have c8 := (hb5.cell (p := ⟨w.heap.size, 8, none⟩) (by show w.heap.size < _; omega)).trans b8
  have HX5 : Hid (Sl w5 vx X) := HX4.out.below hb5
  have HM5 : Hid (Sl w5 vm FM) := HM4.out.below hb5
  have HB5 : Hid (Below w.heap.size w w5) := HB4.out.trans (hb5.mono (by omega))
  have hs5 : w.heap.size + 1 ≤ w5.heap.size := by have := hb5.size; omega
  clear hb5 b0 b1 b2 b3 b4 b5 b6 b7 b8 HB4 HX4 HM4 HAT0
  obtain ⟨bm, om, cm, hvm, hbm, m0, m1, m2, m3, m4, m5, m6, m7, m8⟩ := sl_row HM5.out k0 hk0
  subst hvm
  rw [HK0.out.1] at m4
  rw [HK0.out.2] at m5
  generalize hfl : FM.length = fl0 at *
  clear hfl m0 m1 m2 m3 m6 m7 m8
  have hN : ∀ d os, Calls Try.prog 12 #[vx] (Go.Sort.grow (redrawn w5 d) os) fun e w'' => e = .returned (.int .i64 0) ∧ ∃ p : Regrown, w'' = Go.Sort.grow (redrawn w5 p.d) p.os := fun d os => Calls.regrown_of (HCHK.out _ vx (HX5.out.below (below_regrown w5 d os)))
  have F4 : ∀ d os, (Go.Sort.grow (redrawn w5 d) os).cell? ⟨bm, om + k0 * 9 + 4, none⟩ = some (.int .i64 ad) := cell_regrown m4
  have F5 : ∀ d os, (Go.Sort.grow (redrawn w5 d) os).cell? ⟨bm, om + k0 * 9 + 5, none⟩ = some (.int .i64 pt) := cell_regrown m5
  have S4 : ∀ d os, (Go.Sort.grow (redrawn w5 d) os).cell? ⟨w.heap.size, 4, none⟩ = some (.int .i64 ad) := cell_regrown c4
  have S5 : ∀ d os, (Go.Sort.grow (redrawn w5 d) os).cell? ⟨w.heap.size, 5, none⟩ = some (.int .i64 pt) := cell_regrown c5
  have hkn : decide ((k0 : Int) < 0) = false := by simp
  have hwk : IntKind.i64.wrap (k0 : Int) = (k0 : Int) := by rw [IntKind.wrap_i64]; omega
  have hk1 : (k0 : Int) < (fl0 : Int) := by omega
  have hk2 : (0 : Int) ≤ (k0 : Int) := by omega
  have hk3 : ((k0 : Int)).toNat = k0 := by omega
  have hna : (ad != ad) = false := by simp
  have hnp : (pt != pt) = false := by simp
  go_wp2_with fail
  refine wp_region_quiet_below (by kernel_rfl) (by kernel_rfl) ?_
  repeat (quiet_step (exact hN _ _))
  refine wpQuiet_nil ?_
  intro _ hw'
  obtain ⟨⟨dq, osq⟩, hw''⟩ := hw'
  subst hw''
  have hb6 : Below w5.heap.size w5 (Go.Sort.grow (redrawn w5 dq) osq) := below_regrown w5 dq osq
  have a0 := (hb6.cell (p := ⟨w.heap.size, 0, none⟩) (by show w.heap.size < _; omega)).trans c0
  have a1 := (hb6.cell (p := ⟨w.heap.size, 1, none⟩) (by show w.heap.size < _; omega)).trans c1
  have a2 := (hb6.cell (p := ⟨w.heap.size, 2, none⟩) (by show w.heap.size < _; omega)).trans c2
  have a3 := (hb6.cell (p := ⟨w.heap.size, 3, none⟩) (by show w.heap.size < _; omega)).trans c3
  have a4 := (hb6.cell (p := ⟨w.heap.size, 4, none⟩) (by show w.heap.size < _; omega)).trans c4
  have a5 := (hb6.cell (p := ⟨w.heap.size, 5, none⟩) (by show w.heap.size < _; omega)).trans c5
  have a6 := (hb6.cell (p := ⟨w.heap.size, 6, none⟩) (by show w.heap.size < _; omega)).trans c6
  have a7 := (hb6.cell (p := ⟨w.heap.size, 7, none⟩) (by show w.heap.size < _; omega)).trans c7
  have a8 := (hb6.cell (p := ⟨w.heap.size, 8, none⟩) (by show w.heap.size < _; omega)).trans c8
  have HX6 : Hid (Sl (Go.Sort.grow (redrawn w5 dq) osq) vx X) := HX5.out.below hb6
  have HB6 : Hid (Below w.heap.size w (Go.Sort.grow (redrawn w5 dq) osq)) := HB5.out.trans (hb6.mono (by omega))
  have hs6 : w.heap.size + 1 ≤ (Go.Sort.grow (redrawn w5 dq) osq).heap.size := by have := hb6.size; omega
  clear hb6 hN F4 F5 S4 S5 m4 m5 HX5 HB5 c0 c1 c2 c3 c4 c5 c6 c7 c8 hkn hwk hk1 hk2 hk3 hna hnp
  generalize Go.Sort.grow (redrawn w5 dq) osq = w6 at *
  have HV6 : Hid (Sl w6 v ms) := HV.out.below HB6.out
  obtain ⟨pa, ca, hvv, _, ha⟩ := HV6.out
  have HA : Hid (ms = [] ∨ ∃ b off, pa = some ⟨b, off, none⟩ ∧ b < w6.heap.size ∧ Row w6 b off ms) := ha
  clear ha
  subst hvv
  generalize hna : ms.length = n at *
  have HN : Hid (ms.length = n) := hna
  clear hna
  go_wp2_with fail
  go_loopw [9] (fun iv wx => ∃ i : Nat, i ≤ n ∧ iv = .int .i64 i ∧ Hid (Below w6.heap.size w6 wx)) (fun iv _ => n - (intOf iv).toNat)
  case atStart => exact ⟨0, Nat.zero_le _, rfl, Below.refl _ _⟩
  case round =>
    obtain ⟨i, hi, rfl, HL⟩ := hrel
    have hL := HL.out
    have hsL := hL.size
    have HXL : Hid (Sl wr vx X) := HX6.out.below hL
    have c0 := (hL.cell (p := ⟨w.heap.size, 0, none⟩) (by show w.heap.size < _; omega)).trans a0
    have c1 := (hL.cell (p := ⟨w.heap.size, 1, none⟩) (by show w.heap.size < _; omega)).trans a1
    have c2 := (hL.cell (p := ⟨w.heap.size, 2, none⟩) (by show w.heap.size < _; omega)).trans a2
    have c3 := (hL.cell (p := ⟨w.heap.size, 3, none⟩) (by show w.heap.size < _; omega)).trans a3
    have c4 := (hL.cell (p := ⟨w.heap.size, 4, none⟩) (by show w.heap.size < _; omega)).trans a4
    have c5 := (hL.cell (p := ⟨w.heap.size, 5, none⟩) (by show w.heap.size < _; omega)).trans a5
    have c6 := (hL.cell (p := ⟨w.heap.size, 6, none⟩) (by show w.heap.size < _; omega)).trans a6
    have c7 := (hL.cell (p := ⟨w.heap.size, 7, none⟩) (by show w.heap.size < _; omega)).trans a7
    have c8 := (hL.cell (p := ⟨w.heap.size, 8, none⟩) (by show w.heap.size < _; omega)).trans a8
    have HBL : Hid (Below w.heap.size w wr) := HB6.out.trans (hL.mono (by omega))
    have HDN : Hid (∀ m, Below w6.heap.size w6 (wr.drewN m)) := fun m => HL.out.trans ((show Below wr.heap.size wr (wr.drewN m) from ⟨rfl, rfl, rfl, Nat.le_refl _, fun _ _ => rfl⟩).mono HL.out.size)
    by_cases hin : i < n
    · obtain ⟨b1, o1, hp1, hl1, hr1⟩ : ∃ b off, pa = some ⟨b, off, none⟩ ∧ b < w6.heap.size ∧ Row w6 b off ms := by
        rcases HA.out with h | h
        · have := HN.out; rw [h] at this; simp at this; omega
        · exact h
      subst hp1
      have HRR : Hid (Row wr b1 o1 ms) := hr1.later hL hl1
      obtain ⟨r0, r1, r2, r3, r4, r5, r6, r7, r8⟩ := HRR.out i (by rw [HN.out]; exact hin)
      clear hr1 hL a0 a1 a2 a3 a4 a5 a6 a7 a8
      by_cases hkey : (ms.getD i dm).node = nd ∧ (ms.getD i dm).idn = id
      · rw [hkey.1] at r0
        rw [hkey.2] at r1
        clear hkey
        go_wp2_with fail
        go_quiet (fail)
        go_wp2_with fail
        exact ⟨⟨i + 1, by omega, by go_num, HDN.out _⟩, by simp [intOf]; omega⟩
      · obtain ⟨k, hk, hxk, hcall⟩ := HOTH.out i hin hkey
        have HCALL : Hid (∀ W u, Sl W u X → Calls Try.prog 11 #[u, .string (ms.getD i dm).node, .string (ms.getD i dm).idn] W fun e w' => e = .returned (.int .i64 k) ∧ Below W.heap.size W w') := hcall
        clear hcall
        obtain ⟨bx, ox, cx, hvx, hbx, x0, x1, x2, x3, x4, x5, x6, x7, x8⟩ := sl_row HXL.out k hk
        have hneq := neqE (ms.getD i dm) (ms.getD i dm)
        rw [(sameM_iff _ _).2 rfl] at hneq
        rw [hxk] at x0 x1 x2 x3 x4 x5 x6 x7 x8
        clear hxk
        have hkey2 : ((ms.getD i dm).node.toList == nd.toList) = false ∨ (((ms.getD i dm).node.toList == nd.toList) = true ∧ ((ms.getD i dm).idn.toList == id.toList) = false) := by
          by_cases h1 : (ms.getD i dm).node = nd
          · exact .inr ⟨by rw [h1]; simp, (beq_name (fun h => hkey ⟨h1, h⟩)).1⟩
          · exact .inl (beq_name h1).1
        clear hkey
        generalize ms.getD i dm = m at *
        subst hvx
        generalize hxlen : X.length = xl at *
        clear hxlen
        have HW : Hid (∀ W, Below wr.heap.size wr W → (W.cell? ⟨b1, o1 + i * 9, none⟩ = some (.string m.node) ∧ W.cell? ⟨b1, o1 + i * 9 + 1, none⟩ = some (.string m.idn) ∧ W.cell? ⟨b1, o1 + i * 9 + 2, none⟩ = some (.string m.name) ∧ W.cell? ⟨b1, o1 + i * 9 + 3, none⟩ = some (.string m.tag) ∧ W.cell? ⟨b1, o1 + i * 9 + 4, none⟩ = some (.int .i64 m.addr) ∧ W.cell? ⟨b1, o1 + i * 9 + 5, none⟩ = some (.int .i64 m.port) ∧ W.cell? ⟨b1, o1 + i * 9 + 6, none⟩ = some (.bool m.passing) ∧ W.cell? ⟨b1, o1 + i * 9 + 7, none⟩ = some (.int .i64 m.version) ∧ W.cell? ⟨b1, o1 + i * 9 + 8, none⟩ = some (.bool m.gone)) ∧ (W.cell? ⟨bx, ox + k * 9, none⟩ = some (.string m.node) ∧ W.cell? ⟨bx, ox + k * 9 + 1, none⟩ = some (.string m.idn) ∧ W.cell? ⟨bx, ox + k * 9 + 2, none⟩ = some (.string m.name) ∧ W.cell? ⟨bx, ox + k * 9 + 3, none⟩ = some (.string m.tag) ∧ W.cell? ⟨bx, ox + k * 9 + 4, none⟩ = some (.int .i64 m.addr) ∧ W.cell? ⟨bx, ox + k * 9 + 5, none⟩ = some (.int .i64 m.port) ∧ W.cell? ⟨bx, ox + k * 9 + 6, none⟩ = some (.bool m.passing) ∧ W.cell? ⟨bx, ox + k * 9 + 7, none⟩ = some (.int .i64 m.version) ∧ W.cell? ⟨bx, ox + k * 9 + 8, none⟩ = some (.bool m.gone))) := fun W hW => by
          have hb1 : b1 < wr.heap.size := by omega
          exact ⟨⟨(hW.cell (p := ⟨b1, o1 + i * 9, none⟩) hb1).trans r0, (hW.cell (p := ⟨b1, o1 + i * 9 + 1, none⟩) hb1).trans r1, (hW.cell (p := ⟨b1, o1 + i * 9 + 2, none⟩) hb1).trans r2, (hW.cell (p := ⟨b1, o1 + i * 9 + 3, none⟩) hb1).trans r3, (hW.cell (p := ⟨b1, o1 + i * 9 + 4, none⟩) hb1).trans r4, (hW.cell (p := ⟨b1, o1 + i * 9 + 5, none⟩) hb1).trans r5, (hW.cell (p := ⟨b1, o1 + i * 9 + 6, none⟩) hb1).trans r6, (hW.cell (p := ⟨b1, o1 + i * 9 + 7, none⟩) hb1).trans r7, (hW.cell (p := ⟨b1, o1 + i * 9 + 8, none⟩) hb1).trans r8⟩, ⟨(hW.cell (p := ⟨bx, ox + k * 9, none⟩) hbx).trans x0, (hW.cell (p := ⟨bx, ox + k * 9 + 1, none⟩) hbx).trans x1, (hW.cell (p := ⟨bx, ox + k * 9 + 2, none⟩) hbx).trans x2, (hW.cell (p := ⟨bx, ox + k * 9 + 3, none⟩) hbx).trans x3, (hW.cell (p := ⟨bx, ox + k * 9 + 4, none⟩) hbx).trans x4, (hW.cell (p := ⟨bx, ox + k * 9 + 5, none⟩) hbx).trans x5, (hW.cell (p := ⟨bx, ox + k * 9 + 6, none⟩) hbx).trans x6, (hW.cell (p := ⟨bx, ox + k * 9 + 7, none⟩) hbx).trans x7, (hW.cell (p := ⟨bx, ox + k * 9 + 8, none⟩) hbx).trans x8⟩⟩
        clear x0 x1 x2 x3 x4 x5 x6 x7 x8
        have hkn : decide ((k : Int) < 0) = false := by simp
        have hwk : IntKind.i64.wrap (k : Int) = (k : Int) := by rw [IntKind.wrap_i64]; omega
        have hwi : IntKind.i64.wrap (i : Int) = (i : Int) := by rw [IntKind.wrap_i64]; omega
        rcases hkey2 with g1 | ⟨g1, g2⟩
        all_goals
          go_wp2_with fail
          go_quiet (fail)
          go_wp2_with fail
          have hb7 : Below wr.heap.size wr (wr.drewN nq) := ⟨rfl, rfl, rfl, Nat.le_refl _, fun _ _ => rfl⟩
          obtain ⟨⟨p0, p1, _⟩, _⟩ := HW.out _ hb7
          have HX7 : Hid (Sl (wr.drewN nq) (.slice (some ⟨bx, ox, none⟩) xl cx) X) := HXL.out.below hb7
          have HB7 : Hid (Below wr.heap.size wr (wr.drewN nq)) := hb7
          clear hb7
          generalize wr.drewN nq = w7 at *
          have hN : ∀ d os, Calls Try.prog 11 #[.slice (some ⟨bx, ox, none⟩) xl cx, .string m.node, .string m.idn] (Go.Sort.grow (redrawn w7 d) os) fun e w'' => e = .returned (.int .i64 k) ∧ ∃ p : Regrown, w'' = Go.Sort.grow (redrawn w7 p.d) p.os := fun d os => Calls.regrown_of (HCALL.out _ _ (HX7.out.below (below_regrown w7 d os)))
          have F0 : ∀ d os, (Go.Sort.grow (redrawn w7 d) os).cell? ⟨b1, o1 + i * 9, none⟩ = some (.string m.node) := cell_regrown p0
          have F1 : ∀ d os, (Go.Sort.grow (redrawn w7 d) os).cell? ⟨b1, o1 + i * 9 + 1, none⟩ = some (.string m.idn) := cell_regrown p1
          have hi1 : (i : Int) < (n : Int) := by omega
          have hi2 : (0 : Int) ≤ (i : Int) := by omega
          have hi3 : ((i : Int)).toNat = i := by omega
          refine wp_region_quiet_below (by kernel_rfl) (by kernel_rfl) ?_
          repeat (quiet_step (exact hN _ _))
          refine wpQuiet_nil ?_
          intro _ hw'
          obtain ⟨⟨dq, osq⟩, hw''⟩ := hw'
          subst hw''
          have hb8 : Below wr.heap.size wr (Go.Sort.grow (redrawn w7 dq) osq) := HB7.out.trans ((below_regrown w7 dq osq).mono HB7.out.size)
          have HB8 : Hid (Below wr.heap.size wr (Go.Sort.grow (redrawn w7 dq) osq)) := hb8
          obtain ⟨⟨q0, q1, q2, q3, q4, q5, q6, q7, q8⟩, ⟨x0, x1, x2, x3, x4, x5, x6, x7, x8⟩⟩ := HW.out _ hb8
          clear hN F0 F1 p0 p1 hb8 HB7 HX7 HW
          generalize Go.Sort.grow (redrawn w7 dq) osq = w8 at *
          go_wp2_with fail
          go_quiet (fail)
          go_wp2_with fail
          have hb9 : Below w8.heap.size w8 (w8.drewN nq) := ⟨rfl, rfl, rfl, Nat.le_refl _, fun _ _ => rfl⟩
          exact ⟨⟨i + 1, by omega, by go_num, HL.out.trans ((HB8.out.trans (hb9.mono HB8.out.size)).mono HL.out.size)⟩, by simp [intOf]; omega⟩
    · clear a0 a1 a2 a3 a4 a5 a6 a7 a8 hL
      go_wp2_with fail
      refine (HDROP.out _ _ HXL.out).mono ?_
      rintro e y1 ⟨vy, rfl, hb, HY⟩
      have a0 := (hb.cell (p := ⟨w.heap.size, 0, none⟩) (by show w.heap.size < _; omega)).trans c0
      have a1 := (hb.cell (p := ⟨w.heap.size, 1, none⟩) (by show w.heap.size < _; omega)).trans c1
      have a2 := (hb.cell (p := ⟨w.heap.size, 2, none⟩) (by show w.heap.size < _; omega)).trans c2
      have a3 := (hb.cell (p := ⟨w.heap.size, 3, none⟩) (by show w.heap.size < _; omega)).trans c3
      have a4 := (hb.cell (p := ⟨w.heap.size, 4, none⟩) (by show w.heap.size < _; omega)).trans c4
      have a5 := (hb.cell (p := ⟨w.heap.size, 5, none⟩) (by show w.heap.size < _; omega)).trans c5
      have a6 := (hb.cell (p := ⟨w.heap.size, 6, none⟩) (by show w.heap.size < _; omega)).trans c6
      have a7 := (hb.cell (p := ⟨w.heap.size, 7, none⟩) (by show w.heap.size < _; omega)).trans c7
      have a8 := (hb.cell (p := ⟨w.heap.size, 8, none⟩) (by show w.heap.size < _; omega)).trans c8
      have HX1 : Hid (Sl y1 vx X) := HXL.out.below hb
      have HB1 : Hid (Below w.heap.size w y1) := HBL.out.trans (hb.mono (by omega))
      have hz1 : w.heap.size + 1 ≤ y1.heap.size := by have := hb.size; omega
      clear hb c0 c1 c2 c3 c4 c5 c6 c7 c8 HBL HXL
      rcases HDC.out with hd | hd
      · subst hd
        have HY1 : Hid (Sl y1 vy Y) := HY.out rfl
        clear HY HDC
        go_wp2_with fail
        refine (HJOIN.out (by first | rfl | trivial) _ _ _ HX1.out HY1.out).mono ?_
        rintro e y2 ⟨vz, rfl, hb, HZ2⟩
        have c0 := (hb.cell (p := ⟨w.heap.size, 0, none⟩) (by show w.heap.size < _; omega)).trans a0
        have c1 := (hb.cell (p := ⟨w.heap.size, 1, none⟩) (by show w.heap.size < _; omega)).trans a1
        have c2 := (hb.cell (p := ⟨w.heap.size, 2, none⟩) (by show w.heap.size < _; omega)).trans a2
        have c3 := (hb.cell (p := ⟨w.heap.size, 3, none⟩) (by show w.heap.size < _; omega)).trans a3
        have c4 := (hb.cell (p := ⟨w.heap.size, 4, none⟩) (by show w.heap.size < _; omega)).trans a4
        have c5 := (hb.cell (p := ⟨w.heap.size, 5, none⟩) (by show w.heap.size < _; omega)).trans a5
        have c6 := (hb.cell (p := ⟨w.heap.size, 6, none⟩) (by show w.heap.size < _; omega)).trans a6
        have c7 := (hb.cell (p := ⟨w.heap.size, 7, none⟩) (by show w.heap.size < _; omega)).trans a7
        have c8 := (hb.cell (p := ⟨w.heap.size, 8, none⟩) (by show w.heap.size < _; omega)).trans a8
        have HY2 : Hid (Sl y2 vy Y) := HY1.out.below hb
        have HB2 : Hid (Below w.heap.size w y2) := HB1.out.trans (hb.mono (by omega))
        have hz2 : w.heap.size + 1 ≤ y2.heap.size := by have := hb.size; omega
        clear hb a0 a1 a2 a3 a4 a5 a6 a7 a8 HB1 HX1 HY1
        go_wp2_with fail
        refine (HSAME.out (by first | rfl | trivial) _ _ _ HZ2.out HY2.out).mono ?_
        rintro e y3 ⟨rfl, hb⟩
        have a0 := (hb.cell (p := ⟨w.heap.size, 0, none⟩) (by show w.heap.size < _; omega)).trans c0
        have a1 := (hb.cell (p := ⟨w.heap.size, 1, none⟩) (by show w.heap.size < _; omega)).trans c1
        have a2 := (hb.cell (p := ⟨w.heap.size, 2, none⟩) (by show w.heap.size < _; omega)).trans c2
        have a3 := (hb.cell (p := ⟨w.heap.size, 3, none⟩) (by show w.heap.size < _; omega)).trans c3
        have a4 := (hb.cell (p := ⟨w.heap.size, 4, none⟩) (by show w.heap.size < _; omega)).trans c4
        have a5 := (hb.cell (p := ⟨w.heap.size, 5, none⟩) (by show w.heap.size < _; omega)).trans c5
        have a6 := (hb.cell (p := ⟨w.heap.size, 6, none⟩) (by show w.heap.size < _; omega)).trans c6
        have a7 := (hb.cell (p := ⟨w.heap.size, 7, none⟩) (by show w.heap.size < _; omega)).trans c7
        have a8 := (hb.cell (p := ⟨w.heap.size, 8, none⟩) (by show w.heap.size < _; omega)).trans c8
        have HZ3 : Hid (Sl y3 vz Y) := HZ2.out.below hb
        have HB3 : Hid (Below w.heap.size w y3) := HB2.out.trans (hb.mono (by omega))
        have hz3 : w.heap.size + 1 ≤ y3.heap.size := by have := hb.size; omega
        clear hb c0 c1 c2 c3 c4 c5 c6 c7 c8 HB2 HZ2 HY2
        go_wp2_with fail
        refine (HFIND2.out (by first | rfl | trivial) _ _ HZ3.out).mono ?_
        rintro e y4 ⟨vf, rfl, hb, HF4⟩
        have c0 := (hb.cell (p := ⟨w.heap.size, 0, none⟩) (by show w.heap.size < _; omega)).trans a0
        have c1 := (hb.cell (p := ⟨w.heap.size, 1, none⟩) (by show w.heap.size < _; omega)).trans a1
        have c2 := (hb.cell (p := ⟨w.heap.size, 2, none⟩) (by show w.heap.size < _; omega)).trans a2
        have c3 := (hb.cell (p := ⟨w.heap.size, 3, none⟩) (by show w.heap.size < _; omega)).trans a3
        have c4 := (hb.cell (p := ⟨w.heap.size, 4, none⟩) (by show w.heap.size < _; omega)).trans a4
        have c5 := (hb.cell (p := ⟨w.heap.size, 5, none⟩) (by show w.heap.size < _; omega)).trans a5
        have c6 := (hb.cell (p := ⟨w.heap.size, 6, none⟩) (by show w.heap.size < _; omega)).trans a6
        have c7 := (hb.cell (p := ⟨w.heap.size, 7, none⟩) (by show w.heap.size < _; omega)).trans a7
        have c8 := (hb.cell (p := ⟨w.heap.size, 8, none⟩) (by show w.heap.size < _; omega)).trans a8
        have HB4 : Hid (Below w.heap.size w y4) := HB3.out.trans (hb.mono (by omega))
        have hz4 : w.heap.size + 1 ≤ y4.heap.size := by have := hb.size; omega
        clear hb a0 a1 a2 a3 a4 a5 a6 a7 a8 HB3 HZ3
        go_wp2_with fail
        refine (HGONE.out (by first | rfl | trivial) _ _ HF4.out).mono ?_
        rintro e y5 ⟨rfl, hb⟩
        have HB5 : Hid (Below w.heap.size w y5) := HB4.out.trans (hb.mono (by omega))
        clear hb c0 c1 c2 c3 c4 c5 c6 c7 c8 HB4 HF4
        go_wp2_with fail
        go_ret
        exact ⟨rfl, HB5.out⟩
      · subst hd
        clear a0 a1 a2 a3 a4 a5 a6 a7 a8 HY
        go_wp2_with fail
        go_ret
        exact ⟨rfl, HB1.out⟩

set_option maxHeartbeats 3200000 in
set_option maxRecDepth 100000 in
/-- Where nothing is registered. -/
theorem found_bad (ms : List Svc) (v : Value) (nd id nm tg : ByteArray) (ad pt : Int) (ps : Bool) (vr : Int) (gn : Bool) (w : World) (hv : Sl w v ms) (E : Int) (hE : E ≠ 0)
    (hR : ∀ W, Sl W v ms → Calls Try.prog 9 #[v, .agg #[.string nd, .string id, .string nm, .string tg, .int .i64 ad, .int .i64 pt, .bool true, .int .i64 vr, .bool gn]] W fun e w' => e = .returned (.tuple #[.slice none 0 0, .int .i64 E]) ∧ Below W.heap.size W w') :
    Calls Try.prog 3 #[v, .agg #[.string nd, .string id, .string nm, .string tg, .int .i64 ad, .int .i64 pt, .bool ps, .int .i64 vr, .bool gn]] w fun e w' => e = .returned (.bool true) ∧ Below w.heap.size w w' := by
  have hb0 : Below w.heap.size w (w.alloc (.cells #[.string nd, .string id, .string nm, .string tg, .int .i64 ad, .int .i64 pt, .bool ps, .int .i64 vr, .bool gn] 24)) := (Below.refl _ _).alloc (Nat.le_refl _) _
  have hc0 : ∀ o, (w.alloc (.cells #[.string nd, .string id, .string nm, .string tg, .int .i64 ad, .int .i64 pt, .bool ps, .int .i64 vr, .bool gn] 24)).cell? ⟨w.heap.size, o, none⟩ = #[Value.string nd, .string id, .string nm, .string tg, .int .i64 ad, .int .i64 pt, .bool ps, .int .i64 vr, .bool gn][o]? := fun o => cell_topL rfl
  have HV : Hid (Sl w v ms) := hv
  have HREG : Hid (∀ W, Sl W v ms → Calls Try.prog 9 #[v, .agg #[.string nd, .string id, .string nm, .string tg, .int .i64 ad, .int .i64 pt, .bool true, .int .i64 vr, .bool gn]] W fun e w' => e = .returned (.tuple #[.slice none 0 0, .int .i64 E]) ∧ Below W.heap.size W w') := hR
  have hne : (E != 0) = true := by simpa using hE
  clear hE hR hv
  go_enter Try.func3, Try.ntmps3
  go_wp2_with fail
  refine (begun_any _).mono ?_
  rintro e w1 ⟨rfl, hb1⟩
  have HC1 : Hid (∀ o, w1.cell? ⟨w.heap.size, o, none⟩ = #[Value.string nd, .string id, .string nm, .string tg, .int .i64 ad, .int .i64 pt, .bool ps, .int .i64 vr, .bool gn][o]?) := fun o => (hb1.cell (p := ⟨w.heap.size, o, none⟩) (by simp)).trans (hc0 o)
  have hfz : w1.frozen? ⟨w.heap.size, 6, none⟩ = false := (hb1.frozen (p := ⟨w.heap.size, 6, none⟩) (by simp)).trans (by simp)
  have HB1 : Hid (Below w.heap.size w w1) := hb0.trans (hb1.mono (by simp))
  have hs1 : w.heap.size + 1 ≤ w1.heap.size := by have := hb1.size; simpa using this
  have d6 : w1.cell? ⟨w.heap.size, 6, none⟩ = some (.bool ps) := HC1.out 6
  have HB2 : Hid (Below w.heap.size w (w1.setCell ⟨w.heap.size, 6, none⟩ (.bool true))) := HB1.out.setCell (p := ⟨w.heap.size, 6, none⟩) (Nat.le_refl _) _
  have HC2 : Hid (∀ o, (w1.setCell ⟨w.heap.size, 6, none⟩ (.bool true)).cell? ⟨w.heap.size, o, none⟩ = #[Value.string nd, .string id, .string nm, .string tg, .int .i64 ad, .int .i64 pt, .bool true, .int .i64 vr, .bool gn][o]?) := fun o => by
    by_cases h : o = 6
    · subst h; rw [World.cell?_setCell_same _ _ _ d6]; rfl
    · rw [World.cell?_setCell_other _ _ _ _ (fun e => h (by simpa using e.symm)), HC1.out o]
      match o, h with
      | 0, _ => rfl
      | 1, _ => rfl
      | 2, _ => rfl
      | 3, _ => rfl
      | 4, _ => rfl
      | 5, _ => rfl
      | 6, h => exact absurd rfl h
      | 7, _ => rfl
      | 8, _ => rfl
      | n + 9, _ => simp
  have e0 := HC2.out 0
  have e1 := HC2.out 1
  have e2 := HC2.out 2
  have e3 := HC2.out 3
  have e4 := HC2.out 4
  have e5 := HC2.out 5
  have e6 := HC2.out 6
  have e7 := HC2.out 7
  have e8 := HC2.out 8
  simp only [List.getElem?_toArray, List.getElem?_cons_zero, List.getElem?_cons_succ] at e0 e1 e2 e3 e4 e5 e6 e7 e8
  have hs2 : w.heap.size + 1 ≤ (w1.setCell ⟨w.heap.size, 6, none⟩ (.bool true)).heap.size := by simpa using hs1
  clear hb1 hb0 hc0
  go_wp2_with fail
  refine (HREG.out _ (HV.out.below HB2.out)).mono ?_
  rintro e w3 ⟨rfl, hb3⟩
  have HB3 : Hid (Below w.heap.size w w3) := HB2.out.trans (hb3.mono (by omega))
  clear hb3 e0 e1 e2 e3 e4 e5 e6 e7 e8 hfz d6 HC1 HC2 HB2 HB1 HREG
  go_wp2_with fail
  go_ret
  exact ⟨rfl, HB3.out⟩

theorem catalogFound_walk (ms : List Svc) (v : Value) (s : Svc) (w : World) (hv : Sl w v ms) (hs : s.ok) :
    Calls Try.prog 3 #[v, .agg #[.string s.node, .string s.idn, .string s.name, .string s.tag, .int .i64 s.addr, .int .i64 s.port, .bool s.passing, .int .i64 s.version, .bool s.gone]] w fun e w' => e = .returned (.bool true) ∧ Below w.heap.size w w' := by
  obtain ⟨nd, id, nm, tg, ad, pt, ps, vr, gn⟩ := s
  have ht : (⟨nd, id, nm, tg, ad, pt, true, vr, gn⟩ : Svc).ok := hs
  by_cases h0 : chk ms = 0
  · obtain ⟨p, f, hat⟩ := at_any ms (chk_zero h0).2.1 (keyOf ⟨nd, id, nm, tg, ad, pt, true, vr, gn⟩)
    by_cases hr : regE ms p f ⟨nd, id, nm, tg, ad, pt, true, vr, gn⟩ = 0
    · obtain ⟨X, FM, Y, FY, k0, dE, hF⟩ := found_of hv ht h0 hat hr rfl
      exact found_good ms v nd id nm tg ad pt ps vr gn w hv (chk_zero h0).1 X FM Y FY k0 dE hF
    · refine found_bad ms v nd id nm tg ad pt ps vr gn w hv (regE ms p f ⟨nd, id, nm, tg, ad, pt, true, vr, gn⟩) hr (fun W hW => ?_)
      refine (register_good ms v ⟨nd, id, nm, tg, ad, pt, true, vr, gn⟩ W hW h0 ht p f hat).mono ?_
      obtain ⟨hj1, hj2⟩ := reg_join h0 hat
      rw [hj1]
      rintro e w' ⟨v', rfl, h1, h2, h3⟩
      exact ⟨by rw [h2 hr], h1⟩
  · exact found_bad ms v nd id nm tg ad pt ps vr gn w hv (chk ms) h0 (fun W hW => register_bad ms v ⟨nd, id, nm, tg, ad, pt, true, vr, gn⟩ W hW h0)

end Sv
end Go.Proofs.Ytjpcngkddejdjaf
