/- ND2 -/
import Derived.Test.YtdfkpehggecbaaaGreatDoorV28
import Derived.Test.YtdfkpehggecbaaaGreatDoorV46
import Derived.Test.YtdfkpehggecbaaaGreatDoorV47
import Derived.Test.YtdfkpehggecbaaaGreatDoorV41
/- Packets: the document's own Check. -/
namespace Go.Proofs.YtdfkpehggecbaaaGreatDoor
open Go.RowKit Go.WideMaps Go.Maps

set_option maxHeartbeats 12800000 in
set_option maxRecDepth 100000 in
/-- Rumors that are told, as the document checks them: the packet's box lies at pb. -/
theorem refTold_any (frm : ByteArray) (ms : List Mem) (a2 a3 a4 : Option Addr) (c2 c3 c4 : Nat) (v : Value) (w : World) (hv : Sl w v ms) (hfr : frm.size ≤ maxLen) (hlab : labB frm = true) :
    Calls Tryz.prog 7 #[.agg #[.string frm, .bool false, v, .slice a2 0 c2, .slice a3 0 c3, .slice a4 0 c4]] w fun e w' => e = .returned (.int .i64 (chkT ms)) ∧ Below w.heap.size w w' := by
  obtain ⟨pa, ca, rfl, hsz, ha⟩ := hv
  obtain ⟨W0, hW0⟩ : ∃ W0, W0 = w.alloc (.cells #[.string frm, .bool false, .slice pa ms.length ca, .slice a2 0 c2, .slice a3 0 c3, .slice a4 0 c4] 27) := ⟨_, rfl⟩
  have hb0 : Below w.heap.size w W0 := by rw [hW0]; exact (Below.refl _ _).alloc (Nat.le_refl _) _
  have hg0 : W0.heap[w.heap.size]? = some (.cells #[.string frm, .bool false, .slice pa ms.length ca, .slice a2 0 c2, .slice a3 0 c3, .slice a4 0 c4] 27 (0, 0)) := by rw [hW0]; exact heap_alloc_new w _
  have hs0 : w.heap.size < W0.heap.size := by rw [hW0]; simp
  have HB0 : Hid (Below w.heap.size w W0) := hb0
  have HX : Hid (∀ W, Below W0.heap.size W0 W → W.cell? ⟨w.heap.size, 2, none⟩ = some (.slice pa ms.length ca)) := fun W hW => cellsAt ((hW.block _ hs0).trans hg0) 2
  by_cases hmany : 5 < ms.length
  · have HE : Hid (chkT ms = 2) := chkT_many hmany
    clear hb0 hg0 HX
    go_enter Tryz.func7, Tryz.ntmps7
    go_wp2_with (go_at_call 17; refine (isLabel_any _ _ hfr).mono ?_; rintro e w' ⟨rfl, rfl⟩; rw [hlab])
    go_ret
    exact ⟨ret_int HE.out.symm, (Below.refl _ _).alloc (Nat.le_refl _) _⟩
  have HA : Hid (ms = [] ∨ ∃ b off, pa = some ⟨b, off, none⟩ ∧ b < w.heap.size ∧ Row w b off ms) := ha
  have HS : Hid (∀ j, (ms.getD j dm).name.size ≤ maxLen) := hsz
  clear ha hsz
  generalize hN : ms.length = n at *
  have HN : Hid (ms.length = n) := hN
  clear hN
  have hn5 : n ≤ 5 := by omega
  go_enter Tryz.func7, Tryz.ntmps7
  go_wp2_with (go_at_call 17; refine (isLabel_any _ _ hfr).mono ?_; rintro e w' ⟨rfl, rfl⟩; rw [hlab])
  go_loopw [4] (fun i wr => ∃ k : Nat, k ≤ n ∧ i = .int .i64 k ∧ Hid (∀ j, j < k → (ms.getD j dm).e = 0) ∧ Hid (Below W0.heap.size W0 wr)) (fun i _ => n - (intOf i).toNat)
  case atStart => exact ⟨0, Nat.zero_le _, rfl, fun j hj => by omega, by rw [hW0]; exact Below.refl _ _⟩
  case round =>
    obtain ⟨k, hk, rfl, HZ, HB⟩ := hrel
    have hx2 := HX.out wr HB.out
    have HBW : Hid (Below w.heap.size w wr) := HB0.out.trans (HB.out.mono (by omega))
    have hszr := HB.out.size
    by_cases hlt : k < n
    · obtain ⟨b, off, hp, hl, hr⟩ : ∃ b off, pa = some ⟨b, off, none⟩ ∧ b < w.heap.size ∧ Row w b off ms := by
        rcases HA.out with h | h
        · have := HN.out; rw [h] at this; simp at this; omega
        · exact h
      subst hp
      obtain ⟨c0, c1, c2', c3', c4'⟩ := (hr.later HBW.out hl) k (by rw [HN.out]; exact hlt)
      have hnm := HS.out k
      have HXE : Hid ((ms.getD k dm).e ≠ 0 → chkT ms = (ms.getD k dm).e) := fun h => chkT_e (by rw [HN.out]; exact hn5) (by rw [HN.out]; exact hlt) HZ.out h
      have HZ2 : Hid ((ms.getD k dm).e = 0 → ∀ j, j < k + 1 → (ms.getD j dm).e = 0) := fun h j hj => by
        by_cases e : j = k
        · subst e; exact h
        · exact HZ.out j (by omega)
      generalize (ms.getD k dm) = mk at *
      obtain ⟨nm, st, lf, ad, sv⟩ := mk
      simp only at c0 c1 c2' c3' c4' hnm HXE HZ2
      simp only [Mem.e] at HXE HZ2
      clear hr HZ
      have hkn : (k : Int) < n := by omega
      go_wp2_with fail
      refine (oneMember_any nm st lf ad sv _ hnm).mono ?_
      rintro e w1 ⟨rfl, rfl⟩
      by_cases he : oneE nm st lf ad = 0
      · have he' : (oneE nm st lf ad != 0) = false := by simpa using he
        have HZ3 : Hid (∀ j, j < k + 1 → (ms.getD j dm).e = 0) := HZ2.out he
        clear HXE HZ2 he
        generalize oneE nm st lf ad = me at *
        go_wp2_with fail
        go_roundw
        case rel => exact ⟨k + 1, by omega, by go_num, HZ3, HB.out.alloc hszr _⟩
        case measure => simp [intOf]; omega
      · have he' : (oneE nm st lf ad != 0) = true := by simpa using he
        have HR : Hid (chkT ms = oneE nm st lf ad) := HXE.out he
        clear HXE HZ2 he
        generalize oneE nm st lf ad = me at *
        go_wp2_with fail
        go_ret
        exact ⟨ret_int HR.out.symm, HBW.out.alloc HBW.out.size _⟩
    · have HZA : Hid (∀ j, j < ms.length → (ms.getD j dm).e = 0) := fun j hj => HZ.out j (by rw [HN.out] at hj; omega)
      clear HZ
      go_wp2_with fail
      go_loopw [6] (fun i wr => ∃ k : Nat, k ≤ n ∧ i = .int .i64 k ∧ Hid (∀ a b, a < b → b < k → (ms.getD a dm).name ≠ (ms.getD b dm).name) ∧ Hid (Below W0.heap.size W0 wr)) (fun i _ => n - (intOf i).toNat)
      case atStart => exact ⟨0, Nat.zero_le _, rfl, fun a b _ hb => by omega, HB⟩
      case round =>
        clear HB hlt hk hx2 HBW hszr
        obtain ⟨k3, hk, rfl, HZ, HB⟩ := hrel
        have hx2 := HX.out wr HB.out
        have HBW : Hid (Below w.heap.size w wr) := HB0.out.trans (HB.out.mono (by omega))
        by_cases hlt : k3 < n
        · obtain ⟨b, off, hp, hl, hr⟩ : ∃ b off, pa = some ⟨b, off, none⟩ ∧ b < w.heap.size ∧ Row w b off ms := by
            rcases HA.out with h | h
            · have := HN.out; rw [h] at this; simp at this; omega
            · exact h
          subst hp
          have HR : Hid (Row w b off ms) := hr
          clear hr
          go_wp2_with fail
          go_loopw [7] (fun i wr => ∃ k : Nat, k ≤ k3 ∧ i = .int .i64 k ∧ Hid (∀ a, a < k → (ms.getD a dm).name ≠ (ms.getD k3 dm).name) ∧ Hid (Below W0.heap.size W0 wr)) (fun i _ => k3 - (intOf i).toNat)
          case atStart => exact ⟨0, Nat.zero_le _, rfl, fun a ha => by omega, HB⟩
          case round =>
            clear HB hk hx2 HBW
            obtain ⟨k4, hk4, rfl, HY, HB⟩ := hrel
            have hx2 := HX.out wr HB.out
            have HBW : Hid (Below w.heap.size w wr) := HB0.out.trans (HB.out.mono (by omega))
            by_cases hlt4 : k4 < k3
            · obtain ⟨c0, _, _, _, _⟩ := (HR.out.later HBW.out hl) k4 (by rw [HN.out]; omega)
              obtain ⟨d0, _, _, _, _⟩ := (HR.out.later HBW.out hl) k3 (by rw [HN.out]; exact hlt)
              have HXE : Hid ((ms.getD k4 dm).name = (ms.getD k3 dm).name → chkT ms = 6) := fun h => chkT_twice (by rw [HN.out]; exact hn5) HZA.out (fun hd => hd k4 k3 hlt4 (by rw [HN.out]; exact hlt) h)
              have HY2 : Hid ((ms.getD k4 dm).name ≠ (ms.getD k3 dm).name → ∀ a, a < k4 + 1 → (ms.getD a dm).name ≠ (ms.getD k3 dm).name) := fun h a ha => by
                by_cases e : a = k4
                · subst e; exact h
                · exact HY.out a (by omega)
              have hbq := beq_names (ms.getD k4 dm).name (ms.getD k3 dm).name
              clear HY HZ
              generalize (ms.getD k4 dm).name = x4 at *
              generalize (ms.getD k3 dm).name = x3 at *
              by_cases hx : x4 = x3
              · have HE : Hid (chkT ms = 6) := HXE.out hx
                subst hx
                clear HXE HY2 hbq
                go_wp2_with fail
                go_quiet (fail)
                go_wp2_with fail
                go_ret
                exact ⟨ret_int HE.out.symm, below_drewN HBW.out _⟩
              · have HY3 : Hid (∀ a, a < k4 + 1 → (ms.getD a dm).name ≠ x3) := HY2.out hx
                rw [decide_eq_false hx] at hbq
                clear HXE HY2 hx
                go_wp2_with fail
                go_quiet (fail)
                go_wp2_with fail
                exact ⟨⟨k4 + 1, by omega, by go_num, HY3, below_drewN HB.out _⟩, by simp [intOf]; omega⟩
            · have HZ3 : Hid (∀ a b, a < b → b < k3 + 1 → (ms.getD a dm).name ≠ (ms.getD b dm).name) := fun a b hab hb => by
                by_cases e : b = k3
                · subst e; exact HY.out a (by omega)
                · exact HZ.out a b hab (by omega)
              clear HZ HY
              go_wp2_with fail
              exact ⟨⟨k3 + 1, by omega, by go_num, HZ3, HB⟩, by simp [intOf]; omega⟩
        · have HE : Hid (chkT ms = 0) := chkT_ok (by rw [HN.out]; exact hn5) HZA.out (fun a b hab hb => HZ.out a b hab (by rw [HN.out] at hb; omega))
          clear HZ
          go_wp2_with fail
          go_ret
          exact ⟨ret_int HE.out.symm, HBW.out⟩

set_option maxHeartbeats 6400000 in
set_option maxRecDepth 100000 in
theorem refPacket_any (p : Pk) (vm vs vg vw : Value) (w : World) (h : PkIs w p vm vs vg vw) :
    Calls Tryz.prog 7 #[.agg #[.string p.frm, .bool p.whole, vm, vs, vg, vw]] w fun e w' => e = .returned (.int .i64 p.e) ∧ Below w.heap.size w w' := by
  obtain ⟨frm, whole, ms, sv, gw, wh⟩ := p
  obtain ⟨hms, hsv, hgw, hwh, hfr, hroom⟩ := h
  simp only at hms hsv hgw hwh hfr ⊢
  have HMS : Hid (Sl w vm ms) := hms
  have HM1 : Hid (∀ W, Below w.heap.size w W → Calls Tryz.prog 18 #[vm] W fun e w' => e = .returned (.int .i64 (chk ms)) ∧ Below W.heap.size W w') := fun W hW => checkMembers_any ms vm W (hms.below hW)
  have HS : Hid (∀ W, Below w.heap.size w W → Calls Tryz.prog 19 #[vs] W fun e w' => e = .returned (.int .i64 (Sv.chk sv)) ∧ Below W.heap.size W w') := fun W hW => Sv.refCheck_any sv vs W (hsv.below hW)
  have HG : Hid (∀ W, Below w.heap.size w W → Calls Tryz.prog 20 #[vg] W fun e w' => e = .returned (.int .i64 (Gw.chk gw)) ∧ Below W.heap.size W w') := fun W hW => Gw.refCheck_any gw vg W (hgw.below hW)
  have HW : Hid (∀ W, Below w.heap.size w W → Calls Tryz.prog 21 #[vw] W fun e w' => e = .returned (.int .i64 (Wh.chk wh)) ∧ Below W.heap.size W w') := fun W hW => Wh.refCheck_any wh vw W (hwh.below hW)
  have HE : Hid (Pk.e ⟨frm, whole, ms, sv, gw, wh⟩ = if (labB frm && (whole || (decide (sv.length = 0) && (decide (gw.length = 0) && decide (wh.length = 0))))) = true then
    (if (if whole = true then chk ms else chkT ms) = 0 then (if Sv.chk sv = 0 then (if Gw.chk gw = 0 then Wh.chk wh else Gw.chk gw) else Sv.chk sv) else (if whole = true then chk ms else chkT ms)) else 1) := by
    show Pk.e _ = _
    rw [← isEmpty_len, ← isEmpty_len, ← isEmpty_len]; rfl
  generalize Pk.e ⟨frm, whole, ms, sv, gw, wh⟩ = res at *
  obtain ⟨a2, c2, rfl, _, _⟩ := hsv
  obtain ⟨a3, c3, rfl, _, _⟩ := hgw
  obtain ⟨a4, c4, rfl, _, _⟩ := hwh
  have HZ2 : Hid (sv.length = 0 → Sv.chk sv = 0) := fun h => by rw [List.eq_nil_of_length_eq_zero h]; rfl
  have HZ3 : Hid (gw.length = 0 → Gw.chk gw = 0) := fun h => by rw [List.eq_nil_of_length_eq_zero h]; rfl
  have HZ4 : Hid (wh.length = 0 → Wh.chk wh = 0) := fun h => by rw [List.eq_nil_of_length_eq_zero h]; rfl
  clear hms
  generalize Sv.chk sv = se at *
  generalize Gw.chk gw = ge at *
  generalize Wh.chk wh = we at *
  generalize chk ms = m1 at *
  generalize sv.length = n2 at *
  generalize gw.length = n3 at *
  generalize wh.length = n4 at *
  rcases hlab : labB frm with _ | _
  · have HR : Hid (res = 1) := HE.out.trans (by rw [hlab]; rfl)
    go_enter Tryz.func7, Tryz.ntmps7
    go_wp2_with (go_at_call 17; refine (isLabel_any _ _ hfr).mono ?_; rintro e w' ⟨rfl, rfl⟩; rw [hlab])
    go_ret
    exact ⟨ret_int HR.out.symm, (Below.refl _ _).alloc (Nat.le_refl _) _⟩
  cases whole
  · by_cases hal : n2 = 0 ∧ n3 = 0 ∧ n4 = 0
    · obtain ⟨rfl, rfl, rfl⟩ := hal
      refine (refTold_any frm ms a2 a3 a4 c2 c3 c4 vm w HMS.out hfr hlab).mono ?_
      rintro e w' ⟨rfl, hb⟩
      refine ⟨ret_int ?_, hb⟩
      rw [HE.out, hlab, HZ2.out rfl, HZ3.out rfl, HZ4.out rfl]
      simp only [Bool.true_and, Bool.false_or, decide_true, if_true, Bool.false_eq_true, if_false]
      split
      · rename_i h; exact h
      · rfl
    · have HR : Hid (res = 1) := HE.out.trans (by
        rw [hlab, if_neg]
        simp only [Bool.true_and, Bool.false_or, Bool.and_eq_true, decide_eq_true_eq]
        exact hal)
      have h3 : 0 < n2 ∨ (n2 = 0 ∧ 0 < n3) ∨ (n2 = 0 ∧ n3 = 0 ∧ 0 < n4) := by omega
      clear hal
      rcases h3 with h | ⟨rfl, h⟩ | ⟨rfl, rfl, h⟩
      all_goals
        go_enter Tryz.func7, Tryz.ntmps7
        go_wp2_with (go_at_call 17; refine (isLabel_any _ _ hfr).mono ?_; rintro e w' ⟨rfl, rfl⟩; rw [hlab])
        go_ret
        exact ⟨ret_int HR.out.symm, (Below.refl _ _).alloc (Nat.le_refl _) _⟩
  · have HE2 : Hid (res = if m1 = 0 then (if se = 0 then (if ge = 0 then we else ge) else se) else m1) := HE.out.trans (by rw [hlab]; rfl)
    clear HE
    obtain ⟨W0, hW0⟩ : ∃ W0, W0 = w.alloc (.cells #[.string frm, .bool true, vm, .slice a2 n2 c2, .slice a3 n3 c3, .slice a4 n4 c4] 27) := ⟨_, rfl⟩
    have hb0 : Below w.heap.size w W0 := by rw [hW0]; exact (Below.refl _ _).alloc (Nat.le_refl _) _
    have hg0 : W0.heap[w.heap.size]? = some (.cells #[.string frm, .bool true, vm, .slice a2 n2 c2, .slice a3 n3 c3, .slice a4 n4 c4] 27 (0, 0)) := by rw [hW0]; exact heap_alloc_new w _
    have hs0 : w.heap.size < W0.heap.size := by rw [hW0]; simp
    have HB0 : Hid (Below w.heap.size w W0) := hb0
    have HX : Hid (∀ W, Below W0.heap.size W0 W → (W.cell? ⟨w.heap.size, 2, none⟩ = some vm ∧ W.cell? ⟨w.heap.size, 3, none⟩ = some (.slice a2 n2 c2) ∧ W.cell? ⟨w.heap.size, 4, none⟩ = some (.slice a3 n3 c3) ∧ W.cell? ⟨w.heap.size, 5, none⟩ = some (.slice a4 n4 c4)) ∧ Below w.heap.size w W) := fun W hW =>
      have hg := (hW.block _ hs0).trans hg0
      ⟨⟨cellsAt hg 2, cellsAt hg 3, cellsAt hg 4, cellsAt hg 5⟩, hb0.trans (hW.mono (by omega))⟩
    have HX1 : Hid (∀ W W', Below W0.heap.size W0 W → Below W.heap.size W W' → Below W0.heap.size W0 W') := fun W W' h1 h2 => h1.trans (h2.mono h1.size)
    clear hb0 hg0
    go_enter Tryz.func7, Tryz.ntmps7
    go_wp2_with (first | (go_at_call 17; refine (isLabel_any _ _ hfr).mono ?_; rintro e w' ⟨rfl, rfl⟩; rw [hlab]) | fail)
    rw [← hW0]
    refine (HM1.out _ HB0.out).mono ?_
    rintro e w1 ⟨rfl, hb1⟩
    obtain ⟨⟨x2, x3, x4, x5⟩, hbw1⟩ := HX.out w1 hb1
    have HB1 : Hid (Below W0.heap.size W0 w1) := hb1
    have HBW1 : Hid (Below w.heap.size w w1) := hbw1
    clear hb1 hbw1
    by_cases hm : m1 = 0
    · subst hm
      go_wp2_with fail
      refine (HS.out _ HBW1.out).mono ?_
      rintro e w2 ⟨rfl, hb2⟩
      have HB2 : Hid (Below W0.heap.size W0 w2) := HX1.out _ _ HB1.out hb2
      clear x2 x3 x4 x5 hb2
      obtain ⟨⟨x2, x3, x4, x5⟩, hbw2⟩ := HX.out w2 HB2.out
      have HBW2 : Hid (Below w.heap.size w w2) := hbw2
      clear hbw2
      by_cases hse : se = 0
      · subst hse
        go_wp2_with fail
        refine (HG.out _ HBW2.out).mono ?_
        rintro e w3 ⟨rfl, hb3⟩
        have HB3 : Hid (Below W0.heap.size W0 w3) := HX1.out _ _ HB2.out hb3
        clear x2 x3 x4 x5 hb3
        obtain ⟨⟨x2, x3, x4, x5⟩, hbw3⟩ := HX.out w3 HB3.out
        have HBW3 : Hid (Below w.heap.size w w3) := hbw3
        clear hbw3
        by_cases hge : ge = 0
        · subst hge
          go_wp2_with fail
          refine (HW.out _ HBW3.out).mono ?_
          rintro e w4 ⟨rfl, hb4⟩
          have HBW4 : Hid (Below w.heap.size w w4) := HBW3.out.trans (hb4.mono HBW3.out.size)
          clear hb4
          go_wp2_with fail
          go_ret
          exact ⟨ret_int HE2.out.symm, HBW4.out⟩
        · have hge' : (ge == 0) = false := by simpa using hge
          have HR : Hid (res = ge) := HE2.out.trans (by simp [hge])
          clear hge
          go_wp2_with fail
          go_ret
          exact ⟨ret_int HR.out.symm, HBW3.out⟩
      · have hse' : (se == 0) = false := by simpa using hse
        have HR : Hid (res = se) := HE2.out.trans (by simp [hse])
        clear hse
        go_wp2_with fail
        go_ret
        exact ⟨ret_int HR.out.symm, HBW2.out⟩
    · have hm' : (m1 == 0) = false := by simpa using hm
      have HR : Hid (res = m1) := HE2.out.trans (if_neg hm)
      clear hm
      go_wp2_with fail
      go_ret
      exact ⟨ret_int HR.out.symm, HBW1.out⟩

end Go.Proofs.YtdfkpehggecbaaaGreatDoor

