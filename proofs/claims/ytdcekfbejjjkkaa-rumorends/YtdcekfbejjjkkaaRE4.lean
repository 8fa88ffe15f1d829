
/- The law RumorEnds, of rumors that are right. -/
import Derived.Test.YtdcekfbejjjkkaaRE3
namespace Go.Proofs.Ytdcekfbejjjkkaa
open Go.RowKit

theorem madeI (w : World) (n j : Nat) (hj : j < n) : (w.alloc (.cells (madeCells #[Value.int .i64 0] n) 3)).cell? ⟨w.heap.size, j, none⟩ = some (.int .i64 0) := by
  rw [cell_top' rfl]
  rw [← Array.getElem?_toList, toList_madeCells_one]
  simp [hj]
theorem told_made (w : World) (n : Nat) (hn : n ≤ 1000) : ToldIn (w.alloc (.cells (madeCells #[Value.int .i64 0] n) 3)) w.heap.size n (List.replicate n 0) := by
  refine ⟨fun j hj => ?_, fun o => World.ownsRow.frozenAt (World.ownsRow_made (base := 0) (e := 3) (size := 1) w (madeCells #[Value.int .i64 0] n) n (Nat.zero_le _) (by unfold maxLen; omega) (by rw [size_madeCells, Nat.mul_one])) o⟩
  rw [madeI w n j hj]
  have : (List.replicate n 0).getD j 0 = 0 := by simp [List.getD, List.getElem?_replicate]; split <;> rfl
  rw [this]; rfl
theorem eqlM (m1 m2 : Mem) (w : World) : Sem.run Try.prog (binOp .eql 24 (.agg #[.string m1.name, .int .i64 m1.state, .int .i64 m1.life, .int .i64 m1.addr, .bool m1.server]) (.agg #[.string m2.name, .int .i64 m2.state, .int .i64 m2.life, .int .i64 m2.addr, .bool m2.server])) w = .ok (.bool (sameM m1 m2)) w := by
  rw [run_eql_struct, eqIn24]
  rfl

theorem now_ok {rs : List Rum} (h : ∀ j, (rs.getD j dr).m.name.size ≤ maxLen) (c ix : List Nat) : ∀ j, ((nowL rs c ix).getD j dr).m.name.size ≤ maxLen := fun j => by
  by_cases hj : j < ix.length
  · rw [nowL_get hj]; exact h _
  · rw [show (nowL rs c ix).getD j dr = dr by simp [List.getD, List.getElem?_eq_none (by rw [nowL_len]; omega : (nowL rs c ix).length ≤ j)]]
    exact Nat.zero_le _
theorem ToldIn.bump {w : World} {g n b : Nat} {c : List Nat} (h : ToldIn w g n c) (hb : b < n) (hc : c.length = n) : ToldIn (w.setCell ⟨g, b, none⟩ (.int .i64 ((c.getD b 0 : Nat) + 1))) g n (up c b) := by
  refine ⟨fun j hj => ?_, fun o => ?_⟩
  · by_cases hjb : j = b
    · subst hjb
      rw [up_same (by rw [hc]; exact hj)]
      have h1 := h.1 j hj
      rw [World.cell?_setCell_same _ _ _ h1]
      simp
    · rw [up_other hjb, World.cell?_setCell_other _ _ _ _ (fun e => hjb (by simpa using e.symm))]
      exact h.1 j hj
  · rw [World.frozen?_setCell]; exact h.2 o

set_option maxHeartbeats 6400000 in
set_option maxRecDepth 100000 in
theorem ends_good (rs : List Rum) (v : Value) (most times : Int) (w : World) (hv : RSl w v rs) (hm1 : -9223372036854775808 ≤ most) (hm2 : most ≤ 9223372036854775807) (ht1 : -9223372036854775808 ≤ times) (ht2 : times ≤ 9223372036854775807) (h0 : chkR rs = 0) :
    Calls Try.prog 6 #[v, .int .i64 most, .int .i64 times] w fun e w' => e = .returned (.bool true) ∧ Below w.heap.size w w' := by
  obtain ⟨l0, hl0, hm0, hms, hmb⟩ := info_parts Try.infoI
  have HV : Hid (RSl w v rs) := hv
  have HC0 : Hid (chkR rs = 0) := h0
  obtain ⟨hn20, _, htold, hdist⟩ := chkR_zero h0
  have HTO : Hid (AllTold rs) := htold
  have HDI : Hid (Distinct rs) := hdist
  have HOK : Hid (∀ j, (rs.getD j dr).m.name.size ≤ maxLen) := by obtain ⟨_, _, _, h, _⟩ := hv; exact h
  obtain ⟨pa, ca, rfl, _, _⟩ := hv
  clear h0 htold hdist
  generalize hN : rs.length = n at *
  have HN : Hid (rs.length = n) := hN
  clear hN
  go_enter Try.func6, Try.ntmps6
  go_wp2_with fail
  refine (rumorBegun_any _).mono ?_
  rintro e w1 ⟨rfl, hb1⟩
  have HB1 : Hid (Below w.heap.size w w1) := hb1
  clear hb1
  go_wp2_with fail
  refine (choose_any _ _ _ hm1 hm2 (by omega) (by omega)).mono ?_
  rintro e w' ⟨r1, rfl, g1, g2, hw⟩
  have hw2 := hw.symm
  clear hw
  subst hw2
  go_wp2_with fail
  refine (choose_any _ _ _ ht1 ht2 (by omega) (by omega)).mono ?_
  rintro e w' ⟨r2, rfl, g3, g4, hw⟩
  have hw2 := hw.symm
  clear hw
  subst hw2
  have hmk := run_make (P := Try.prog) w1 45 3 l0 (.int .i64 0) Try.underlying45 hl0 hm0 .i64 .i64 n n (by omega) (by omega) (by rw [hmb]; omega) (by omega)
  rw [hms, Nat.mul_one, Int.toNat_natCast, show (Value.int .i64 0).cells = #[Value.int .i64 0] from rfl] at hmk
  have HB2 : Hid (Below w.heap.size w (w1.alloc (.cells (madeCells #[Value.int .i64 0] n) 3))) := HB1.out.trans (((Below.refl w1.heap.size w1).alloc (Nat.le_refl _) _).mono HB1.out.size)
  have HT2 : Hid (ToldIn (w1.alloc (.cells (madeCells #[Value.int .i64 0] n) 3)) w1.heap.size n (List.replicate n 0)) := told_made w1 n (by omega)
  have hz2 : (w1.alloc (.cells (madeCells #[Value.int .i64 0] n) 3)).heap.size = w1.heap.size + 1 := by simp
  have hz1 : w.heap.size ≤ w1.heap.size := HB1.out.size
  go_wp2_with fail
  generalize w1.alloc (.cells (madeCells #[Value.int .i64 0] n) 3) = w2 at *
  clear hmk HB1
  generalize w1.heap.size = g at *
  clear w1
  go_loopw [8, 9] (fun nv i wr => ∃ (r : Nat) (c ix : List Nat), i = .int .i64 r ∧ Hid (EInv rs (1 + r2) c ix (decide (r = 0))) ∧ Hid (RSl wr nv (nowL rs c ix)) ∧ Hid (chkR (nowL rs c ix) = 0) ∧ Hid (r ≤ c.sum) ∧ Hid (ToldIn wr g n c) ∧ Hid (Below w.heap.size w wr) ∧ g < wr.heap.size) (fun _ i _ => 241 - (intOf i).toNat)
  case atStart =>
    refine ⟨0, List.replicate n 0, List.range n, rfl, ?_, ?_, ?_, Nat.zero_le _, HT2, HB2, by omega⟩
    · rw [← HN.out]; exact EInv.start rs _
    · have h := now_start rs; rw [HN.out] at h; rw [h]; exact HV.out.below HB2.out
    · have h := now_start rs; rw [HN.out] at h; rw [h]; exact HC0.out
  case round =>
    obtain ⟨r, c, ix, rfl, HE, HNOW, HCK, HSUM, HTI, HB, hg⟩ := hrel
    have hr240 : r ≤ 240 := by have h1 := HE.out.sum HC0.out (by omega); have h2 := HSUM.out; omega
    have hcl : c.length = n := by rw [← HN.out]; exact HE.out.len
    have hwm : within (1 + r1) 1 20 = true := by simp [within]; omega
    have hwt : within (1 + r2) 1 100 = true := by simp [within]; omega
    go_wp2_with fail
    refine (take_step HE.out HCK.out HNOW.out hwm hwt).mono ?_
    rintro e w3 ⟨v1, v2, B, rfl, hBl, hBm, hBp, hE2, hO1, hO2, hb3⟩
    obtain ⟨a1, cp1, hv1⟩ := hO1.slice
    obtain ⟨a2, cp2, hv2⟩ := hO2.slice
    subst hv1 hv2
    have hB2 : Below wr.heap.size wr w3 := hb3
    have hs3 := hb3.size
    have HB3 : Hid (Below w.heap.size w w3) := HB.out.trans (hb3.mono HB.out.size)
    have HT3 : Hid (ToldIn w3 g n c) := HTI.out.below hg hb3
    have HO1 : Hid (Own wr.heap.size w3 (.slice a1 B.length cp1) (B.map fun i => (rs.getD i dr).m)) := by
      show World.ownsRow _ _ _ _ _ _ _
      have h : World.ownsRow _ _ _ _ _ _ _ := hO1
      rw [List.length_map] at h ⊢
      exact h
    have HCK2 : Hid (chkR (nowL rs (ups c B) (nextIx rs (1 + r2) (ups c B) ix)) = 0) := hE2.chk HC0.out (by omega)
    have HBL : Hid (∀ i ∈ B, i < rs.length) := hBl
    have HIX : Hid (nextIx rs (1 + r2) (ups c B) ix ≠ [] → ix ≠ []) := fun h e => h (by rw [e]; rfl)
    have HE2 : Hid (EInv rs (1 + r2) (ups c B) (nextIx rs (1 + r2) (ups c B) ix) false) := hE2
    have HBP : Hid (ix ≠ [] → 0 < B.length) := hBp
    have HL1 : Hid ((B.map fun i => (rs.getD i dr).m).length = B.length) := List.length_map _
    have HO2 : Hid (ROwn wr.heap.size w3 (.slice a2 (nowL rs (ups c B) (nextIx rs (1 + r2) (ups c B) ix)).length cp2) (nowL rs (ups c B) (nextIx rs (1 + r2) (ups c B) ix))) := hO2
    have HNO : Hid (∀ j, ((nowL rs (ups c B) (nextIx rs (1 + r2) (ups c B) ix)).getD j dr).m.name.size ≤ maxLen) := now_ok HOK.out _ _
    have HNL : Hid ((nowL rs (ups c B) (nextIx rs (1 + r2) (ups c B) ix)).length = (nextIx rs (1 + r2) (ups c B) ix).length) := nowL_len _ _ _
    clear hO1 hO2 hb3 hB2 hBl hE2 hBp
    rw [List.length_map]
    generalize nextIx rs (1 + r2) (ups c B) ix = ix2 at *
    generalize hL2 : nowL rs (ups c B) ix2 = L2 at *
    have HL2 : Hid (nowL rs (ups c B) ix2 = L2) := hL2
    clear hL2
    have hbl20 : B.length ≤ 20 := by omega
    generalize hbl : B.length = bl at *
    have HBN : Hid (B.length = bl) := hbl
    clear hbl
    generalize hll : L2.length = ll at *
    have HLL : Hid (L2.length = ll) := hll
    clear hll
    have HCH : Hid (∀ W, RSl W (.slice a2 ll cp2) L2 → Calls Try.prog 12 #[.slice a2 ll cp2] W fun e w' => e = .returned (.int .i64 0) ∧ Below W.heap.size W w') := fun W h => by
      have h2 := checkR_any L2 _ W h
      rw [HCK2.out] at h2
      exact h2
    have HS3 : Hid (RSl w3 (.slice a2 ll cp2) L2) := HO2.out.sl HNO.out
    go_wp2_with fail
    refine (HCH.out _ HS3.out).mono ?_
    rintro e w4 ⟨rfl, hb4⟩
    have HB4 : Hid (Below w.heap.size w w4) := HB3.out.trans (hb4.mono HB3.out.size)
    have HT4 : Hid (ToldIn w4 g n c) := HT3.out.below (by omega) hb4
    have HP1 : Hid (Own wr.heap.size w4 (.slice a1 bl cp1) (B.map fun i => (rs.getD i dr).m)) := HO1.out.below hb4
    have HP2 : Hid (ROwn wr.heap.size w4 (.slice a2 ll cp2) L2) := HO2.out.below hb4
    have hs4 : wr.heap.size ≤ w4.heap.size := by have := hb4.size; omega
    clear hb4 HO1 HO2 HT3 HB3 HS3 HCH hs3
    go_wp2_with fail
    generalize hW0 : wr.heap.size = base at *
    clear hW0
    go_loopw [13] (fun kv wx => ∃ k : Nat, k ≤ bl ∧ kv = .int .i64 k ∧ Hid (ToldIn wx g n (ups c (B.take k))) ∧ Hid (Own base wx (.slice a1 bl cp1) (B.map fun i => (rs.getD i dr).m)) ∧ Hid (ROwn base wx (.slice a2 ll cp2) L2) ∧ Hid (Below w.heap.size w wx) ∧ base ≤ wx.heap.size) (fun kv _ => bl - (intOf kv).toNat)
    case atStart => exact ⟨0, Nat.zero_le _, rfl, HT4, HP1, HP2, HB4, hs4⟩
    case round =>
      obtain ⟨k, hk, rfl, HTX, HX1, HX2, HBX, hbx⟩ := hrel
      by_cases hkl : k < bl
      · have hbk : B.getD k 0 < n := by
          rw [← HN.out]
          refine HBL.out _ ?_
          rw [ixget (by rw [HBN.out]; exact hkl)]
          exact List.getElem_mem _
        have HML : Hid ((B.map fun i => (rs.getD i dr).m).getD k dm = (rs.getD (B.getD k 0) dr).m) := by
          show _ = _
          simp [List.getD, List.getElem?_eq_getElem (show k < B.length by rw [HBN.out]; exact hkl)]
        obtain ⟨gm, hgm⟩ : ∃ gm, a1 = some ⟨gm, 0, none⟩ := by
          obtain ⟨gm, cm, h⟩ := own_form HX1.out k (by rw [HL1.out]; exact hkl)
          simp only [Value.slice.injEq] at h
          exact ⟨gm, h.1⟩
        subst hgm
        obtain ⟨b0, off, hpa, hlt, hr⟩ : ∃ b off, pa = some ⟨b, off, none⟩ ∧ b < w.heap.size ∧ RRow w b off rs := by
          obtain ⟨a, cc, h1, _, h2⟩ := HV.out
          simp only [Value.slice.injEq] at h1
          obtain ⟨rfl, _, _⟩ := h1
          rcases h2 with h2 | h2
          · have := HN.out; rw [h2] at this; simp at this; omega
          · exact h2
        subst hpa
        have HRR : Hid (RRow w b0 off rs) := hr
        clear hr
        obtain ⟨wo, hwo⟩ : ∃ wo, wo = wr := ⟨_, rfl⟩
        subst hwo
        have HMC : Hid (∀ W, Below wo.heap.size wo W → W.cell? ⟨gm, k * 5, none⟩ = some (.string (rs.getD (B.getD k 0) dr).m.name) ∧ W.cell? ⟨gm, k * 5 + 1, none⟩ = some (.int .i64 (rs.getD (B.getD k 0) dr).m.state) ∧ W.cell? ⟨gm, k * 5 + 2, none⟩ = some (.int .i64 (rs.getD (B.getD k 0) dr).m.life) ∧ W.cell? ⟨gm, k * 5 + 3, none⟩ = some (.int .i64 (rs.getD (B.getD k 0) dr).m.addr) ∧ W.cell? ⟨gm, k * 5 + 4, none⟩ = some (.bool (rs.getD (B.getD k 0) dr).m.server)) := fun W hW => by
          have h := own_cells (ms := B.map fun i => (rs.getD i dr).m) (by rw [HL1.out]; exact HX1.out.below hW) k (by rw [HL1.out]; exact hkl)
          rw [HML.out] at h
          exact h
        have HRC : Hid (∀ W, Below wo.heap.size wo W → RRow W b0 off rs) := fun W hW => (HRR.out.below HBX.out hlt).below hW (Nat.lt_of_lt_of_le hlt HBX.out.size)
        have HEQ : Hid (∀ j, j < n → j ≠ B.getD k 0 → sameM (rs.getD j dr).m (rs.getD (B.getD k 0) dr).m = false) := fun j hj hne => by
          cases hs : sameM (rs.getD j dr).m (rs.getD (B.getD k 0) dr).m
          · rfl
          · have h := (sameM_iff _ _).1 hs
            exact absurd (dist_ne HDI.out (by rw [HN.out]; exact hj) (by rw [HN.out]; exact hbk) (by rw [h])) hne
        have HES : Hid (sameM (rs.getD (B.getD k 0) dr).m (rs.getD (B.getD k 0) dr).m = true) := (sameM_iff _ _).2 rfl
        have HUP : Hid (ups c (B.take (k + 1)) = up (ups c (B.take k)) (B.getD k 0)) := ups_snoc (by rw [HBN.out]; exact hkl)
        have HUL : Hid ((ups c (B.take k)).length = n) := (ups_len _ _).trans hcl
        have hc12 : (ups c (B.take k)).getD (B.getD k 0) 0 ≤ 260 := by
          have h1 := getD_le_sum (ups c (B.take k)) (B.getD k 0)
          have h2 := ups_sum (B.take k) c (fun i hi => by rw [hcl, ← HN.out]; exact HBL.out i (List.mem_of_mem_take hi))
          have h3 := HE.out.sum HC0.out (by omega)
          have h4 : (B.take k).length ≤ k := List.length_take_le _ _
          omega
        clear HML
        generalize hbb : B.getD k 0 = b at *
        clear hbb
        have hlo := HBX.out.size
        go_wp2_with fail
        go_loopw [14, 15] (fun x y wx => Hid (Below wo.heap.size wo wx) ∧ ∃ (j : Nat) (z : Int), j ≤ n ∧ x = .int .i64 z ∧ y = .int .i64 j ∧ Hid (z = if b < j then (b : Int) else -1)) (fun _ y _ => n - (intOf y).toNat)
        case atStart => exact ⟨Below.refl _ _, 0, -1, Nat.zero_le _, rfl, rfl, rfl⟩
        case round =>
          obtain ⟨HX, j, z, hj, rfl, rfl, HZ⟩ := hrel
          have HXN : Hid (∀ m, Below wo.heap.size wo (wr.drewN m)) := fun m => HX.out.trans ((rbelow_drewN wr m).mono HX.out.size)
          by_cases hjn : j < n
          · obtain ⟨d0, d1, d2, d3, d4⟩ := HMC.out wr HX.out
            obtain ⟨c0, c1, c2, c3, c4, _⟩ := HRC.out wr HX.out j (by rw [HN.out]; exact hjn)
            have hg5 : Try.prog.eqGuardType Try.prog.depth 24 = false := by kernel_rfl
            have heql := eqlM (rs.getD j dr).m (rs.getD b dr).m
            by_cases hjb : j = b
            · have HZ2 : Hid ((j : Int) = if b < j + 1 then (b : Int) else -1) := by
                show (j : Int) = if b < j + 1 then (b : Int) else -1
                rw [if_pos (by omega), hjb]
              rw [hjb] at c0 c1 c2 c3 c4 heql
              rw [HES.out] at heql
              generalize (rs.getD b dr).m = m2 at *
              have HJB : Hid (j = b) := hjb
              rw [← hjb] at c0 c1 c2 c3 c4
              clear hjb
              go_wp2_with fail
              go_quiet (fail)
              go_wp2_with fail
              exact ⟨⟨HXN.out _, j + 1, j, by omega, rfl, by go_num, HZ2⟩, by simp [intOf]; omega⟩
            · have HZ2 : Hid (z = if b < j + 1 then (b : Int) else -1) := by
                show z = if b < j + 1 then (b : Int) else -1
                rw [HZ.out]
                by_cases hl : b < j
                · rw [if_pos hl, if_pos (by omega)]
                · rw [if_neg hl, if_neg (by omega)]
              rw [HEQ.out j hjn hjb] at heql
              generalize (rs.getD b dr).m = m2 at *
              generalize (rs.getD j dr).m = m1 at *
              clear hjb
              go_wp2_with fail
              go_quiet (fail)
              go_wp2_with fail
              exact ⟨⟨HXN.out _, j + 1, z, by omega, rfl, by go_num, HZ2⟩, by simp [intOf]; omega⟩
          · have hzb : z = (b : Int) := by rw [HZ.out, if_pos (by omega)]
            subst hzb
            have HTW : Hid (ToldIn wr g n (ups c (B.take k))) := HTX.out.below (by omega) HX.out
            have tc := HTW.out.1 b hbk
            have tf := HTW.out.2 b
            have HT5 : Hid (ToldIn (wr.setCell ⟨g, b, none⟩ (.int .i64 (((ups c (B.take k)).getD b 0 : Nat) + 1))) g n (ups c (B.take (k + 1)))) := by
              show ToldIn _ _ _ _
              rw [HUP.out]; exact HTW.out.bump hbk HUL.out
            have HY1 : Hid (Own base (wr.setCell ⟨g, b, none⟩ (.int .i64 (((ups c (B.take k)).getD b 0 : Nat) + 1))) (.slice (some ⟨gm, 0, none⟩) bl cp1) (B.map fun i => (rs.getD i dr).m)) := ownsRow_setCell_below (HX1.out.below HX.out) (a := ⟨g, b, none⟩) hg _
            have HY2 : Hid (ROwn base (wr.setCell ⟨g, b, none⟩ (.int .i64 (((ups c (B.take k)).getD b 0 : Nat) + 1))) (.slice a2 ll cp2) L2) := ownsRow_setCell_below (HX2.out.below HX.out) (a := ⟨g, b, none⟩) hg _
            have HYB : Hid (Below w.heap.size w (wr.setCell ⟨g, b, none⟩ (.int .i64 (((ups c (B.take k)).getD b 0 : Nat) + 1)))) := (HBX.out.trans (HX.out.mono HBX.out.size)).setCell (p := ⟨g, b, none⟩) hz1 _
            have hbs : base ≤ (wr.setCell ⟨g, b, none⟩ (.int .i64 (((ups c (B.take k)).getD b 0 : Nat) + 1))).heap.size := by have := HX.out.size; simp; omega
            generalize (ups c (B.take k)).getD b 0 = cb at *
            go_wp2_with fail
            exact ⟨⟨k + 1, by omega, by go_num, HT5, HY1, HY2, HYB, hbs⟩, by simp [intOf]; omega⟩
      · have hkb : k = bl := by omega
        subst hkb
        have HTE : Hid (ToldIn wr g n (ups c B)) := by
          have h := HTX.out
          rw [List.take_of_length_le (by rw [HBN.out]; omega)] at h
          exact h
        by_cases hll0 : ll = 0
        · subst hll0
          have HI2 : Hid (ix2 = []) := by
            have h1 := HNL.out
            exact List.length_eq_zero_iff.1 h1.symm
          have HEF : Hid (EInv rs (1 + r2) (ups c B) [] false) := by have h := HE2.out; rw [HI2.out] at h; exact h
          go_wp2_with fail
          obtain ⟨wo, hwo⟩ : ∃ wo, wo = wr := ⟨_, rfl⟩
          subst hwo
          go_loopw [16] (fun iv wx => ∃ i : Nat, i ≤ n ∧ iv = .int .i64 i ∧ Hid (Below wo.heap.size wo wx)) (fun iv _ => n - (intOf iv).toNat)
          case atStart => exact ⟨0, Nat.zero_le _, rfl, Below.refl _ _⟩
          case round =>
            obtain ⟨i, hi, rfl, HX⟩ := hrel
            by_cases hin : i < n
            · obtain ⟨b0, off, hpa, hlt, hr⟩ : ∃ b off, pa = some ⟨b, off, none⟩ ∧ b < w.heap.size ∧ RRow w b off rs := by
                obtain ⟨a, cc, h1, _, h2⟩ := HV.out
                simp only [Value.slice.injEq] at h1
                obtain ⟨rfl, _, _⟩ := h1
                rcases h2 with h2 | h2
                · have := HN.out; rw [h2] at this; simp at this; omega
                · exact h2
              subst hpa
              have HBY : Hid (Below w.heap.size w wr) := HBX.out.trans (HX.out.mono HBX.out.size)
              obtain ⟨_, _, _, _, _, c5⟩ := (hr.below HBY.out hlt) i (by rw [HN.out]; exact hin)
              have tc := (HTE.out.below (by omega) HX.out).1 i hin
              obtain ⟨f1, f2⟩ := HEF.out.fin (i := i) (by rw [HN.out]; exact hin)
              have hti := HTO.out i (by rw [HN.out]; exact hin)
              obtain ⟨ht3, ht4⟩ := within_bd hti
              clear hti hr
              generalize (rs.getD i dr).told = td at *
              generalize (ups c B).getD i 0 = ci at *
              have hA : decide (max 1 (1 + r2 - td) < (ci : Int)) = false := by simp; omega
              have HBE : Hid (∀ m, Below wo.heap.size wo (wr.drewN m)) := fun m => HX.out.trans ((rbelow_drewN wr m).mono HX.out.size)
              by_cases hw0 : 0 < 1 + r2 - td
              · have hwc : ((ci : Int) != 1 + r2 - td) = false := by have := f2 hw0; simp; omega
                have hw1 : decide (0 < 1 + r2 - td) = true := by simpa using hw0
                clear f1 f2
                go_wp2_with fail
                exact ⟨⟨i + 1, by omega, by first | omega | go_num⟩, by simp [intOf]; omega⟩
              · have hw1 : decide (0 < 1 + r2 - td) = false := by simpa using hw0
                clear f1 f2
                go_wp2_with fail
                exact ⟨⟨i + 1, by omega, by first | omega | go_num⟩, by simp [intOf]; omega⟩
            · go_wp2_with fail
              go_ret
              exact ⟨rfl, HBX.out.trans (HX.out.mono HBX.out.size)⟩
        · have hi2 : ix2 ≠ [] := fun e => by
            have h1 := HNL.out
            rw [e] at h1
            exact hll0 h1
          have HSM : Hid (r + 1 ≤ (ups c B).sum) := by
            show r + 1 ≤ (ups c B).sum
            have h1 := HBP.out (HIX.out hi2)
            have h2 := HBN.out
            rw [ups_sum B c (fun i hi => by rw [hcl, ← HN.out]; exact HBL.out i hi)]
            have h3 := HSUM.out
            omega
          have HNW : Hid (RSl wr (.slice a2 ll cp2) L2) := HX2.out.sl HNO.out
          go_wp2_with fail
          exact ⟨⟨r + 1, ups c B, ix2, by go_num, HE2, by rw [HL2.out]; exact HNW.out, by rw [HL2.out]; exact HCK2.out, HSM, HTE, HBX, by omega⟩, by simp [intOf]; omega⟩

end Go.Proofs.Ytdcekfbejjjkkaa
