
/- Take of some rumors, once it is known whose turn it is. -/
import Derived.Test.YtdcekfbejjjkkaaRU14
namespace Go.Proofs.Ytdcekfbejjjkkaa
open Go.RowKit

def TurnsSays (rs : List Rum) (v : Value) : Prop := ∀ w, RSl w v rs → Calls Try.prog 30 #[v] w fun e w' => ∃ (g c : Nat) (ord : List Nat), e = .returned (.slice (some ⟨g, 0, none⟩) rs.length c) ∧ IsOrd rs ord ∧ (∀ j, j < rs.length → w'.cell? ⟨g, j, none⟩ = some (.int .i64 (ord.getD j 0 : Nat))) ∧ rs.length ≤ c ∧ w.heap.size ≤ g ∧ Below w.heap.size w w'

theorem wrs_told {rs : List Rum} {p : Nat} (hp : p < rs.length) (t : Int) : (flR rs).set (p * 6 + 5) (.int .i64 t) = flR (rs.set p ⟨(rs.getD p dr).m, t⟩) := by
  apply List.ext_getElem?
  intro k
  by_cases hk : k < rs.length * 6
  · have h2 := flR_get (rs.set p ⟨(rs.getD p dr).m, t⟩) (k / 6) (by rw [List.length_set]; omega) (k % 6) (by omega)
    rw [show k / 6 * 6 + k % 6 = k by omega] at h2
    have h4 := flR_get rs (k / 6) (by omega) (k % 6) (by omega)
    rw [show k / 6 * 6 + k % 6 = k by omega] at h4
    rw [h2]
    by_cases hkp : k / 6 = p
    · rw [show (rs.set p ⟨(rs.getD p dr).m, t⟩).getD (k / 6) dr = ⟨(rs.getD p dr).m, t⟩ by rw [hkp]; simp [List.getD, List.getElem?_set_self hp]]
      rw [hkp] at h4
      by_cases h5 : k % 6 = 5
      · rw [show p * 6 + 5 = k by omega, List.getElem?_set_self (by rw [flR_len]; omega), h5]
        rfl
      · rw [List.getElem?_set_ne (by omega), h4]
        have h6 : k % 6 < 5 := by omega
        generalize k % 6 = q at h6
        match q, h6 with
        | 0, _ => rfl
        | 1, _ => rfl
        | 2, _ => rfl
        | 3, _ => rfl
        | 4, _ => rfl
    · rw [show (rs.set p ⟨(rs.getD p dr).m, t⟩).getD (k / 6) dr = rs.getD (k / 6) dr by simp [List.getD, List.getElem?_set_ne (Ne.symm hkp)], List.getElem?_set_ne (by omega), h4]
  · rw [List.getElem?_eq_none (by rw [List.length_set, flR_len]; omega), List.getElem?_eq_none (by rw [flR_len, List.length_set]; omega)]

theorem within_bd {n a b : Int} (h : within n a b = true) : a ≤ n ∧ n ≤ b := by simpa [within] using h
theorem Own.base {b b' : Nat} {w : World} {v : Value} {ms : List Mem} (h : Own b w v ms) (hb : b' ≤ b) : Own b' w v ms := by
  obtain ⟨h1, h2⟩ := h
  refine ⟨h1, ?_⟩
  rcases h2 with h2 | ⟨g, c, cur, hv, hbg, hr⟩
  · exact .inl h2
  · exact .inr ⟨g, c, cur, hv, Nat.le_trans hb hbg, hr⟩
theorem own_snoc' {base : Nat} {w : World} {v : Value} {L : List Mem} {m : Mem} (h : w.ownsRow base 24 5 v (L.length + 1) (fl L ++ m.cs)) : Own base w v (L ++ [m]) := by
  have e : fl (L ++ [m]) = fl L ++ m.cs := by rw [fl_append, fl_cons]; simp [fl]
  show w.ownsRow base 24 5 v (L ++ [m]).length (fl (L ++ [m]))
  rw [e, List.length_append]
  exact h
theorem Own.slice {base : Nat} {w : World} {v : Value} {ms : List Mem} (h : Own base w v ms) : ∃ a c, v = .slice a ms.length c := by
  rcases h.2 with ⟨rfl, h0⟩ | ⟨g, c, cur, rfl, _⟩
  · exact ⟨none, 0, by rw [h0]⟩
  · exact ⟨_, c, rfl⟩

set_option maxHeartbeats 6400000 in
set_option maxRecDepth 100000 in
theorem take_some (rs : List Rum) (v : Value) (most times : Int) (w : World) (hv : RSl w v rs) (h0 : chkR rs = 0) (hm : within most 1 20 = true) (ht : within times 1 100 = true) (hpos : 0 < rs.length) (hT : TurnsSays rs v) :
    Calls Try.prog 14 #[v, .int .i64 most, .int .i64 times] w fun e w' => ∃ (v1 v2 : Value) (ord : List Nat), e = .returned (.tuple #[v1, v2, .int .i64 0]) ∧ IsOrd rs ord ∧ Own w.heap.size w' v1 (toldL rs ord (min most.toNat rs.length)) ∧ ROwn w.heap.size w' v2 ((bump rs ord (min most.toNat rs.length)).filter (keepR times)) ∧ Below w.heap.size w w' := by
  obtain ⟨j0, hj0, hk0, hks, hkb⟩ := info_parts Try.info24
  have HV : Hid (RSl w v rs) := hv
  have HTT : Hid (TurnsSays rs v) := hT
  have hm1 : 1 ≤ most ∧ most ≤ 20 := by simp [within] at hm; omega
  obtain ⟨hm1, hm2⟩ := hm1
  obtain ⟨hn20, _, htold, _⟩ := chkR_zero h0
  have HTO : Hid (AllTold rs) := htold
  have hchk := fun (w : World) (h : RSl w v rs) => checkR_any rs v w h
  rw [h0] at hchk
  clear h0 hT htold
  obtain ⟨pa, ca, rfl, _, _⟩ := hv
  generalize hN : rs.length = n at *
  have HN : Hid (rs.length = n) := hN
  clear hN
  have hB0 : Below w.heap.size w (w.alloc (.cells #[.int .i64 times] 3)) := (Below.refl _ _).alloc (Nat.le_refl _) _
  go_enter Try.func14, Try.ntmps14
  go_wp2_with fail
  refine (hchk _ (HV.out.below hB0)).mono ?_
  rintro e w1 ⟨rfl, hb1⟩
  have c1 : w1.cell? ⟨w.heap.size, 0, none⟩ = some (.int .i64 times) := by
    rw [hb1.cell (p := ⟨w.heap.size, 0, none⟩) (by simp)]; exact cell_top' rfl
  have HB1 : Hid (Below w.heap.size w w1) := hB0.trans (hb1.mono (by simp))
  have hz1 : w.heap.size < w1.heap.size := by have := hb1.size; simp at this; omega
  clear hb1 hB0 hchk
  go_wp2_with (go_at_call 29; refine (within_any _ _ _ _).mono ?_; rintro e w' ⟨rfl, rfl⟩; first | rw [hm] | rw [ht])
  refine (rclone_any rs _ _ (HV.out.below HB1.out) (by rw [HN.out]; omega)).mono ?_
  rintro e w3 ⟨v3, rfl, ho3, hb3⟩
  have HO3 : Hid (ROwn (w.heap.size + 1) w3 v3 rs) := ho3.base hz1
  have c3 : w3.cell? ⟨w.heap.size, 0, none⟩ = some (.int .i64 times) := by
    rw [hb3.cell (p := ⟨w.heap.size, 0, none⟩) (by simp only; omega)]; exact c1
  have HB3 : Hid (Below w.heap.size w w3) := HB1.out.trans (hb3.mono HB1.out.size)
  have hz3 : w.heap.size < w3.heap.size := by have := hb3.size; omega
  clear hb3 ho3 c1
  go_wp2_with fail
  refine (HTT.out _ (HV.out.below HB3.out)).mono ?_
  rintro e w4 ⟨gt, ct, ord, rfl, hord, hct, hcc, hgt3, hb4⟩
  have HORD : Hid (IsOrd rs ord) := hord
  have HCT : Hid (∀ j, j < rs.length → w4.cell? ⟨gt, j, none⟩ = some (.int .i64 (ord.getD j 0 : Nat))) := hct
  have HB4 : Hid (Below w.heap.size w w4) := HB3.out.trans (hb4.mono HB3.out.size)
  have C4 : Hid (w4.cell? ⟨w.heap.size, 0, none⟩ = some (.int .i64 times)) := by
    have h := hb4.cell (p := ⟨w.heap.size, 0, none⟩) (by simp only; omega)
    exact h.trans c3
  have HO4 : Hid (ROwn (w.heap.size + 1) w4 v3 rs) := HO3.out.below hb4
  have HG3 : Hid (∀ k, v3.ownBlock = some k → k < w3.heap.size) := fun k hk => (HO3.out.lt k hk).2
  have hz4 : w3.heap.size ≤ w4.heap.size := hb4.size
  clear hb4 c3 HO3 hct hord
  obtain ⟨g, c, hv3⟩ : ∃ g c, v3 = .slice (some ⟨g, 0, none⟩) n c := by
    rcases HO4.out.2 with ⟨_, h0⟩ | ⟨g, c, cur, h, _⟩
    · have := HN.out; omega
    · exact ⟨g, c, by rw [h, HN.out]⟩
  subst hv3
  obtain ⟨hgl, hgh⟩ := HO4.out.lt g rfl
  have hg3 : g < w3.heap.size := HG3.out g rfl
  rw [HN.out] at hcc ⊢
  have HGT : Hid (gt < w4.heap.size) := World.block_lt_of_cell? w4 ⟨gt, 0, none⟩ (HCT.out 0 (by rw [HN.out]; exact hpos))
  obtain ⟨q, hq⟩ : ∃ q : Nat, q = min most.toNat n := ⟨_, rfl⟩
  have hmin : min most (n : Int) = (q : Int) := by omega
  have hqn : q ≤ n := by omega
  go_wp2_with fail
  go_loopw [11, 37] (fun o i wr => ∃ k : Nat, k ≤ q ∧ i = .int .i64 k ∧ Hid (Own w4.heap.size wr o (toldL rs ord k)) ∧ Hid (ROwn (w.heap.size + 1) wr (.slice (some ⟨g, 0, none⟩) n c) (bump rs ord k)) ∧ Hid (wr.cell? ⟨w.heap.size, 0, none⟩ = some (.int .i64 times)) ∧ Hid (∀ j, j < rs.length → wr.cell? ⟨gt, j, none⟩ = some (.int .i64 (ord.getD j 0 : Nat))) ∧ Hid (Below w.heap.size w wr) ∧ w4.heap.size ≤ wr.heap.size) (fun _ i _ => q - (intOf i).toNat)
  case atStart => exact ⟨0, Nat.zero_le _, rfl, (by rw [toldL_zero]; exact own_nil _ _), (by rw [bump_zero]; exact HO4.out), C4, HCT, HB4, Nat.le_refl _⟩
  case round =>
    obtain ⟨k, hk, rfl, HTO2, HRO, HCC, HCT2, HB, hsz⟩ := hrel
    by_cases hlt : k < q
    · have hkn : k < rs.length := by rw [HN.out]; omega
      have oc := HCT2.out k hkn
      have hat : ord.getD k 0 < n := by have := HORD.out.lt hkn; rwa [HN.out] at this
      have hbl : (bump rs ord k).length = n := by rw [bump_len]; exact HN.out
      obtain ⟨d0, d1, d2, d3, d4, d5⟩ := rown_row HRO.out (ord.getD k 0) (by rw [hbl]; exact hat)
      rw [bump_fresh HORD.out hkn] at d0 d1 d2 d3 d4 d5
      have hRO : wr.ownsRow (w.heap.size + 1) 47 6 (.slice (some ⟨g, 0, none⟩) n c) n (flR (bump rs ord k)) := by
        have h2 : wr.ownsRow (w.heap.size + 1) 47 6 (.slice (some ⟨g, 0, none⟩) n c) (bump rs ord k).length (flR (bump rs ord k)) := HRO.out
        rw [hbl] at h2; exact h2
      have hfz : ∀ o, wr.frozen? ⟨g, o, none⟩ = false := fun o => World.ownsRow.frozenAt hRO o
      have htold : within (rs.getD (ord.getD k 0) dr).told 0 100 = true := HTO.out _ (HORD.out.lt hkn)
      obtain ⟨ht3, ht4⟩ := within_bd htold
      have HRO2 : Hid (ROwn (w.heap.size + 1) (wr.setCell ⟨g, ord.getD k 0 * 6 + 5, none⟩ (.int .i64 ((rs.getD (ord.getD k 0) dr).told + 1))) (.slice (some ⟨g, 0, none⟩) n c) (bump rs ord (k + 1))) := by
        have h3 := (World.ownsRow.stored hRO (ord.getD k 0 * 6 + 5) (.int .i64 ((rs.getD (ord.getD k 0) dr).told + 1))).1
        rw [wrs_told (by rw [hbl]; exact hat), bump_fresh HORD.out hkn] at h3
        show World.ownsRow _ _ _ _ _ (bump rs ord (k + 1)).length _
        rw [bump_len, HN.out, bump_succ (by rw [HORD.out.len]; exact hkn), bumpOne, bump_fresh HORD.out hkn]
        exact h3
      have HTS : Hid (toldL rs ord (k + 1) = toldL rs ord k ++ [(rs.getD (ord.getD k 0) dr).m]) := toldL_succ (by rw [HORD.out.len]; exact hkn)
      have htl : (toldL rs ord k).length ≤ 20 := by unfold toldL; rw [List.length_map, List.length_take]; omega
      obtain ⟨oa, ocp, hvo⟩ := HTO2.out.slice
      subst hvo
      clear hRO htold
      generalize ord.getD k 0 = at1 at *
      generalize hrk : rs.getD at1 dr = rk at *
      clear hrk
      obtain ⟨⟨nm, st, lf, ad, sv⟩, td⟩ := rk
      simp only at d0 d1 d2 d3 d4 d5 ht3 ht4 HRO2 HTS
      simp only [Nat.zero_add] at d0 d1 d2 d3 d4 d5
      generalize toldL rs ord k = TL at *
      have HOT : Hid (∀ ob, ((wr.setCell ⟨g, at1 * 6 + 5, none⟩ (.int .i64 (td + 1))).alloc ob).ownsRow w4.heap.size 24 5 (.slice oa TL.length ocp) TL.length (fl TL)) := fun ob =>
        Own.below (ms := TL) (ownsRow_setCell_below HTO2.out (a := ⟨g, at1 * 6 + 5, none⟩) hgh _) ((Below.refl _ _).alloc (Nat.le_refl _) ob)
      have HLT : Hid (∀ j, (Value.slice oa TL.length ocp).ownBlock = some j → w4.heap.size ≤ j) := fun j hj => (HTO2.out.lt j hj).1
      clear HTO2 HRO
      go_wp2_with (at_builtin; refine wpList_append_own _ rfl _ _ 33 rfl w4.heap.size 24 j0 _ 5 48 Try.underlying33 hj0 hk0 hks hkb rfl (by omega) _ TL.length (fl TL) rfl ?hown ⟨wr.heap.size, 0, none⟩ 1 1 (Mem.mk nm st lf ad sv).cs rfl rfl ?hnews (cs_one _) ?h63 ?hbytes ?hbase ?_)
      case hown => exact HOT.out _
      case hnews => (intro j u hj; rw [Addr.add_lit]; exact (cell_top' (by simp)).trans (by simpa [Mem.cs] using hj))
      case h63 => (unfold maxLen; omega)
      case hbytes => omega
      case hbase => (simp; omega)
      intro v' w5 r1 r2 r3
      have hb5 : Below w4.heap.size (wr.setCell ⟨g, at1 * 6 + 5, none⟩ (.int .i64 (td + 1))) w5 :=
        ((Below.refl w4.heap.size (wr.setCell ⟨g, at1 * 6 + 5, none⟩ (.int .i64 (td + 1)))).alloc (by simpa using hsz) _).grown r2 (by simp; omega) (fun j hj => HLT.out j hj)
      have R1 : Hid (Own w4.heap.size w5 v' (TL ++ [⟨nm, st, lf, ad, sv⟩])) := own_snoc' r1
      have hgr : (wr.setCell ⟨g, at1 * 6 + 5, none⟩ (.int .i64 (td + 1))).heap[g]? = w5.heap[g]? := (hb5.block g hgh).symm
      have R2 : Hid (ROwn (w.heap.size + 1) w5 (.slice (some ⟨g, 0, none⟩) n c) (bump rs ord (k + 1))) := by
        obtain ⟨h1, h2⟩ := HRO2.out
        refine ⟨h1, ?_⟩
        rcases h2 with h2 | ⟨g', c', cur, hv, hbg, hg, hr⟩
        · exact .inl h2
        · have hgg : g' = g := by simp only [Value.slice.injEq, Option.some.injEq, Addr.mk.injEq, and_true] at hv; exact hv.1.symm
          subst hgg
          exact .inr ⟨g', c', cur, hv, hbg, by rw [← hgr]; exact hg, hr⟩
      have R3 : Hid (w5.cell? ⟨w.heap.size, 0, none⟩ = some (.int .i64 times)) := by
        have h1 := hb5.cell (p := ⟨w.heap.size, 0, none⟩) (by simp only; omega)
        have h2 : (wr.setCell ⟨g, at1 * 6 + 5, none⟩ (.int .i64 (td + 1))).cell? ⟨w.heap.size, 0, none⟩ = wr.cell? ⟨w.heap.size, 0, none⟩ := World.cell?_setCell_far _ _ _ _ (by simp only; omega)
        exact h1.trans (h2.trans HCC.out)
      have R4 : Hid (∀ j, j < rs.length → w5.cell? ⟨gt, j, none⟩ = some (.int .i64 (ord.getD j 0 : Nat))) := fun j hj => by
        have h1 := hb5.cell (p := ⟨gt, j, none⟩) HGT.out
        have h2 : (wr.setCell ⟨g, at1 * 6 + 5, none⟩ (.int .i64 (td + 1))).cell? ⟨gt, j, none⟩ = wr.cell? ⟨gt, j, none⟩ := World.cell?_setCell_far _ _ _ _ (by simp only; omega)
        exact h1.trans (h2.trans (HCT2.out j hj))
      have R5 : Hid (Below w.heap.size w w5) := (HB.out.setCell (p := ⟨g, at1 * 6 + 5, none⟩) (by simp only; omega) _).trans (hb5.mono (by omega))
      have hsz5 : w4.heap.size ≤ w5.heap.size := by have := hb5.size; simp at this; omega
      clear r1 r2 r3 hb5 hgr HRO2 HOT HLT d0 d1 d2 d3 d4 d5 oc
      go_wp2_with fail
      exact ⟨⟨k + 1, by omega, by go_num, (by rw [HTS.out]; exact R1.out), R2.out, R3.out, R4.out, R5.out, hsz5⟩, by simp [intOf]; omega⟩
    · have hkq : k = q := by omega
      subst hkq
      have hbl : (bump rs ord k).length = n := by rw [bump_len]; exact HN.out
      clear HCT2
      go_wp2_with fail
      refine (deleteFunc_any (bump rs ord k) n g c w.heap.size (w.heap.size + 1) times _ hbl (by omega) HRO.out (by omega) (by omega) HCC.out).mono ?_
      rintro e w6 ⟨m, rfl, ho6, hb6, hf6⟩
      have S1 : Hid (Own w.heap.size w6 u11 (toldL rs ord k)) := by
        obtain ⟨h1, h2⟩ := HTO2.out
        refine ⟨h1, ?_⟩
        rcases h2 with h2 | ⟨g', c', cur, hv, hbg, hg, hr⟩
        · exact .inl h2
        · exact .inr ⟨g', c', cur, hv, by omega, by rw [hf6.2 g' (Array.getElem?_eq_some_iff.1 hg).1 (by omega)]; exact hg, hr⟩
      have S2 : Hid (ROwn w.heap.size w6 (.slice (some ⟨g, 0, none⟩) m c) ((bump rs ord k).filter (keepR times))) := ho6.base (by omega)
      have S3 : Hid (Below w.heap.size w w6) := HB.out.trans (hb6.mono (by omega))
      clear ho6 hb6 hf6 HTO2 HRO HCC
      go_wp2_with fail
      go_ret3
      exact ⟨_, _, ord, rfl, HORD.out, by rw [← hq]; exact S1.out, by rw [← hq]; exact S2.out, S3.out⟩

end Go.Proofs.Ytdcekfbejjjkkaa
