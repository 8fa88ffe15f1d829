/- The document's own Find; the law CatalogFinds. -/
import Derived.Test.YtjpcngkddejdjaeSKS4
import Derived.Test.YtjpcngkddejdjaeSK9A
namespace Go.Proofs.Ytjpcngkddejdjae
namespace Sv
open Go.RowKit

theorem beq_flip (a b : List UInt8) : (a == b) = (b == a) := by rw [Bool.eq_iff_iff, beq_iff_eq, beq_iff_eq]; exact ⟨Eq.symm, Eq.symm⟩

set_option maxHeartbeats 6400000 in
set_option maxRecDepth 100000 in
theorem refFind_any (ms : List Svc) (v : Value) (name tag : ByteArray) (w : World) (hv : Sl w v ms) (hlen : ms.length ≤ 40) :
    Calls Try.prog 24 #[v, .string name, .string tag] w fun e w' => ∃ v', e = .returned v' ∧ Own w.heap.size w' v' (findL ms name tag) ∧ Below w.heap.size w w' := by
  obtain ⟨i0, hi0, hz0, hzs, hzb⟩ := info_parts Try.info28
  obtain ⟨pa, ca, rfl, _, ha⟩ := hv
  have HA : Hid (ms = [] ∨ ∃ b off, pa = some ⟨b, off, none⟩ ∧ b < w.heap.size ∧ Row w b off ms) := ha
  clear ha
  generalize hna : ms.length = n at *
  have HN : Hid (ms.length = n) := hna
  clear hna
  go_enter Try.func24, Try.ntmps24
  go_wp2_with fail
  go_loopw [7, 8] (fun kn i w' => ∃ k : Nat, k ≤ n ∧ i = .int .i64 k ∧ Below w.heap.size w w' ∧ Hid (Own w.heap.size w' kn (findL (ms.take k) name tag))) (fun _ i _ => n - (intOf i).toNat)
  case atStart => exact ⟨0, Nat.zero_le _, rfl, Below.refl _ _, own_nil _ _⟩
  case round =>
    obtain ⟨k, hk, rfl, hbl, HO⟩ := hrel
    obtain ⟨hbc, hbf⟩ := bcell hbl
    have hsz := hbl.size
    have hll2 : (findL (ms.take k) name tag).length ≤ 40 := by have h1 := findL_len (ms.take k) name tag; have h2 : (ms.take k).length ≤ k := List.length_take_le _ _; omega
    by_cases hlt : k < n
    · obtain ⟨b1, o1, hp1, hl1, hr1⟩ : ∃ b off, pa = some ⟨b, off, none⟩ ∧ b < w.heap.size ∧ Row w b off ms := by
        rcases HA.out with h | h
        · have := HN.out; rw [h] at this; simp at this; omega
        · exact h
      subst hp1
      obtain ⟨c0, c1, c2, c3, c4, c5, c6, c7, c8⟩ := hr1 k (by rw [HN.out]; exact hlt)
      clear hr1
      have hkl : k < ms.length := by rw [HN.out]; exact hlt
      have HY : Hid (keep name tag (ms.getD k dm) = true → findL (ms.take (k + 1)) name tag = findL (ms.take k) name tag ++ [ms.getD k dm]) := fun h => findL_yes hkl h
      have HNO : Hid (keep name tag (ms.getD k dm) = false → findL (ms.take (k + 1)) name tag = findL (ms.take k) name tag) := fun h => findL_no hkl h
      generalize ms.getD k dm = m at *
      have hfl := beq_flip m.tag.toList tag.toList
      rcases keep_why name tag m with ⟨hkp, hw⟩ | ⟨hkp, hw⟩
      · have HST : Hid (findL (ms.take (k + 1)) name tag = findL (ms.take k) name tag) := HNO.out hkp
        clear HY HNO hkp
        rw [hfl] at hw
        clear hfl
        rcases hw with h | ⟨h, g1, g2⟩ | ⟨h, g1, g2⟩ | ⟨h, g1, g2, g3⟩ | ⟨h, g1, g2, g3⟩ | ⟨h, g1, g2, g3, g4⟩
        all_goals
          go_wp2_with fail
          go_roundw
          case rel => exact ⟨k + 1, by omega, by go_num, hbl, by rw [HST.out]; exact HO.out⟩
          case measure => simp [intOf]; omega
      · have HST : Hid (findL (ms.take (k + 1)) name tag = findL (ms.take k) name tag ++ [m]) := HY.out hkp
        clear HY HNO hkp
        rw [hfl] at hw
        clear hfl
        generalize findL (ms.take k) name tag = L at *
        rcases hw with ⟨h, g1, gp, gg⟩ | ⟨h, g1, g2, gp, gg⟩
        all_goals
          go_wp2_with (at_builtin; refine wpList_append_own _ rfl _ _ 22 rfl w.heap.size 28 i0 _ 9 104 Try.underlying22 hi0 hz0 hzs hzb rfl (by omega) _ L.length (fl L) rfl ?hown ⟨wr.heap.size, 0, none⟩ 1 1 m.cs rfl rfl ?hnews (cs_one _) ?h63 ?hbytes ?hbase ?_)
          case hown => exact HO.out.below ((Below.refl _ _).alloc (Nat.le_refl _) _)
          case hnews => (intro j u hj; rw [Addr.add_lit]; exact (cell_topL rfl).trans (by simpa [Svc.cs, gp, gg] using hj))
          case h63 => (unfold maxLen; omega)
          case hbytes => omega
          case hbase => (simp; omega)
          all_goals
            intro v' w2 r1 r2 r3
            have HBX : Hid (Below w.heap.size w w2) := (hbl.alloc hsz _).grown r2 (by simp; omega) (fun j hj => (HO.out.lt j hj).1)
            have HOX : Hid (Own w.heap.size w2 v' (L ++ [m])) := own_snoc r1
            clear r1 r2 r3
            go_wp2_with fail
            go_roundw
            case rel => exact ⟨k + 1, by omega, by go_num, HBX.out, by rw [HST.out]; exact HOX.out⟩
            case measure => simp [intOf]; omega
    · have hkn : k = n := by omega
      subst hkn
      have HFO : Hid (Own w.heap.size wr u7 (findL ms name tag)) := by
        have h := HO.out
        rw [List.take_of_length_le (by rw [HN.out]; exact Nat.le_refl _)] at h
        exact h
      go_wp2_with fail
      go_ret
      exact ⟨u7, rfl, HFO.out, hbl⟩

/-- Why a name and a tag are right, or are not. -/
theorem findE_why (name tag : ByteArray) : (findE name tag = 1 ∧ (labB name = false ∨ (labB name = true ∧ (tag.toList == []) = false ∧ labB tag = false))) ∨ (findE name tag = 0 ∧ ((labB name = true ∧ (tag.toList == []) = true) ∨ (labB name = true ∧ (tag.toList == []) = false ∧ labB tag = true))) := by
  unfold findE tagB
  have ht : decide (tag = ByteArray.empty) = (tag.toList == []) := by
    rw [Bool.eq_iff_iff, decide_eq_true_eq, beq_iff_eq]
    constructor
    · intro h; rw [h, Lib.toList_data]; rfl
    · intro h; exact ba_ext (by rw [← Lib.toList_data, h]; rfl)
  rw [ht]
  generalize labB name = b1
  generalize (tag.toList == []) = b2
  generalize labB tag = b3
  cases b1 <;> cases b2 <;> cases b3 <;> simp

set_option maxHeartbeats 6400000 in
set_option maxRecDepth 100000 in
theorem catalogFinds_walk (ms : List Svc) (v : Value) (name tag : ByteArray) (w : World) (hv : Sl w v ms) (hn : name.size ≤ maxLen) (ht : tag.size ≤ maxLen) :
    Calls Try.prog 7 #[v, .string name, .string tag] w fun e w' => e = .returned (.bool true) ∧ Below w.heap.size w w' := by
  have HV : Hid (Sl w v ms) := hv
  have HOKS : Hid (∀ m ∈ ms, m.ok) := sl_ok hv
  have hsA : Hid (∀ s : ByteArray, (s = name ∨ s = tag) → s.size ≤ maxLen) := by rintro s (rfl | rfl) <;> assumption
  clear hv
  by_cases hc : chk ms = 0
  · have hec : (chk ms == 0) = true := by simpa using hc
    have HC : Hid (chk ms = 0) := hc
    have hlen := (chk_zero hc).1
    clear hc
    rcases findE_why name tag with ⟨hf, hw⟩ | ⟨hf, hw⟩
    · have HF : Hid (∀ w, Sl w v ms → Calls Try.prog 22 #[v, .string name, .string tag] w fun e w' => e = .returned (.tuple #[.slice none 0 0, .int .i64 1]) ∧ Below w.heap.size w w') := fun w h => by
        have h2 := findS_form ms v name tag w h HC.out hn ht (by rw [hf]; decide)
        rw [hf] at h2
        exact h2
      clear hf
      rcases hw with h1 | ⟨h1, h2, h3⟩
      all_goals
        go_enter Try.func7, Try.ntmps7
        go_wp2_with fail
        refine (HF.out _ HV.out).mono ?_
        rintro e w1 ⟨rfl, hb1⟩
        have HV1 : Hid (Sl w1 v ms) := HV.out.below hb1
        have HB1 : Hid (Below w.heap.size w w1) := hb1
        clear hb1
        go_wp2_with fail
        refine (refCheck_any ms _ _ HV1.out).mono ?_
        rintro e w2 ⟨rfl, hb2⟩
        have HB2 : Hid (Below w.heap.size w w2) := HB1.out.trans (hb2.mono HB1.out.size)
        clear hb2
        go_wp2_with (go_at_call 23; refine (isLabel_any _ _ (hsA.out _ (by simp))).mono ?_; rintro e w' ⟨rfl, hw⟩; have hw2 := hw.symm; clear hw; subst hw2; first | rw [h1] | rw [h3])
        refine (begun_any _).mono ?_
        rintro e w4 ⟨rfl, hb4⟩
        have HB4 : Hid (Below w.heap.size w w4) := HB2.out.trans (hb4.mono HB2.out.size)
        clear hb4
        go_wp2_with (go_at_call 19; refine (are_bad _ _ _ _ (by decide) rfl).mono ?_; rintro e w6 ⟨rfl, hb6⟩)
        go_ret
        exact ⟨ret_bool (by simp), HB4.out.trans (hb6.mono HB4.out.size)⟩
    · have HF : Hid (∀ w, Sl w v ms → Calls Try.prog 22 #[v, .string name, .string tag] w fun e w' => ∃ v', e = .returned (.tuple #[v', .int .i64 0]) ∧ Hid (Own w.heap.size w' v' (findL ms name tag)) ∧ Below w.heap.size w w') := fun w h => findS_good ms v name tag w h HC.out hn ht hf
      have HR : Hid (∀ w, Sl w v ms → Calls Try.prog 24 #[v, .string name, .string tag] w fun e w' => ∃ v', e = .returned v' ∧ Hid (Own w.heap.size w' v' (findL ms name tag)) ∧ Below w.heap.size w w') := fun w h => refFind_any ms v name tag w h hlen
      have HFO : Hid (∀ m ∈ findL ms name tag, m.ok) := findL_ok HOKS.out
      have hfl := findL_len ms name tag
      have hfl2 : (findL ms name tag).length ≤ 40 := by omega
      clear hf hfl
      generalize findL ms name tag = fl0 at *
      rcases hw with ⟨h1, h2⟩ | ⟨h1, h2, h3⟩
      all_goals
        go_enter Try.func7, Try.ntmps7
        go_wp2_with fail
        refine (HF.out _ HV.out).mono ?_
        rintro e w1 ⟨v1, rfl, ho1, hb1⟩
        have HV1 : Hid (Sl w1 v ms) := HV.out.below hb1
        have HS1 : Hid (Sl w1 v1 fl0) := own_names ho1.out HFO.out
        have HB1 : Hid (Below w.heap.size w w1) := hb1
        clear hb1 ho1
        go_wp2_with fail
        refine (refCheck_any ms _ _ HV1.out).mono ?_
        rintro e w2 ⟨rfl, hb2⟩
        have HV2 : Hid (Sl w2 v ms) := HV1.out.below hb2
        have HS2 : Hid (Sl w2 v1 fl0) := HS1.out.below hb2
        have HB2 : Hid (Below w.heap.size w w2) := HB1.out.trans (hb2.mono HB1.out.size)
        clear hb2
        go_wp2_with (go_at_call 23; refine (isLabel_any _ _ (hsA.out _ (by simp))).mono ?_; rintro e w' ⟨rfl, hw⟩; have hw2 := hw.symm; clear hw; subst hw2; first | rw [h1] | rw [h3])
        refine (HR.out _ HV2.out).mono ?_
        rintro e w3 ⟨v3, rfl, ho3, hb3⟩
        have HS3 : Hid (Sl w3 v1 fl0) := HS2.out.below hb3
        have HT3 : Hid (Sl w3 v3 fl0) := own_names ho3.out HFO.out
        have HB3 : Hid (Below w.heap.size w w3) := HB2.out.trans (hb3.mono HB2.out.size)
        clear hb3 ho3
        go_wp2_with fail
        refine (begun_any _).mono ?_
        rintro e w4 ⟨rfl, hb4⟩
        have HS4 : Hid (Sl w4 v1 fl0) := HS3.out.below hb4
        have HT4 : Hid (Sl w4 v3 fl0) := HT3.out.below hb4
        have HB4 : Hid (Below w.heap.size w w4) := HB3.out.trans (hb4.mono HB3.out.size)
        clear hb4
        go_wp2_with (go_at_call 19; refine (are_ok fl0 _ _ _ _ _ HC.out HC.out.symm HS4.out HT4.out (by omega)).mono ?_; rintro e w6 ⟨rfl, hb6⟩)
        go_ret
        exact ⟨ret_bool (by simp), HB4.out.trans (hb6.mono HB4.out.size)⟩
  · have hec : (chk ms == 0) = false := by simpa using hc
    have HNE : Hid (chk ms ≠ 0) := hc
    clear hc
    go_enter Try.func7, Try.ntmps7
    go_wp2_with fail
    refine (findS_bad ms _ _ _ _ HV.out HNE.out).mono ?_
    rintro e w1 ⟨rfl, hb1⟩
    have HV1 : Hid (Sl w1 v ms) := HV.out.below hb1
    have HB1 : Hid (Below w.heap.size w w1) := hb1
    clear hb1
    go_wp2_with fail
    refine (refCheck_any ms _ _ HV1.out).mono ?_
    rintro e w2 ⟨rfl, hb2⟩
    have HB2 : Hid (Below w.heap.size w w2) := HB1.out.trans (hb2.mono HB1.out.size)
    clear hb2
    go_wp2_with fail
    refine (begun_any _).mono ?_
    rintro e w4 ⟨rfl, hb4⟩
    have HB4 : Hid (Below w.heap.size w w4) := HB2.out.trans (hb4.mono HB2.out.size)
    clear hb4
    go_wp2_with (go_at_call 19; refine (are_bad _ _ _ _ HNE.out rfl).mono ?_; rintro e w6 ⟨rfl, hb6⟩)
    go_ret
    exact ⟨ret_bool (by simp), HB4.out.trans (hb6.mono HB4.out.size)⟩

end Sv
end Go.Proofs.Ytjpcngkddejdjae
