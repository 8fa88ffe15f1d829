/- The document's labels of a name. -/
import Derived.Test.YtogmkdhljifbpaaDoorQ2
import Derived.Test.YtogmkdhljifbpaaDoorTS
namespace Go.Proofs.YtogmkdhljifbpaaDoor
open Go.RowKit

/-- A name's labels: none of an empty one. -/
def labs (s : ByteArray) : List ByteArray := if s.size = 0 then [] else (spl s.data.toList).map mk

theorem ext_mid (s : ByteArray) (a b : Nat) : s.extract a b = mk ((s.data.toList.drop a).take (b - a)) := by
  rw [← mk_data (s.extract a b)]
  congr 1
  rw [Lib.extract_data]
theorem free_step {l : List UInt8} {a b : Nat} (hab : a ≤ b) (hb : b < l.length) (h : 46 ∉ (l.drop a).take (b - a)) (hc : l[b] ≠ 46) : 46 ∉ (l.drop a).take (b + 1 - a) := by
  have e : b + 1 - a = (b - a) + 1 := by omega
  have hl : b - a < (l.drop a).length := by rw [List.length_drop]; omega
  rw [e, List.take_succ_eq_append_getElem hl]
  intro hm
  rcases List.mem_append.1 hm with h2 | h2
  · exact h h2
  · simp only [List.mem_singleton, List.getElem_drop] at h2
    have : a + (b - a) = b := by omega
    simp only [this] at h2
    exact hc h2.symm
theorem spl_part {l : List UInt8} {a b : Nat} (hab : a ≤ b) (hb : b < l.length) (h : 46 ∉ (l.drop a).take (b - a)) (hc : l[b] = 46) : spl (l.drop a) = (l.drop a).take (b - a) :: spl (l.drop (b + 1)) := by
  have e : l.drop a = (l.drop a).take (b - a) ++ 46 :: l.drop (b + 1) := by
    have h1 : (l.drop a).drop (b - a) = l.drop b := by rw [List.drop_drop]; congr 1; omega
    have h2 : l.drop b = 46 :: l.drop (b + 1) := by rw [List.drop_eq_getElem_cons hb, hc]
    rw [← h2, ← h1, List.take_append_drop]
  conv => lhs; rw [e]
  exact spl_app _ _ h

theorem spl_le (s : ByteArray) : (spl s.data.toList).length ≤ s.size + 1 := by
  rw [spl_len]
  have h5 : s.data.toList.count 46 ≤ s.data.toList.length := List.count_le_length
  have h6 : s.data.toList.length = s.size := by simp
  omega
theorem byte_is {s : ByteArray} {k : Nat} (h : k < s.size) (hb : s[k] = 46) (hl : k < s.data.toList.length) : s.data.toList[k] = 46 := by
  rw [← hb]; simp [ByteArray.getElem_eq_getElem_data]
theorem byte_ne {s : ByteArray} {k : Nat} (h : k < s.size) (hb : s[k] ≠ 46) (hl : k < s.data.toList.length) : s.data.toList[k] ≠ 46 := fun e => hb (by
  rw [← e]; simp [ByteArray.getElem_eq_getElem_data])
theorem toNat_ne {c : UInt8} (h : c ≠ 46) : ((c.toNat : Int) == 46) = false ∧ ¬ (c.toNat : Int) = 46 := by
  have h2 : ¬ (c.toNat : Int) = 46 := fun e => h (UInt8.toNat_inj.1 (by have : c.toNat = 46 := by omega
                                                                        rw [this]; rfl))
  exact ⟨by simpa using h2, h2⟩

set_option maxHeartbeats 3200000 in
set_option maxRecDepth 100000 in
theorem labelsOf_any (s : ByteArray) (w : World) (hs : s.size ≤ 2000000) :
    Calls Tryd.prog 26 #[.string s] w fun e w' => ∃ v, e = .returned v ∧ OwnS w.heap.size w' v (labs s) ∧ Below w.heap.size w w' := by
  by_cases h0 : s.size = 0
  · have e0 : labs s = [] := by unfold labs; rw [if_pos h0]
    rw [e0]
    have := isempty h0
    subst this
    clear e0 h0 hs
    go_enter Tryd.func26, Tryd.ntmps26
    go_wp2_with fail
    go_ret
    exact ⟨_, rfl, ownS_nil _ _, Below.refl _ _⟩
  · obtain ⟨n1, n2⟩ := nempty h0
    obtain ⟨i0, hi0, hz0, hzs, hzb⟩ := info_parts Tryd.info9
    have HL : Hid (labs s = (spl s.data.toList).map mk) := (show labs s = _ by unfold labs; rw [if_neg h0])
    have HCN : Hid ((spl s.data.toList).length ≤ s.size + 1) := spl_le s
    generalize labs s = LS at *
    clear h0
    go_enter Tryd.func26, Tryd.ntmps26
    go_wp2_with fail
    go_loopw [3, 4, 5] (fun o f i wr => ∃ (a k : Nat) (D : List (List UInt8)), a ≤ k ∧ k ≤ s.size ∧ f = .int .i64 a ∧ i = .int .i64 k ∧ Hid (spl s.data.toList = D ++ spl (s.data.toList.drop a)) ∧ Hid (46 ∉ (s.data.toList.drop a).take (k - a)) ∧ Hid (Below w.heap.size w wr) ∧ Hid (OwnS w.heap.size wr o (D.map mk))) (fun _ _ i _ => s.size - (intOf i).toNat)
    case atStart => exact ⟨0, 0, [], Nat.le_refl _, Nat.zero_le _, rfl, rfl, rfl, (show 46 ∉ _ by simp), Below.refl _ _, ownS_nil _ _⟩
    case round =>
      obtain ⟨a, k, D, hak, hk, rfl, rfl, HS, HFR, HB, HO⟩ := hrel
      have hsz := HB.out.size
      have hDl : D.length ≤ s.size + 1 := by
        have h5 := HCN.out
        rw [HS.out, List.length_append] at h5
        omega
      have ha1 : (0 : Int) ≤ (a : Int) := by omega
      have ha3 : ((a : Int)).toNat = a := by omega
      have hk3 : ((k : Int)).toNat = k := by omega
      by_cases hlt : k < s.size
      · have hak2 : (a : Int) ≤ (k : Int) := by omega
        have hks : (k : Int) ≤ (s.size : Int) := by omega
        by_cases hb : s[k] = 46
        · have hn46 : ((s[k]).toNat : Int) = 46 := by rw [hb]; rfl
          have HS2 : Hid (spl s.data.toList = (D ++ [(s.data.toList.drop a).take (k - a)]) ++ spl (s.data.toList.drop (k + 1))) := (show _ = _ by
            have hlk : k < s.data.toList.length := by simpa using hlt
            rw [HS.out, spl_part hak hlk HFR.out (byte_is hlt hb hlk)]; simp)
          have HX : Hid (mk ((s.data.toList.drop a).take (k - a)) = s.extract a k) := (ext_mid s a k).symm
          clear HS HFR
          go_wp2_with (at_builtin; refine wpList_append_own _ rfl _ _ 46 rfl w.heap.size 9 i0 _ 1 16 Tryd.underlying46 hi0 hz0 hzs hzb rfl (by omega) _ (D.map mk).length ((D.map mk).map Value.string) rfl ?hown ⟨wr.heap.size, 0, none⟩ 1 1 [.string (s.extract a k)] rfl rfl ?hnews (strs_one [_]) ?h63 ?hbytes ?hbase ?_)
          case hown => exact HO.out.below ((Below.refl _ _).alloc (Nat.le_refl _) _)
          case hnews => (intro j u hj; rw [Addr.add_lit]; exact (cell_topL (by simp)).trans (by simpa using hj))
          case h63 => (rw [List.length_map]; unfold maxLen; omega)
          case hbytes => (rw [List.length_map]; omega)
          case hbase => (simp; omega)
          intro v' w2 r1 r2 r3
          have HBX : Hid (Below w.heap.size w w2) := (HB.out.alloc hsz _).grown r2 (by simp; omega) (fun j hj => (HO.out.lt j hj).1)
          have HOX : Hid (OwnS w.heap.size w2 v' ((D ++ [(s.data.toList.drop a).take (k - a)]).map mk)) := (show OwnS _ _ _ _ by
            rw [List.map_append, List.map_cons, List.map_nil, HX.out]; exact ownS_snoc (l := D.map mk) (by rw [List.length_map, List.map_map]; exact r1))
          clear r1 r2 r3 hb hn46
          go_wp2_with fail
          exact ⟨⟨k + 1, k + 1, D ++ [(s.data.toList.drop a).take (k - a)], Nat.le_refl _, by omega, by go_num, by go_num, HS2, (show 46 ∉ _ by simp), HBX, HOX⟩, by simp [intOf]; omega⟩
        · obtain ⟨hn1, hn2⟩ := toNat_ne hb
          have HF2 : Hid (46 ∉ (s.data.toList.drop a).take (k + 1 - a)) := (show 46 ∉ _ by
            have hlk : k < s.data.toList.length := by simpa using hlt
            exact free_step hak hlk HFR.out (byte_ne hlt hb hlk))
          clear hb HFR
          go_wp2_with fail
          exact ⟨⟨a, k + 1, D, by omega, by omega, rfl, by go_num, HS, HF2, HB, HO⟩, by simp [intOf]; omega⟩
      · have hkn : k = s.size := by omega
        have HX : Hid (mk (s.data.toList.drop a) = s.extract a s.size) := (ext_from s a).symm
        have HS2 : Hid (LS = D.map mk ++ [mk (s.data.toList.drop a)]) := (show LS = _ by
          have h46 : 46 ∉ s.data.toList.drop a := by
            have h := HFR.out
            rwa [List.take_of_length_le (by rw [List.length_drop]; simp; omega)] at h
          rw [HL.out, HS.out, spl_none _ h46]; simp)
        have has : (a : Int) ≤ (s.size : Int) := by omega
        clear HS HFR HL
        go_wp2_with (at_builtin; refine wpList_append_own _ rfl _ _ 46 rfl w.heap.size 9 i0 _ 1 16 Tryd.underlying46 hi0 hz0 hzs hzb rfl (by omega) _ (D.map mk).length ((D.map mk).map Value.string) rfl ?hown ⟨wr.heap.size, 0, none⟩ 1 1 [.string (s.extract a s.size)] rfl rfl ?hnews (strs_one [_]) ?h63 ?hbytes ?hbase ?_)
        case hown => exact HO.out.below ((Below.refl _ _).alloc (Nat.le_refl _) _)
        case hnews => (intro j u hj; rw [Addr.add_lit]; exact (cell_topL (by simp)).trans (by simpa using hj))
        case h63 => (rw [List.length_map]; unfold maxLen; omega)
        case hbytes => (rw [List.length_map]; omega)
        case hbase => (simp; omega)
        intro v' w2 r1 r2 r3
        have HBX : Hid (Below w.heap.size w w2) := (HB.out.alloc hsz _).grown r2 (by simp; omega) (fun j hj => (HO.out.lt j hj).1)
        have HOX : Hid (OwnS w.heap.size w2 v' LS) := (show OwnS _ _ _ _ by
          rw [HS2.out, HX.out]; exact ownS_snoc (l := D.map mk) (by rw [List.length_map, List.map_map]; exact r1))
        clear r1 r2 r3
        go_wp2_with fail
        go_ret
        exact ⟨v', rfl, HOX.out, HBX.out⟩

end Go.Proofs.YtogmkdhljifbpaaDoor
