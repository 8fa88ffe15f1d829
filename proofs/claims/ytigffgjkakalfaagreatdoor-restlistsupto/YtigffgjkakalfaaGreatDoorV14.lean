/- Q6, Q7, F6, F7, F8, F9, DKE, FN -/
import Derived.Test.YtigffgjkakalfaaGreatDoorV12
import Derived.Test.YtigffgjkakalfaaGreatDoorV11
import Derived.Test.YtigffgjkakalfaaGreatDoorV13
import Derived.Shelf.RegionOpen
import Derived.Test.YtigffgjkakalfaaGreatDoorV10
import Derived.Laws.StructEq
import Derived.Deep.Slices
import Derived.Deep.RegionHeld3
import Derived.Deep.RegionWith
import Derived.StillTactics
/- The document's labels of a name. -/
namespace Go.Proofs.YtigffgjkakalfaaGreatDoor
open Go.RowKit

/-- A name's labels: none of an empty one. -/
def labs (s : ByteArray) : List ByteArray := if s.size = 0 then [] else (spl s.data.toList).map mk

theorem ext_mid (s : ByteArray) (a b : Nat) : s.extract a b = mk ((s.data.toList.drop a).take (b - a)) := by
  rw [← mk_data (s.extract a b)]
  congr 1
  rw [Lib.extract_data]
theorem free_step {l : List UInt8} {a b : Nat} (hab : a ≤ b) (hb : b < l.length) (h : 46 ∉ (l.drop a).take (b - a)) (hc : l[b] ≠ 46) : 46 ∉ (l.drop a).take (b + 1 - a) := by
  have e : b + 1 - a = (b - a) + 1 := by omega
  have hl : b - a < (l.drop a).length := by rw [List.length_drop]; omega
  rw [e, List.take_succ_eq_append_getElem hl]
  intro hm
  rcases List.mem_append.1 hm with h2 | h2
  · exact h h2
  · simp only [List.mem_singleton, List.getElem_drop] at h2
    have : a + (b - a) = b := by omega
    simp only [this] at h2
    exact hc h2.symm
theorem spl_part {l : List UInt8} {a b : Nat} (hab : a ≤ b) (hb : b < l.length) (h : 46 ∉ (l.drop a).take (b - a)) (hc : l[b] = 46) : spl (l.drop a) = (l.drop a).take (b - a) :: spl (l.drop (b + 1)) := by
  have e : l.drop a = (l.drop a).take (b - a) ++ 46 :: l.drop (b + 1) := by
    have h1 : (l.drop a).drop (b - a) = l.drop b := by rw [List.drop_drop]; congr 1; omega
    have h2 : l.drop b = 46 :: l.drop (b + 1) := by rw [List.drop_eq_getElem_cons hb, hc]
    rw [← h2, ← h1, List.take_append_drop]
  conv => lhs; rw [e]
  exact spl_app _ _ h

theorem spl_le (s : ByteArray) : (spl s.data.toList).length ≤ s.size + 1 := by
  rw [spl_len]
  have h5 : s.data.toList.count 46 ≤ s.data.toList.length := List.count_le_length
  have h6 : s.data.toList.length = s.size := by simp
  omega
theorem byte_is {s : ByteArray} {k : Nat} (h : k < s.size) (hb : s[k] = 46) (hl : k < s.data.toList.length) : s.data.toList[k] = 46 := by
  rw [← hb]; simp [ByteArray.getElem_eq_getElem_data]
theorem byte_ne {s : ByteArray} {k : Nat} (h : k < s.size) (hb : s[k] ≠ 46) (hl : k < s.data.toList.length) : s.data.toList[k] ≠ 46 := fun e => hb (by
  rw [← e]; simp [ByteArray.getElem_eq_getElem_data])
theorem toNat_ne {c : UInt8} (h : c ≠ 46) : ((c.toNat : Int) == 46) = false ∧ ¬ (c.toNat : Int) = 46 := by
  have h2 : ¬ (c.toNat : Int) = 46 := fun e => h (UInt8.toNat_inj.1 (by have : c.toNat = 46 := by omega
                                                                        rw [this]; rfl))
  exact ⟨by simpa using h2, h2⟩

set_option maxHeartbeats 3200000 in
set_option maxRecDepth 100000 in
theorem labelsOf_any (s : ByteArray) (w : World) (hs : s.size ≤ 2000000) :
    Calls Tryz.prog 99 #[.string s] w fun e w' => ∃ v, e = .returned v ∧ OwnS w.heap.size w' v (labs s) ∧ Below w.heap.size w w' := by
  by_cases h0 : s.size = 0
  · have e0 : labs s = [] := by unfold labs; rw [if_pos h0]
    rw [e0]
    have := isempty h0
    subst this
    clear e0 h0 hs
    go_enter Tryz.func99, Tryz.ntmps99
    go_wp2_with fail
    go_ret
    exact ⟨_, rfl, ownS_nil _ _, Below.refl _ _⟩
  · obtain ⟨n1, n2⟩ := nempty h0
    obtain ⟨i0, hi0, hz0, hzs, hzb⟩ := info_parts Tryz.info9
    have HL : Hid (labs s = (spl s.data.toList).map mk) := (show labs s = _ by unfold labs; rw [if_neg h0])
    have HCN : Hid ((spl s.data.toList).length ≤ s.size + 1) := spl_le s
    generalize labs s = LS at *
    clear h0
    go_enter Tryz.func99, Tryz.ntmps99
    go_wp2_with fail
    go_loopw [3, 4, 5] (fun o f i wr => ∃ (a k : Nat) (D : List (List UInt8)), a ≤ k ∧ k ≤ s.size ∧ f = .int .i64 a ∧ i = .int .i64 k ∧ Hid (spl s.data.toList = D ++ spl (s.data.toList.drop a)) ∧ Hid (46 ∉ (s.data.toList.drop a).take (k - a)) ∧ Hid (Below w.heap.size w wr) ∧ Hid (OwnS w.heap.size wr o (D.map mk))) (fun _ _ i _ => s.size - (intOf i).toNat)
    case atStart => exact ⟨0, 0, [], Nat.le_refl _, Nat.zero_le _, rfl, rfl, rfl, (show 46 ∉ _ by simp), Below.refl _ _, ownS_nil _ _⟩
    case round =>
      obtain ⟨a, k, D, hak, hk, rfl, rfl, HS, HFR, HB, HO⟩ := hrel
      have hsz := HB.out.size
      have hDl : D.length ≤ s.size + 1 := by
        have h5 := HCN.out
        rw [HS.out, List.length_append] at h5
        omega
      have ha1 : (0 : Int) ≤ (a : Int) := by omega
      have ha3 : ((a : Int)).toNat = a := by omega
      have hk3 : ((k : Int)).toNat = k := by omega
      by_cases hlt : k < s.size
      · have hak2 : (a : Int) ≤ (k : Int) := by omega
        have hks : (k : Int) ≤ (s.size : Int) := by omega
        by_cases hb : s[k] = 46
        · have hn46 : ((s[k]).toNat : Int) = 46 := by rw [hb]; rfl
          have HS2 : Hid (spl s.data.toList = (D ++ [(s.data.toList.drop a).take (k - a)]) ++ spl (s.data.toList.drop (k + 1))) := (show _ = _ by
            have hlk : k < s.data.toList.length := by simpa using hlt
            rw [HS.out, spl_part hak hlk HFR.out (byte_is hlt hb hlk)]; simp)
          have HX : Hid (mk ((s.data.toList.drop a).take (k - a)) = s.extract a k) := (ext_mid s a k).symm
          clear HS HFR
          go_wp2_with (at_builtin; refine wpList_append_own _ rfl _ _ 115 rfl w.heap.size 9 i0 _ 1 16 Tryz.underlying115 hi0 hz0 hzs hzb rfl (by omega) _ (D.map mk).length ((D.map mk).map Value.string) rfl ?hown ⟨wr.heap.size, 0, none⟩ 1 1 [.string (s.extract a k)] rfl rfl ?hnews (strs_one [_]) ?h63 ?hbytes ?hbase ?_)
          case hown => exact HO.out.below ((Below.refl _ _).alloc (Nat.le_refl _) _)
          case hnews => (intro j u hj; rw [Addr.add_lit]; exact (cell_topL (by simp)).trans (by simpa using hj))
          case h63 => (rw [List.length_map]; unfold maxLen; omega)
          case hbytes => (rw [List.length_map]; omega)
          case hbase => (simp; omega)
          intro v' w2 r1 r2 r3
          have HBX : Hid (Below w.heap.size w w2) := (HB.out.alloc hsz _).grown r2 (by simp; omega) (fun j hj => (HO.out.lt j hj).1)
          have HOX : Hid (OwnS w.heap.size w2 v' ((D ++ [(s.data.toList.drop a).take (k - a)]).map mk)) := (show OwnS _ _ _ _ by
            rw [List.map_append, List.map_cons, List.map_nil, HX.out]; exact ownS_snoc (l := D.map mk) (by rw [List.length_map, List.map_map]; exact r1))
          clear r1 r2 r3 hb hn46
          go_wp2_with fail
          exact ⟨⟨k + 1, k + 1, D ++ [(s.data.toList.drop a).take (k - a)], Nat.le_refl _, by omega, by go_num, by go_num, HS2, (show 46 ∉ _ by simp), HBX, HOX⟩, by simp [intOf]; omega⟩
        · obtain ⟨hn1, hn2⟩ := toNat_ne hb
          have HF2 : Hid (46 ∉ (s.data.toList.drop a).take (k + 1 - a)) := (show 46 ∉ _ by
            have hlk : k < s.data.toList.length := by simpa using hlt
            exact free_step hak hlk HFR.out (byte_ne hlt hb hlk))
          clear hb HFR
          go_wp2_with fail
          exact ⟨⟨a, k + 1, D, by omega, by omega, rfl, by go_num, HS, HF2, HB, HO⟩, by simp [intOf]; omega⟩
      · have hkn : k = s.size := by omega
        have HX : Hid (mk (s.data.toList.drop a) = s.extract a s.size) := (ext_from s a).symm
        have HS2 : Hid (LS = D.map mk ++ [mk (s.data.toList.drop a)]) := (show LS = _ by
          have h46 : 46 ∉ s.data.toList.drop a := by
            have h := HFR.out
            rwa [List.take_of_length_le (by rw [List.length_drop]; simp; omega)] at h
          rw [HL.out, HS.out, spl_none _ h46]; simp)
        have has : (a : Int) ≤ (s.size : Int) := by omega
        clear HS HFR HL
        go_wp2_with (at_builtin; refine wpList_append_own _ rfl _ _ 115 rfl w.heap.size 9 i0 _ 1 16 Tryz.underlying115 hi0 hz0 hzs hzb rfl (by omega) _ (D.map mk).length ((D.map mk).map Value.string) rfl ?hown ⟨wr.heap.size, 0, none⟩ 1 1 [.string (s.extract a s.size)] rfl rfl ?hnews (strs_one [_]) ?h63 ?hbytes ?hbase ?_)
        case hown => exact HO.out.below ((Below.refl _ _).alloc (Nat.le_refl _) _)
        case hnews => (intro j u hj; rw [Addr.add_lit]; exact (cell_topL (by simp)).trans (by simpa using hj))
        case h63 => (rw [List.length_map]; unfold maxLen; omega)
        case hbytes => (rw [List.length_map]; omega)
        case hbase => (simp; omega)
        intro v' w2 r1 r2 r3
        have HBX : Hid (Below w.heap.size w w2) := (HB.out.alloc hsz _).grown r2 (by simp; omega) (fun j hj => (HO.out.lt j hj).1)
        have HOX : Hid (OwnS w.heap.size w2 v' LS) := (show OwnS _ _ _ _ by
          rw [HS2.out, HX.out]; exact ownS_snoc (l := D.map mk) (by rw [List.length_map, List.map_map]; exact r1))
        clear r1 r2 r3
        go_wp2_with fail
        go_ret
        exact ⟨v', rfl, HOX.out, HBX.out⟩

end Go.Proofs.YtigffgjkakalfaaGreatDoor

/- The document's check of a name. -/
namespace Go.Proofs.YtigffgjkakalfaaGreatDoor
open Go.RowKit

theorem chkN_labs (s : ByteArray) : chkN s = if (labs s).all labB = false then 1 else if 8 < (labs s).length ∨ 120 < s.size then 2 else 0 := by
  unfold chkN labs
  by_cases h0 : s.size = 0
  · rw [if_pos h0, if_pos h0]; simp [h0]
  · rw [if_neg h0, if_neg h0]
    have e : ((spl s.data.toList).map mk).all labB = (spl s.data.toList).all labL := by rw [List.all_map]; rfl
    rw [e, List.length_map]

theorem labs_len (s : ByteArray) : (labs s).length ≤ s.size + 1 := by
  unfold labs
  split
  · simp
  · rw [List.length_map]; exact spl_le s
theorem len_le_jn : ∀ {xs : List (List UInt8)} {x : List UInt8}, x ∈ xs → x.length ≤ (jn xs).length
  | [y], x, h => by simp at h; subst h; exact Nat.le_refl _
  | y :: z :: r, x, h => by
    have e : (jn (y :: z :: r)).length = y.length + 1 + (jn (z :: r)).length := by
      show (y ++ 46 :: jn (z :: r)).length = _
      simp; omega
    rcases List.mem_cons.1 h with rfl | h2
    · omega
    · have := len_le_jn h2; omega
theorem labs_size (s : ByteArray) (hs : s.size ≤ maxLen) : ∀ j, ((labs s).getD j ByteArray.empty).size ≤ maxLen := fun j => by
  by_cases hj : j < (labs s).length
  · rw [show (labs s).getD j ByteArray.empty = (labs s)[j] by simp [List.getD, List.getElem?_eq_getElem hj]]
    have hm : (labs s)[j] ∈ labs s := List.getElem_mem hj
    revert hm
    generalize (labs s)[j] = x
    unfold labs
    split
    · simp
    · intro hm
      obtain ⟨y, hy, rfl⟩ := List.mem_map.1 hm
      rw [mk_size]
      have h := len_le_jn hy
      rw [jn_spl] at h
      have h6 : s.data.toList.length = s.size := by simp
      omega
  · rw [show (labs s).getD j ByteArray.empty = ByteArray.empty by simp [List.getD, List.getElem?_eq_none (by omega : (labs s).length ≤ j)]]; decide

set_option maxHeartbeats 1600000 in
theorem rCheckName_any (s : ByteArray) (w : World) (hs : s.size ≤ 2000000) :
    Calls Tryz.prog 75 #[.string s] w fun e w' => e = .returned (.int .i64 (chkN s)) ∧ Below w.heap.size w w' := by
  have HLO : Hid (Calls Tryz.prog 99 #[.string s] w fun e w' => ∃ v, e = .returned v ∧ OwnS w.heap.size w' v (labs s) ∧ Below w.heap.size w w') := labelsOf_any s w hs
  have hsm : s.size ≤ maxLen := by unfold maxLen; omega
  have HZ : Hid (∀ j, ((labs s).getD j ByteArray.empty).size ≤ maxLen) := labs_size s hsm
  have HE : Hid (chkN s = if (labs s).all labB = false then 1 else if 8 < (labs s).length ∨ 120 < s.size then 2 else 0) := chkN_labs s
  have hln := labs_len s
  have H0 : Hid ((∀ j, j < (labs s).length → labB ((labs s).getD j ByteArray.empty) = true) → (labs s).all labB = true) := fun h => by
    rw [List.all_eq_true]
    intro x hx
    obtain ⟨j, hj, rfl⟩ := List.getElem_of_mem hx
    have := h j hj
    simpa [List.getD, List.getElem?_eq_getElem hj] using this
  have H1 : Hid (∀ j, j < (labs s).length → labB ((labs s).getD j ByteArray.empty) = false → (labs s).all labB = false) := fun j hj h => by
    rw [List.all_eq_false]
    refine ⟨(labs s)[j], List.getElem_mem hj, ?_⟩
    rw [show (labs s).getD j ByteArray.empty = (labs s)[j] by simp [List.getD, List.getElem?_eq_getElem hj]] at h
    simp [h]
  generalize chkN s = r at *
  generalize labs s = L at *
  generalize L.all labB = al at *
  go_enter Tryz.func75, Tryz.ntmps75
  go_wp2_with (go_at_call 99; refine HLO.out.mono ?_; rintro e w1 ⟨v, rfl, hO, hb1⟩)
  have HB1 : Hid (Below w.heap.size w w1) := hb1
  obtain ⟨p, c, hv, hcl⟩ : ∃ p c, v = .slice p L.length c ∧ Hid (0 < L.length → ∃ g, p = some ⟨g, 0, none⟩ ∧ ∀ j, j < L.length → w1.cell? ⟨g, j, none⟩ = some (.string (L.getD j ByteArray.empty))) := by
    rcases OwnS.form hO with ⟨h1, h2⟩ | ⟨g, c, h1, _, _, _, h5⟩
    · exact ⟨none, 0, by rw [h1, h2]; rfl, fun h => by rw [h2] at h; simp at h⟩
    · exact ⟨_, c, h1, fun _ => ⟨g, rfl, h5⟩⟩
  subst hv
  clear hO hb1 HLO
  generalize hna : L.length = n at *
  clear hna
  go_loop [4] (fun i => ∃ k : Nat, k ≤ n ∧ i = .int .i64 k ∧ Hid (∀ j, j < k → labB (L.getD j ByteArray.empty) = true)) (fun i => n - (intOf i).toNat)
  case atStart => exact ⟨0, Nat.zero_le _, rfl, fun j h => absurd h (Nat.not_lt_zero _)⟩
  case round =>
    obtain ⟨k, hk, rfl, hz⟩ := hrel
    by_cases hlt : k < n
    · obtain ⟨g, hp, hc⟩ := hcl.out (by omega)
      subst hp
      have hck := hc k hlt
      have hsk := HZ.out k
      have HZ2 : Hid (labB (L.getD k ByteArray.empty) = true → ∀ j, j < k + 1 → labB (L.getD j ByteArray.empty) = true) := fun h j hj => by
        rcases Nat.lt_succ_iff_lt_or_eq.1 hj with h2 | rfl
        · exact hz.out j h2
        · exact h
      have HFF : Hid (labB (L.getD k ByteArray.empty) = false → r = 1) := fun h => by rw [HE.out, H1.out k hlt h]; rfl
      clear hc
      generalize L.getD k ByteArray.empty = x at *
      rcases hl : labB x with _ | _
      · have HR : Hid (r = 1) := HFF.out hl
        go_wp2_with (go_at_call 73; refine (isLabel_any _ _ hsk).mono ?_; rintro e w' ⟨rfl, rfl⟩; rw [hl])
        go_ret
        exact ⟨ret_int HR.out.symm, HB1.out⟩
      · have HZ3 := HZ2.out hl
        have HZ4 : Hid (∀ j, j < k + 1 → labB (L.getD j ByteArray.empty) = true) := HZ3
        clear HZ2 HFF HZ3
        go_wp2_with (go_at_call 73; refine (isLabel_any _ _ hsk).mono ?_; rintro e w' ⟨rfl, rfl⟩; rw [hl])
        go_round
        case rel => exact ⟨k + 1, by omega, by go_num, HZ4.out⟩
        case measure => simp [intOf]; omega
    · have HAL : al = true := H0.out fun j hj => hz.out j (by omega)
      have HR0 : Hid (r = if 8 < n ∨ 120 < s.size then 2 else 0) := (show r = _ by rw [HE.out, HAL]; rfl)
      clear hz HE HAL
      by_cases h8 : 8 < n
      · have HR : Hid (r = 2) := (show r = 2 by rw [HR0.out, if_pos (.inl h8)])
        have h9 : decide (8 < (n : Int)) = true := by simp; omega
        clear HR0
        go_wp2_with fail
        go_ret
        exact ⟨ret_int HR.out.symm, HB1.out⟩
      · have h9 : decide (8 < (n : Int)) = false := by simp; omega
        by_cases h120 : 120 < s.size
        · have HR : Hid (r = 2) := (show r = 2 by rw [HR0.out, if_pos (.inr h120)])
          have h10 : decide (120 < (s.size : Int)) = true := by simp; omega
          clear HR0
          go_wp2_with fail
          go_ret
          exact ⟨ret_int HR.out.symm, HB1.out⟩
        · have HR : Hid (r = 0) := (show r = 0 by rw [HR0.out, if_neg (by omega)])
          have h10 : decide (120 < (s.size : Int)) = false := by simp; omega
          clear HR0
          go_wp2_with fail
          go_ret
          exact ⟨ret_int HR.out.symm, HB1.out⟩

end Go.Proofs.YtigffgjkakalfaaGreatDoor

/- Names written. -/
namespace Go.Proofs.YtigffgjkakalfaaGreatDoor
open Go.RowKit

/-- A label behind its length. -/
def wlab (l : ByteArray) : List Value := nbs l.size 1 ++ Lib.strCells l
/-- A name as it is written. -/
def wname (s : ByteArray) : List Value := (labs s).flatMap wlab ++ nbs 0 1

theorem IsW.alloc {B b : Nat} {bs : List Value} {w : World} (h : IsW B b bs w) (o : Obj) : IsW B b bs (w.alloc o) := by
  have go : ∀ p, WAt B b p bs w → WAt B b p bs (w.alloc o) := fun p ⟨hB, v, hb, ho, hne⟩ =>
    ⟨hB, v, (Lib.alloc_old w o b (Array.getElem?_eq_some_iff.1 hb).1).trans hb, ho.alloc o, hne⟩
  rcases h with h | h
  · exact .inl (go _ h)
  · exact .inr (go _ h)
theorem IsW.lt {B b : Nat} {bs : List Value} {w : World} (h : IsW B b bs w) : b < w.heap.size := by
  rcases h with h | h
  · exact h.lt
  · exact h.lt
theorem wlab_len (l : ByteArray) : (wlab l).length = 1 + l.size := by
  unfold wlab
  rw [List.length_append, nbs_len, Lib.strCells_length]
theorem flat_len : ∀ (L : List ByteArray), (∀ x ∈ L, x.size ≤ 30) → (L.flatMap wlab).length ≤ 31 * L.length
  | [], _ => by simp
  | x :: r, h => by
    have h1 := h x List.mem_cons_self
    have h2 := flat_len r (fun y hy => h y (List.mem_cons_of_mem _ hy))
    rw [List.flatMap_cons, List.length_append, wlab_len, List.length_cons]
    omega
theorem chk_facts {s : ByteArray} (h : chkN s = 0) : (labs s).length ≤ 8 ∧ ∀ x ∈ labs s, x.size ≤ 30 := by
  rw [chkN_labs] at h
  split at h
  · omega
  · rename_i h1
    split at h
    · omega
    · rename_i h2
      refine ⟨by omega, fun x hx => ?_⟩
      have h3 : (labs s).all labB = true := by simpa using h1
      have h4 := List.all_eq_true.1 h3 x hx
      unfold labB at h4
      simp only [Bool.and_eq_true, decide_eq_true_eq] at h4
      exact h4.1.2
theorem Kp.alloc {B b : Nat} {w : World} (o : Obj) (hB : B ≤ w.heap.size) : Kp B b w (w.alloc o) := ⟨(Below.refl _ _).alloc hB _, (Lib.OthersKept.refl _ _ _).alloc _, fun hb => ⟨fun k hk _ _ => Lib.alloc_old w o k hk, .inl (by unfold bufOf; rw [World.cell?_of_block (w := w) (Lib.alloc_old w o b hb)])⟩⟩

set_option maxHeartbeats 1600000 in
set_option maxRecDepth 100000 in
theorem wname_any (B b : Nat) (bs : List Value) (s : ByteArray) (w : World) (hm : ML w) (h : IsW B b bs w) (hlen : bs.length ≤ 50000) (hn : chkN s = 0) (hBw : B ≤ w.heap.size) :
    Calls Tryz.prog 102 #[.pointer (some ⟨b, 0, none⟩), .string s] w fun e w' => e = .returned (.tuple #[]) ∧ IsW B b (bs ++ wname s) w' ∧ Kp B b w w' := by
  have HI : Hid (IsW B b bs w) := h
  clear h
  by_cases h0 : s.size = 0
  · have HE : Hid (wname s = nbs 0 1) := (show wname s = nbs 0 1 by unfold wname labs; rw [if_pos h0]; rfl)
    rw [HE.out]
    have := isempty h0
    subst this
    clear HE h0 hn
    go_enter Tryz.func102, Tryz.ntmps102
    go_wp2_with fail
    refine (wnumber_any B b 1 0 bs w HI.out (by omega) (by omega) hBw).mono ?_
    rintro e w1 ⟨rfl, h1, hb1⟩
    have HW1 : Hid (IsW B b (bs ++ nbs 0 1) w1) := h1
    have HB1 : Hid (Kp B b w w1) := hb1
    clear h1 hb1
    go_wp2_with fail
    simp [bodyPost, results, Tryz.results102]
    exact ⟨HW1.out, HB1.out⟩
  · obtain ⟨n1, n2⟩ := nempty h0
    have hsz : s.size ≤ 1000 := by
      unfold chkN at hn
      rw [if_neg h0] at hn
      split at hn
      · omega
      · split at hn <;> omega
    have hl : labs s = (spl s.data.toList).map mk := if_neg h0
    have hll : (labs s).length = (spl s.data.toList).length := by rw [hl, List.length_map]
    have HSP : Hid (Calls Tryz.prog 124 #[.string s, .string ⟨#[46]⟩] w fun e w' => e = .returned (.slice (some ⟨w.heap.size, 0, none⟩) (labs s).length (labs s).length) ∧ w' = w.alloc (.cells ((labs s).map Value.string).toArray 9)) := (show Calls _ _ _ _ _ by
      have h := split_any s w hm hsz
      rw [← hl, ← hll] at h
      exact h)
    obtain ⟨hL8, hL30⟩ := chk_facts hn
    have HE : Hid (bs ++ wname s = (bs ++ (labs s).flatMap wlab) ++ nbs 0 1) := (show _ = _ by unfold wname; rw [List.append_assoc])
    rw [HE.out]
    clear HE hl hll hm hn h0
    generalize labs s = L at *
    have hbl := HI.out.lt
    go_enter Tryz.func102, Tryz.ntmps102
    go_wp2_with fail
    refine HSP.out.mono ?_
    rintro e w1 ⟨rfl, hw1⟩
    have hgl : w1.heap[w.heap.size]? = some (.cells (L.map Value.string).toArray 9 (0, 0)) := by rw [hw1]; exact heap_alloc_new w _
    have HK1 : Hid (Kp B b w w1) := (show Kp B b w w1 by rw [hw1]; exact Kp.alloc _ hBw)
    have HI1 : Hid (IsW B b bs w1) := (show IsW B b bs w1 by rw [hw1]; exact HI.out.alloc _)
    have hB1 : B ≤ w1.heap.size := Nat.le_trans hBw HK1.out.size
    have HC : Hid (∀ W, Kp B b w1 W → ∀ j, j < L.length → W.cell? ⟨w.heap.size, j, none⟩ = some (.string (L.getD j ByteArray.empty))) := fun W hW j hj => by
      have hg2 : W.heap[w.heap.size]? = some (.cells (L.map Value.string).toArray 9 (0, 0)) := hW.oth _ _ hgl (by simp; omega) (by simp)
      rw [cellsAt hg2]
      simp [List.getD, hj]
    have HL30 : Hid (∀ j, (L.getD j ByteArray.empty).size ≤ 30) := fun j => by
      by_cases hj : j < L.length
      · rw [show L.getD j ByteArray.empty = L[j] by simp [List.getD, List.getElem?_eq_getElem hj]]
        exact hL30 _ (List.getElem_mem hj)
      · rw [show L.getD j ByteArray.empty = ByteArray.empty by simp [List.getD, List.getElem?_eq_none (by omega : L.length ≤ j)]]; decide
    have HFL : Hid (∀ k, ((L.take k).flatMap wlab).length ≤ 248) := fun k => by
      refine Nat.le_trans (flat_len (L.take k) fun x hx => hL30 x (List.mem_of_mem_take hx)) ?_
      rw [List.length_take]; omega
    have HST : Hid (∀ k, k < L.length → (bs ++ (L.take k).flatMap wlab) ++ (nbs (L.getD k ByteArray.empty).size 1 ++ Lib.strCells (L.getD k ByteArray.empty)) = bs ++ (L.take (k + 1)).flatMap wlab) := fun k hk => by
      rw [List.take_succ_eq_append_getElem hk, List.flatMap_append, List.append_assoc]
      simp [wlab, List.getD, hk]
    clear hgl hw1 HSP hL30
    generalize hnn : L.length = n at *
    have HNN : Hid (L.length = n) := hnn
    clear hnn
    go_wp2_with fail
    go_loopw [11] (fun i wr => ∃ k : Nat, k ≤ n ∧ i = .int .i64 k ∧ Hid (IsW B b (bs ++ (L.take k).flatMap wlab) wr) ∧ Hid (Kp B b w1 wr)) (fun i _ => n - (intOf i).toNat)
    case atStart => exact ⟨0, Nat.zero_le _, rfl, by simpa using HI1, Kp.refl _ _ _⟩
    case round =>
      obtain ⟨k, hk, rfl, HW, HKR⟩ := hrel
      have hBr : B ≤ wr.heap.size := Nat.le_trans hB1 HKR.out.size
      by_cases hlt : k < n
      · have hc := HC.out wr HKR.out k hlt
        have hx30 := HL30.out k
        have hfl := HFL.out k
        have HS2 := HST.out k hlt
        have HS3 : Hid ((bs ++ (L.take k).flatMap wlab) ++ (nbs (L.getD k ByteArray.empty).size 1 ++ Lib.strCells (L.getD k ByteArray.empty)) = bs ++ (L.take (k + 1)).flatMap wlab) := HS2
        clear HS2
        generalize L.getD k ByteArray.empty = x at *
        go_wp2_with fail
        refine (counted_any B b _ x wr HW.out (by rw [List.length_append]; omega) (by omega) hBr).mono ?_
        rintro e w2 ⟨rfl, h2, hb2⟩
        have HW2 : Hid (IsW B b (bs ++ (L.take (k + 1)).flatMap wlab) w2) := (show IsW _ _ _ _ by rw [← HS3.out]; exact h2)
        have HK2 : Hid (Kp B b w1 w2) := HKR.out.trans hb2
        clear h2 hb2
        go_wp2_with fail
        exact ⟨⟨k + 1, by omega, by go_num, HW2, HK2⟩, by simp [intOf]; omega⟩
      · have hkn : k = n := by omega
        have HWF : Hid (IsW B b (bs ++ L.flatMap wlab) wr) := (show IsW _ _ _ _ by
          have h := HW.out
          rwa [List.take_of_length_le (by rw [HNN.out]; omega)] at h)
        have hfl := HFL.out n
        rw [List.take_of_length_le (by rw [HNN.out]; exact Nat.le_refl _)] at hfl
        go_wp2_with fail
        refine (wnumber_any B b 1 0 _ wr HWF.out (by omega) (by rw [List.length_append]; omega) hBr).mono ?_
        rintro e w2 ⟨rfl, h2, hb2⟩
        have HW2 : Hid (IsW B b ((bs ++ L.flatMap wlab) ++ nbs 0 1) w2) := h2
        have HK2 : Hid (Kp B b w w2) := (HK1.out.trans HKR.out).trans hb2
        clear h2 hb2
        go_wp2_with fail
        simp [bodyPost, results, Tryz.results102]
        exact ⟨by simpa using HW2.out, HK2.out⟩

end Go.Proofs.YtigffgjkakalfaaGreatDoor

/- A message without records, written. -/
namespace Go.Proofs.YtigffgjkakalfaaGreatDoor
open Go.RowKit

def flg (ans cut : Bool) : Int := (if ans then 128 else 0) + (if cut then 2 else 0)
abbrev msgV (id code typ : Int) (ans cut : Bool) (name : ByteArray) : Value := .agg #[.int .i64 id, .bool ans, .bool cut, .int .i64 code, .string name, .int .i64 typ, .slice none 0 0]

set_option maxHeartbeats 800000 in
set_option maxRecDepth 100000 in
theorem flags_any (id code typ : Int) (ans cut : Bool) (name : ByteArray) (w : World) :
    Calls Tryz.prog 64 #[msgV id code typ ans cut name] w fun e w' => e = .returned (.int .i64 (flg ans cut)) ∧ ∃ o, w' = w.alloc o := by
  cases ans <;> cases cut
  all_goals
    go_enter Tryz.func64, Tryz.ntmps64
    go_wp2_with fail
    go_ret
    exact ⟨rfl, _, rfl⟩

/-- A message without records, as it is written. -/
def wmsg (id code typ : Int) (ans cut : Bool) (name : ByteArray) : List Value :=
  nbs id 2 ++ (nbs (flg ans cut) 1 ++ (nbs code 1 ++ (nbs 1 2 ++ (nbs 0 2 ++ (nbs 0 2 ++ (nbs 0 2 ++ (wname name ++ (nbs typ 2 ++ nbs 1 2))))))))

theorem ML.kp {B b : Nat} {w w' : World} (h : ML w) (hk : Kp B b w w') (hB : 0 < B) : ML w' := by
  obtain ⟨h1, m, h2⟩ := h
  exact ⟨Nat.lt_of_lt_of_le h1 hk.size, m, (hk.bel.cell (p := ⟨0, 0, none⟩) hB).trans h2⟩

set_option maxHeartbeats 1600000 in
set_option maxRecDepth 100000 in
theorem message_none (B b : Nat) (bs : List Value) (id code typ : Int) (ans cut : Bool) (name : ByteArray) (w : World) (hm : ML w) (h : IsW B b bs w) (hlen : bs.length ≤ 1000) (hn : chkN name = 0) (hBw : B ≤ w.heap.size) (hB0 : 0 < B) :
    Calls Tryz.prog 84 #[.pointer (some ⟨b, 0, none⟩), msgV id code typ ans cut name] w fun e w' => e = .returned (.tuple #[]) ∧ IsW B b (bs ++ wmsg id code typ ans cut name) w' ∧ Kp B b w w' := by
  have HI : Hid (IsW B b bs w) := h
  clear h
  have hbl := HI.out.lt
  obtain ⟨hL8, hL30⟩ := chk_facts hn
  have hwn : (wname name).length ≤ 249 := by
    unfold wname
    rw [List.length_append, nbs_len]
    have := flat_len (labs name) hL30
    omega
  clear hL8 hL30
  go_enter Tryz.func84, Tryz.ntmps84
  go_wp2_with fail
  obtain ⟨w0, hw0⟩ : ∃ w0, w0 = w.alloc (.cells #[.int .i64 id, .bool ans, .bool cut, .int .i64 code, .string name, .int .i64 typ, .slice none 0 0] 38) := ⟨_, rfl⟩
  rw [← hw0]
  have hg0 : w0.heap[w.heap.size]? = some (.cells #[.int .i64 id, .bool ans, .bool cut, .int .i64 code, .string name, .int .i64 typ, .slice none 0 0] 38 (0, 0)) := by rw [hw0]; exact heap_alloc_new w _
  have HK0 : Hid (Kp B b w w0) := (show Kp B b w w0 by rw [hw0]; exact Kp.alloc _ hBw)
  have HI0 : Hid (IsW B b bs w0) := (show IsW B b bs w0 by rw [hw0]; exact HI.out.alloc _)
  have HM0 : Hid (ML w0) := (show ML w0 from hm.kp HK0.out hB0)
  have HG : Hid (∀ W, Kp B b w0 W → W.cell? ⟨w.heap.size, 0, none⟩ = some (.int .i64 id) ∧ W.cell? ⟨w.heap.size, 1, none⟩ = some (.bool ans) ∧ W.cell? ⟨w.heap.size, 2, none⟩ = some (.bool cut) ∧ W.cell? ⟨w.heap.size, 3, none⟩ = some (.int .i64 code) ∧ W.cell? ⟨w.heap.size, 4, none⟩ = some (.string name) ∧ W.cell? ⟨w.heap.size, 5, none⟩ = some (.int .i64 typ) ∧ W.cell? ⟨w.heap.size, 6, none⟩ = some (.slice none 0 0)) := fun W hW => by
    have hg : W.heap[w.heap.size]? = some (.cells #[.int .i64 id, .bool ans, .bool cut, .int .i64 code, .string name, .int .i64 typ, .slice none 0 0] 38 (0, 0)) := hW.oth _ _ hg0 (by simp; omega) (by simp)
    exact ⟨cellsAt hg 0, cellsAt hg 1, cellsAt hg 2, cellsAt hg 3, cellsAt hg 4, cellsAt hg 5, cellsAt hg 6⟩
  have hz0 : B ≤ w0.heap.size := Nat.le_trans hBw HK0.out.size
  clear hg0 hw0 hm
  refine (wnumber_any B b 2 id bs w0 HI0.out (by omega) (by omega) (Nat.le_trans hz0 (Kp.size (Kp.refl B b w0)))).mono ?_
  rintro e w1 ⟨rfl, h1, hb1⟩
  have HK1 : Hid (Kp B b w0 w1) := Kp.trans (Kp.refl B b w0) hb1
  have l1 : (bs ++ nbs id 2).length ≤ 1002 := by rw [List.length_append, nbs_len]; omega
  obtain ⟨D1, hD1⟩ : ∃ D, D = bs ++ nbs id 2 := ⟨_, rfl⟩
  rw [← hD1] at h1 l1
  have HD1 : Hid (D1 = bs ++ nbs id 2) := hD1
  have HI1 : Hid (IsW B b D1 w1) := h1
  clear hD1 h1 hb1
  obtain ⟨c0, c1, c2, c3, c4, c5, c6⟩ := HG.out w1 HK1.out
  go_wp2_with fail
  refine (flags_any id code typ ans cut name _).mono ?_
  rintro e wf ⟨rfl, o, hwf⟩
  have HIf : Hid (IsW B b D1 wf) := (show IsW B b D1 wf by rw [hwf]; exact IsW.alloc HI1.out _)
  have HKf : Hid (Kp B b w0 wf) := (show Kp B b w0 wf by rw [hwf]; exact Kp.trans HK1.out (Kp.alloc _ (Nat.le_trans hz0 (Kp.size HK1.out))))
  clear hwf
  obtain ⟨x0, x1, x2, x3, x4, x5, x6⟩ := HG.out wf HKf.out
  clear c0 c1 c2 c3 c4 c5 c6
  have c0 := x0
  have c1 := x1
  have c2 := x2
  have c3 := x3
  have c4 := x4
  have c5 := x5
  have c6 := x6
  clear x0 x1 x2 x3 x4 x5 x6
  go_wp2_with fail
  refine (wnumber_any B b 1 (flg ans cut) D1 wf HIf.out (by omega) (by omega) (Nat.le_trans hz0 (Kp.size HKf.out))).mono ?_
  rintro e w2 ⟨rfl, h2, hb2⟩
  have HK2 : Hid (Kp B b w0 w2) := Kp.trans HKf.out hb2
  have l2 : (D1 ++ nbs (flg ans cut) 1).length ≤ 1003 := by rw [List.length_append, nbs_len]; omega
  obtain ⟨D2, hD2⟩ : ∃ D, D = D1 ++ nbs (flg ans cut) 1 := ⟨_, rfl⟩
  rw [← hD2] at h2 l2
  have HD2 : Hid (D2 = D1 ++ nbs (flg ans cut) 1) := hD2
  have HI2 : Hid (IsW B b D2 w2) := h2
  clear hD2 h2 hb2 c0 c1 c2 c3 c4 c5 c6
  obtain ⟨c0, c1, c2, c3, c4, c5, c6⟩ := HG.out w2 HK2.out
  go_wp2_with fail
  refine (wnumber_any B b 1 code D2 w2 HI2.out (by omega) (by omega) (Nat.le_trans hz0 (Kp.size HK2.out))).mono ?_
  rintro e w3 ⟨rfl, h3, hb3⟩
  have HK3 : Hid (Kp B b w0 w3) := Kp.trans HK2.out hb3
  have l3 : (D2 ++ nbs code 1).length ≤ 1004 := by rw [List.length_append, nbs_len]; omega
  obtain ⟨D3, hD3⟩ : ∃ D, D = D2 ++ nbs code 1 := ⟨_, rfl⟩
  rw [← hD3] at h3 l3
  have HD3 : Hid (D3 = D2 ++ nbs code 1) := hD3
  have HI3 : Hid (IsW B b D3 w3) := h3
  clear hD3 h3 hb3 c0 c1 c2 c3 c4 c5 c6
  obtain ⟨c0, c1, c2, c3, c4, c5, c6⟩ := HG.out w3 HK3.out
  go_wp2_with fail
  refine (wnumber_any B b 2 1 D3 w3 HI3.out (by omega) (by omega) (Nat.le_trans hz0 (Kp.size HK3.out))).mono ?_
  rintro e w4 ⟨rfl, h4, hb4⟩
  have HK4 : Hid (Kp B b w0 w4) := Kp.trans HK3.out hb4
  have l4 : (D3 ++ nbs 1 2).length ≤ 1006 := by rw [List.length_append, nbs_len]; omega
  obtain ⟨D4, hD4⟩ : ∃ D, D = D3 ++ nbs 1 2 := ⟨_, rfl⟩
  rw [← hD4] at h4 l4
  have HD4 : Hid (D4 = D3 ++ nbs 1 2) := hD4
  have HI4 : Hid (IsW B b D4 w4) := h4
  clear hD4 h4 hb4 c0 c1 c2 c3 c4 c5 c6
  obtain ⟨c0, c1, c2, c3, c4, c5, c6⟩ := HG.out w4 HK4.out
  go_wp2_with fail
  refine (wnumber_any B b 2 0 D4 w4 HI4.out (by omega) (by omega) (Nat.le_trans hz0 (Kp.size HK4.out))).mono ?_
  rintro e w5 ⟨rfl, h5, hb5⟩
  have HK5 : Hid (Kp B b w0 w5) := Kp.trans HK4.out hb5
  have l5 : (D4 ++ nbs 0 2).length ≤ 1008 := by rw [List.length_append, nbs_len]; omega
  obtain ⟨D5, hD5⟩ : ∃ D, D = D4 ++ nbs 0 2 := ⟨_, rfl⟩
  rw [← hD5] at h5 l5
  have HD5 : Hid (D5 = D4 ++ nbs 0 2) := hD5
  have HI5 : Hid (IsW B b D5 w5) := h5
  clear hD5 h5 hb5 c0 c1 c2 c3 c4 c5 c6
  obtain ⟨c0, c1, c2, c3, c4, c5, c6⟩ := HG.out w5 HK5.out
  go_wp2_with fail
  refine (wnumber_any B b 2 0 D5 w5 HI5.out (by omega) (by omega) (Nat.le_trans hz0 (Kp.size HK5.out))).mono ?_
  rintro e w6 ⟨rfl, h6, hb6⟩
  have HK6 : Hid (Kp B b w0 w6) := Kp.trans HK5.out hb6
  have l6 : (D5 ++ nbs 0 2).length ≤ 1010 := by rw [List.length_append, nbs_len]; omega
  obtain ⟨D6, hD6⟩ : ∃ D, D = D5 ++ nbs 0 2 := ⟨_, rfl⟩
  rw [← hD6] at h6 l6
  have HD6 : Hid (D6 = D5 ++ nbs 0 2) := hD6
  have HI6 : Hid (IsW B b D6 w6) := h6
  clear hD6 h6 hb6 c0 c1 c2 c3 c4 c5 c6
  obtain ⟨c0, c1, c2, c3, c4, c5, c6⟩ := HG.out w6 HK6.out
  go_wp2_with fail
  refine (wnumber_any B b 2 0 D6 w6 HI6.out (by omega) (by omega) (Nat.le_trans hz0 (Kp.size HK6.out))).mono ?_
  rintro e w7 ⟨rfl, h7, hb7⟩
  have HK7 : Hid (Kp B b w0 w7) := Kp.trans HK6.out hb7
  have l7 : (D6 ++ nbs 0 2).length ≤ 1012 := by rw [List.length_append, nbs_len]; omega
  obtain ⟨D7, hD7⟩ : ∃ D, D = D6 ++ nbs 0 2 := ⟨_, rfl⟩
  rw [← hD7] at h7 l7
  have HD7 : Hid (D7 = D6 ++ nbs 0 2) := hD7
  have HI7 : Hid (IsW B b D7 w7) := h7
  clear hD7 h7 hb7 c0 c1 c2 c3 c4 c5 c6
  obtain ⟨c0, c1, c2, c3, c4, c5, c6⟩ := HG.out w7 HK7.out
  go_wp2_with fail
  refine (wname_any B b D7 name w7 (ML.kp HM0.out HK7.out hB0) HI7.out (by omega) hn (Nat.le_trans hz0 (Kp.size HK7.out))).mono ?_
  rintro e w8 ⟨rfl, h8, hb8⟩
  have HK8 : Hid (Kp B b w0 w8) := Kp.trans HK7.out hb8
  have l8 : (D7 ++ wname name).length ≤ 1261 := by rw [List.length_append]; omega
  obtain ⟨D8, hD8⟩ : ∃ D, D = D7 ++ wname name := ⟨_, rfl⟩
  rw [← hD8] at h8 l8
  have HD8 : Hid (D8 = D7 ++ wname name) := hD8
  have HI8 : Hid (IsW B b D8 w8) := h8
  clear hD8 h8 hb8 c0 c1 c2 c3 c4 c5 c6
  obtain ⟨c0, c1, c2, c3, c4, c5, c6⟩ := HG.out w8 HK8.out
  go_wp2_with fail
  refine (wnumber_any B b 2 typ D8 w8 HI8.out (by omega) (by omega) (Nat.le_trans hz0 (Kp.size HK8.out))).mono ?_
  rintro e w9 ⟨rfl, h9, hb9⟩
  have HK9 : Hid (Kp B b w0 w9) := Kp.trans HK8.out hb9
  have l9 : (D8 ++ nbs typ 2).length ≤ 1263 := by rw [List.length_append, nbs_len]; omega
  obtain ⟨D9, hD9⟩ : ∃ D, D = D8 ++ nbs typ 2 := ⟨_, rfl⟩
  rw [← hD9] at h9 l9
  have HD9 : Hid (D9 = D8 ++ nbs typ 2) := hD9
  have HI9 : Hid (IsW B b D9 w9) := h9
  clear hD9 h9 hb9 c0 c1 c2 c3 c4 c5 c6
  obtain ⟨c0, c1, c2, c3, c4, c5, c6⟩ := HG.out w9 HK9.out
  go_wp2_with fail
  refine (wnumber_any B b 2 1 D9 w9 HI9.out (by omega) (by omega) (Nat.le_trans hz0 (Kp.size HK9.out))).mono ?_
  rintro e w10 ⟨rfl, h10, hb10⟩
  have HK10 : Hid (Kp B b w0 w10) := Kp.trans HK9.out hb10
  have l10 : (D9 ++ nbs 1 2).length ≤ 1265 := by rw [List.length_append, nbs_len]; omega
  obtain ⟨D10, hD10⟩ : ∃ D, D = D9 ++ nbs 1 2 := ⟨_, rfl⟩
  rw [← hD10] at h10 l10
  have HD10 : Hid (D10 = D9 ++ nbs 1 2) := hD10
  have HI10 : Hid (IsW B b D10 w10) := h10
  clear hD10 h10 hb10 c0 c1 c2 c3 c4 c5 c6
  obtain ⟨c0, c1, c2, c3, c4, c5, c6⟩ := HG.out w10 HK10.out
  go_wp2_with fail
  have HF : Hid (D10 = bs ++ wmsg id code typ ans cut name) := (show _ = _ by rw [HD10.out, HD9.out, HD8.out, HD7.out, HD6.out, HD5.out, HD4.out, HD3.out, HD2.out, HD1.out]; simp [wmsg])
  have HIF : Hid (IsW B b (bs ++ wmsg id code typ ans cut name) w10) := (show IsW _ _ _ _ by rw [← HF.out]; exact HI10.out)
  have HKF : Hid (Kp B b w w10) := HK0.out.trans HK10.out
  go_loopw [44] (fun i wr => i = .int .i64 0 ∧ wr = w10) (fun _ _ => 0)
  case atStart => exact ⟨rfl, rfl⟩
  case round =>
    obtain ⟨rfl, hwr⟩ := hrel
    subst hwr
    go_wp2_with fail
    simp [bodyPost, results, Tryz.results84]
    exact ⟨HIF.out, HKF.out⟩

end Go.Proofs.YtigffgjkakalfaaGreatDoor

/- What was written, as a text. -/
namespace Go.Proofs.YtigffgjkakalfaaGreatDoor
open Go.RowKit

theorem Tryz.cellsByte : Tryz.prog.cellsOf 5 = 1 := by kernel_rfl

set_option maxHeartbeats 1000000 in
set_option maxRecDepth 100000 in
theorem string_any (B b : Nat) (l : List UInt8) (w : World) (h : IsW B b (Lib.byteCells l) w) (h0 : l ≠ []) :
    Calls Tryz.prog 85 #[.pointer (some ⟨b, 0, none⟩)] w fun e w' => e = .returned (.string ⟨l.toArray⟩) ∧ Below B w w' := by
  obtain ⟨p, hB, v, hbk, hown, hne⟩ : ∃ p, WAt B b p (Lib.byteCells l) w := by
    rcases h with h | h
    · exact ⟨_, h⟩
    · exact ⟨_, h⟩
  have hl0 : l.length ≠ 0 := by simpa using h0
  rw [Lib.byteCells_length] at hown
  obtain ⟨g, cap, cur, rfl, hbg, hg, hnc, hcm, hcs, htake⟩ : ∃ g cap cur, v = .slice (some ⟨g, 0, none⟩) l.length cap ∧ B ≤ g ∧ w.heap[g]? = some (.cells cur 5 (0, 0)) ∧ l.length ≤ cap ∧ cap ≤ maxLen ∧ cur.size = cap * 1 ∧ cur.toList.take (l.length * 1) = Lib.byteCells l := by
    rcases hown.2 with ⟨_, hz⟩ | ⟨g, cap, cur, hv, r⟩
    · exact absurd hz hl0
    · exact ⟨g, cap, cur, hv, r⟩
  have c1 : w.drew.cell? ⟨b, 1, none⟩ = some (.slice (some ⟨g, 0, none⟩) l.length cap) := by
    have : w.drew.heap[b]? = some (.cells #[p, .slice (some ⟨g, 0, none⟩) l.length cap] 127 (0, 0)) := hbk
    rw [Lib.cell_of_heap this]; rfl
  have hSD : (Builtin.unsafeSliceData_ #[117] 141 #[.slice (some ⟨g, 0, none⟩) l.length cap]).run Tryz.prog w.drew = .ok (.pointer (some ⟨g, 0, none⟩)) w.drew :=
    Lib.run_unsafeSliceData_row _ _ _ _ _ _ (by omega)
  have hUS : (Builtin.unsafeString_ #[141, 3] 9 #[.pointer (some ⟨g, 0, none⟩), .int .i64 l.length]).run Tryz.prog w.drew = .ok (.string ⟨l.toArray⟩) (w.drew.freeze ⟨g, 0, none⟩ l.length) := by
    refine Lib.run_unsafeString_row w.drew 141 3 9 5 Tryz.underlying141 Tryz.cellsByte g cur.size (by have hg' : w.drew.heap[g]? = some (.cells cur 5 (0, 0)) := hg; simp [World.shape?, hg']) l h0 (by omega) (by unfold maxLen at hcm; omega) ?_
    intro j x hx
    have := hown.cells (g := g) rfl j (.int .u8 x.toNat) (by simp [Lib.byteCells, hx])
    exact this
  have mixed : Tryz.prog.follows .mixedOrders = true := by kernel_rfl
  go_enter Tryz.func85, Tryz.ntmps85
  go_wp2_with fail
  go_region_o
  all_goals (go_wp2; go_ret; exact ⟨rfl, Lib.below_freeze (Below.drew (Below.refl B w)) (p := ⟨g, 0, none⟩) hbg _⟩)

/-- A number's bytes, as bytes. -/
def nbl (n : Int) : Nat → List UInt8
  | 0 => []
  | k + 1 => (bt n k).toNat.toUInt8 :: nbl n k
theorem bt_rng (n : Int) (k : Nat) : 0 ≤ bt n k ∧ bt n k < 256 := by
  unfold bt
  generalize n / 2 ^ (8 * (k : Int)).toNat = x
  rw [IntKind.wrap_u8]
  omega
theorem nbs_cells (n : Int) : ∀ k, nbs n k = Lib.byteCells (nbl n k)
  | 0 => rfl
  | k + 1 => by
    have h := bt_rng n k
    rw [nbs, nbs_cells n k, nbl]
    simp [Lib.byteCells]
    omega

end Go.Proofs.YtigffgjkakalfaaGreatDoor

/- Write, of a message without records. -/
namespace Go.Proofs.YtigffgjkakalfaaGreatDoor
open Go.RowKit

def wlabL (l : ByteArray) : List UInt8 := nbl l.size 1 ++ l.data.toList
def wnameL (s : ByteArray) : List UInt8 := (labs s).flatMap wlabL ++ nbl 0 1
def wmsgL (id code typ : Int) (ans cut : Bool) (name : ByteArray) : List UInt8 :=
  nbl id 2 ++ (nbl (flg ans cut) 1 ++ (nbl code 1 ++ (nbl 1 2 ++ (nbl 0 2 ++ (nbl 0 2 ++ (nbl 0 2 ++ (wnameL name ++ (nbl typ 2 ++ nbl 1 2))))))))
theorem cells_app (a b : List UInt8) : Lib.byteCells (a ++ b) = Lib.byteCells a ++ Lib.byteCells b := by simp [Lib.byteCells]
theorem wlab_cells (l : ByteArray) : wlab l = Lib.byteCells (wlabL l) := by
  unfold wlab wlabL
  rw [cells_app, nbs_cells]
  rfl
theorem flat_cells : ∀ (L : List ByteArray), L.flatMap wlab = Lib.byteCells (L.flatMap wlabL)
  | [] => rfl
  | x :: r => by rw [List.flatMap_cons, List.flatMap_cons, cells_app, flat_cells r, wlab_cells]
theorem wname_cells (s : ByteArray) : wname s = Lib.byteCells (wnameL s) := by
  unfold wname wnameL
  rw [cells_app, flat_cells, nbs_cells]
theorem wmsg_cells (id code typ : Int) (ans cut : Bool) (name : ByteArray) : wmsg id code typ ans cut name = Lib.byteCells (wmsgL id code typ ans cut name) := by
  unfold wmsg wmsgL
  simp only [cells_app, nbs_cells, wname_cells]
theorem wmsgL_ne (id code typ : Int) (ans cut : Bool) (name : ByteArray) : wmsgL id code typ ans cut name ≠ [] := by
  unfold wmsgL
  simp [nbl]

set_option maxHeartbeats 1600000 in
set_option maxRecDepth 100000 in
theorem written_none (id code typ : Int) (ans cut : Bool) (name : ByteArray) (w : World) (hm : ML w) (hn : chkN name = 0) :
    Calls Tryz.prog 53 #[msgV id code typ ans cut name] w fun e w' => e = .returned (.string ⟨(wmsgL id code typ ans cut name).toArray⟩) ∧ Below w.heap.size w w' := by
  go_enter Tryz.func53, Tryz.ntmps53
  go_wp2_with fail
  obtain ⟨w0, hw0⟩ : ∃ w0, w0 = (w.alloc (.cells #[.int .i64 id, .bool ans, .bool cut, .int .i64 code, .string name, .int .i64 typ, .slice none 0 0] 38)).alloc (.cells #[.pointer none, .slice none 0 0] 127) := ⟨_, rfl⟩
  rw [← hw0]
  have hsz : w0.heap.size = w.heap.size + 2 := by rw [hw0]; simp
  have hgb : w0.heap[w.heap.size + 1]? = some (.cells #[.pointer none, .slice none 0 0] 127 (0, 0)) := by
    have h := heap_alloc_new (w.alloc (.cells #[.int .i64 id, .bool ans, .bool cut, .int .i64 code, .string name, .int .i64 typ, .slice none 0 0] 38)) (.cells #[.pointer none, .slice none 0 0] 127)
    rw [hw0]
    simpa using h
  have HB0 : Hid (Below w.heap.size w w0) := (show Below _ _ _ by rw [hw0]; exact ((Below.refl _ _).alloc (Nat.le_refl _) _).alloc (by simp) _)
  have HI0 : Hid (IsW (w.heap.size + 1) (w.heap.size + 1) [] w0) := (show IsW _ _ _ _ from .inl ⟨Nat.le_refl _, .slice none 0 0, hgb, World.ownsRow_nil w0 _ 5 1, by simp [Value.ownBlock]⟩)
  have HM0 : Hid (ML w0) := (show ML w0 from hm.below HB0.out)
  clear hw0 hgb hm
  refine (message_none (w.heap.size + 1) (w.heap.size + 1) [] id code typ ans cut name w0 HM0.out HI0.out (by simp) hn (by omega) (by omega)).mono ?_
  rintro e w1 ⟨rfl, h1, hb1⟩
  have HI1 : Hid (IsW (w.heap.size + 1) (w.heap.size + 1) (Lib.byteCells (wmsgL id code typ ans cut name)) w1) := (show IsW _ _ _ _ by rw [← wmsg_cells]; simpa using h1)
  have HB1 : Hid (Below w.heap.size w w1) := HB0.out.trans (hb1.bel.mono (by omega))
  have hz1 := HB1.out.size
  have hz2 := hb1.size
  clear h1 hb1
  go_wp2_with fail
  refine (string_any (w.heap.size + 1) (w.heap.size + 1) _ w1 HI1.out (wmsgL_ne _ _ _ _ _ _)).mono ?_
  rintro e w2 ⟨rfl, hb2⟩
  have HB2 : Hid (Below w.heap.size w w2) := HB1.out.trans (hb2.mono (by omega))
  clear hb2
  go_wp2_with fail
  go_ret
  exact ⟨rfl, HB2.out⟩

end Go.Proofs.YtigffgjkakalfaaGreatDoor

/- records: are two the same? -/
namespace Go.Proofs.YtigffgjkakalfaaGreatDoor
namespace Rc
open Go.RowKit

def sameM (x y : Rec) : Bool := x.name.toList == y.name.toList && (x.typ == y.typ && (x.lasts == y.lasts && (x.addr == y.addr && (x.text.toList == y.text.toList && (x.port == y.port && (x.target.toList == y.target.toList))))))

theorem sameM_iff (x y : Rec) : sameM x y = true ↔ x = y := by
  obtain ⟨x_name, x_typ, x_lasts, x_addr, x_text, x_port, x_target⟩ := x
  obtain ⟨y_name, y_typ, y_lasts, y_addr, y_text, y_port, y_target⟩ := y
  simp only [sameM, Bool.and_eq_true, beq_iff_eq, Rec.mk.injEq, Lib.toList_data]
  constructor
  · rintro ⟨h0, h1, h2, h3, h4, h5, h6⟩; exact ⟨ba_ext h0, h1, h2, h3, ba_ext h4, h5, ba_ext h6⟩
  · rintro ⟨h0, h1, h2, h3, h4, h5, h6⟩; exact ⟨by rw [h0], h1, h2, h3, by rw [h4], h5, by rw [h6]⟩

theorem eqInE (m1 m2 : Rec) (w : World) : (Op.equalIn 10000 51 (.agg #[.string m1.name, .int .i64 m1.typ, .int .i64 m1.lasts, .int .i64 m1.addr, .string m1.text, .int .i64 m1.port, .string m1.target]) (.agg #[.string m2.name, .int .i64 m2.typ, .int .i64 m2.lasts, .int .i64 m2.addr, .string m2.text, .int .i64 m2.port, .string m2.target])).run Tryz.prog w = .ok (sameM m1 m2) w := by
  have u3 := Tryz.underlying3
  have u9 := Tryz.underlying9
  have a3 := Tryz.isAgg3
  have z3 := Tryz.sizeOf3
  have a9 := Tryz.isAgg9
  have z9 := Tryz.sizeOf9
  have hS : Tryz.prog.underlying 51 = some (.struct (Tryz.prog.fieldsOf 51)) := by kernel_rfl
  have hp : Tryz.prog.stoodInHeld 51 = false := by kernel_rfl
  rw [show (10000 : Nat) = 9999 + 1 from rfl, run_equalIn_agg w 9999 51 _ _ hS hp]
  simp only [Program.fieldsOf, Tryz.underlying51]
  go_simp
  unfold sameM
  by_cases h0 : m1.name.toList = m2.name.toList
  case neg => simp [h0]
  by_cases h1 : m1.typ = m2.typ
  case neg => simp [h0, h1]
  by_cases h2 : m1.lasts = m2.lasts
  case neg => simp [h0, h1, h2]
  by_cases h3 : m1.addr = m2.addr
  case neg => simp [h0, h1, h2, h3]
  by_cases h4 : m1.text.toList = m2.text.toList
  case neg => simp [h0, h1, h2, h3, h4]
  by_cases h5 : m1.port = m2.port
  case neg => simp [h0, h1, h2, h3, h4, h5]
  by_cases h6 : m1.target.toList = m2.target.toList
  case neg => simp [h0, h1, h2, h3, h4, h5, h6]
  simp [h0, h1, h2, h3, h4, h5, h6]

theorem neqE (m1 m2 : Rec) (w : World) : Sem.run Tryz.prog (binOp .neq 51 (.agg #[.string m1.name, .int .i64 m1.typ, .int .i64 m1.lasts, .int .i64 m1.addr, .string m1.text, .int .i64 m1.port, .string m1.target]) (.agg #[.string m2.name, .int .i64 m2.typ, .int .i64 m2.lasts, .int .i64 m2.addr, .string m2.text, .int .i64 m2.port, .string m2.target])) w = .ok (.bool (!sameM m1 m2)) w := by
  rw [run_neq_struct, eqInE]
  rfl

theorem eqE (m1 m2 : Rec) (w : World) : Sem.run Tryz.prog (binOp .eql 51 (.agg #[.string m1.name, .int .i64 m1.typ, .int .i64 m1.lasts, .int .i64 m1.addr, .string m1.text, .int .i64 m1.port, .string m1.target]) (.agg #[.string m2.name, .int .i64 m2.typ, .int .i64 m2.lasts, .int .i64 m2.addr, .string m2.text, .int .i64 m2.port, .string m2.target])) w = .ok (.bool (sameM m1 m2)) w := by
  rw [run_eql_struct, eqInE]
  rfl

end Rc
end Go.Proofs.YtigffgjkakalfaaGreatDoor

/- Records are checked. -/
namespace Go.Proofs.YtigffgjkakalfaaGreatDoor
open Go.RowKit

def ownB (r : Rc.Rec) : Bool := (decide (r.typ = 1) || decide (r.addr = 0)) && ((decide (r.typ = 16) || decide (r.text.size = 0)) && (decide (r.typ = 33) || (decide (r.port = 0) && decide (r.target.size = 0))))
/-- What CheckRecord says. -/
def chkRec (r : Rc.Rec) : Int :=
  if chkN r.name ≠ 0 then chkN r.name
  else if typB r.typ = false then 7
  else if within r.lasts 0 2147483647 = false then 3
  else if ownB r = false then 1
  else if (within r.addr 0 4294967295 && within r.port 0 65535) = false then 3
  else if 200 < r.text.size then 2
  else chkN r.target

theorem ownF_name (r : Rc.Rec) : (ownF r).name = r.name := by unfold ownF; split; rfl; split; rfl; split <;> rfl
theorem ownF_typ (r : Rc.Rec) : (ownF r).typ = r.typ := by unfold ownF; split; rfl; split; rfl; split <;> rfl
theorem ownF_lasts (r : Rc.Rec) : (ownF r).lasts = r.lasts := by unfold ownF; split; rfl; split; rfl; split <;> rfl

theorem emp_iff (s : ByteArray) : s = ⟨#[]⟩ ↔ s.size = 0 := ⟨fun h => by rw [h]; rfl, isempty⟩
theorem own_same (r : Rc.Rec) : Rc.sameM r (ownF r) = ownB r := by
  rw [Bool.eq_iff_iff, Rc.sameM_iff]
  obtain ⟨name, typ, lasts, addr, text, port, target⟩ := r
  unfold ownF ownB
  simp only
  by_cases h1 : typ = 1
  · subst h1; simp [emp_iff]
  rw [if_neg h1]
  by_cases h2 : typ = 16
  · subst h2; simp [emp_iff]
  rw [if_neg h2]
  by_cases h3 : typ = 33
  · subst h3; simp [emp_iff]
  rw [if_neg h3]
  simp [h1, h2, h3, emp_iff]

set_option maxHeartbeats 1600000 in
set_option maxRecDepth 100000 in
theorem checkRecord_any (r : Rc.Rec) (w : World) (hr : r.ok) :
    Calls Tryz.prog 70 #[recV r] w fun e w' => e = outE (chkRec r) ∧ Below w.heap.size w w' := by
  have HN : Hid (∀ W, Calls Tryz.prog 68 #[.string r.name] W fun e w' => e = outE (chkN r.name) ∧ Below W.heap.size W w') := fun W => checkName_any _ _ hr.1
  have HT : Hid (∀ W, Calls Tryz.prog 68 #[.string r.target] W fun e w' => e = outE (chkN r.target) ∧ Below W.heap.size W w') := fun W => checkName_any _ _ hr.2.2
  have HO : Hid (∀ W, Calls Tryz.prog 97 #[recV r] W fun e w' => e = .returned (.agg #[.string r.name, .int .i64 r.typ, .int .i64 r.lasts, .int .i64 (ownF r).addr, .string (ownF r).text, .int .i64 (ownF r).port, .string (ownF r).target]) ∧ Below W.heap.size W w') := fun W => by
    have h := ownFields_any r W
    unfold recV at h
    rw [ownF_name, ownF_typ, ownF_lasts] at h
    exact h
  generalize hE : chkRec r = E
  unfold chkRec at hE
  go_enter Tryz.func70, Tryz.ntmps70
  go_wp2_with fail
  have hg0 : (w.alloc (.cells #[.string r.name, .int .i64 r.typ, .int .i64 r.lasts, .int .i64 r.addr, .string r.text, .int .i64 r.port, .string r.target] 51)).heap[w.heap.size]? = some (.cells #[.string r.name, .int .i64 r.typ, .int .i64 r.lasts, .int .i64 r.addr, .string r.text, .int .i64 r.port, .string r.target] 51 (0, 0)) := heap_alloc_new w _
  refine (HN.out _).mono ?_
  rintro e w1 ⟨rfl, hb1⟩
  have hg1 := (hb1.block w.heap.size (by simp)).trans hg0
  have HB1 : Hid (Below w.heap.size w w1) := ((Below.refl _ _).alloc (Nat.le_refl _) _).trans (hb1.mono (by simp))
  clear hg0 hb1
  by_cases h1 : chkN r.name = 0
  · rw [h1, outE_0]
    rw [if_neg (by simpa using h1)] at hE
    have f1 : w1.cell? ⟨w.heap.size, 1, none⟩ = some (.int .i64 r.typ) := cellsAt hg1 1
    have f2 : w1.cell? ⟨w.heap.size, 2, none⟩ = some (.int .i64 r.lasts) := cellsAt hg1 2
    go_wp2_with fail
    refine (rtype_any _ _).mono ?_
    rintro e w2 ⟨rfl, hw2⟩
    subst hw2
    rw [show (decide (r.typ = 1) || decide (r.typ = 16) || decide (r.typ = 33)) = typB r.typ from rfl]
    by_cases h2 : typB r.typ = false
    · rw [if_pos h2] at hE
      subst hE
      rw [h2]
      go_wp2_with fail
      refine (need_no _ _).mono ?_
      rintro e w3 ⟨rfl, rfl⟩
      exact ⟨rfl, rfl, HB1.out⟩
    rw [if_neg h2] at hE
    rw [show typB r.typ = true by simpa using h2]
    go_wp2_with fail
    refine (need_ok _ _).mono ?_
    rintro e w3 ⟨rfl, hw3⟩
    subst hw3
    go_wp2_with fail
    refine (within_any _ _ _ _).mono ?_
    rintro e w4 ⟨rfl, hw4⟩
    subst hw4
    by_cases h3 : within r.lasts 0 2147483647 = false
    · rw [if_pos h3] at hE
      subst hE
      rw [h3]
      go_wp2_with fail
      refine (need_no _ _).mono ?_
      rintro e w5 ⟨rfl, rfl⟩
      exact ⟨rfl, rfl, HB1.out⟩
    rw [if_neg h3] at hE
    rw [show within r.lasts 0 2147483647 = true by simpa using h3]
    go_wp2_with fail
    refine (need_ok _ _).mono ?_
    rintro e w5 ⟨rfl, hw5⟩
    subst hw5
    have f0 : w5.cell? ⟨w.heap.size, 0, none⟩ = some (.string r.name) := cellsAt hg1 0
    have f3 : w5.cell? ⟨w.heap.size, 3, none⟩ = some (.int .i64 r.addr) := cellsAt hg1 3
    have f4 : w5.cell? ⟨w.heap.size, 4, none⟩ = some (.string r.text) := cellsAt hg1 4
    have f5 : w5.cell? ⟨w.heap.size, 5, none⟩ = some (.int .i64 r.port) := cellsAt hg1 5
    have f6 : w5.cell? ⟨w.heap.size, 6, none⟩ = some (.string r.target) := cellsAt hg1 6
    have heq : ∀ W, Sem.run Tryz.prog (binOp .eql 51 (.agg #[.string r.name, .int .i64 r.typ, .int .i64 r.lasts, .int .i64 r.addr, .string r.text, .int .i64 r.port, .string r.target]) (.agg #[.string r.name, .int .i64 r.typ, .int .i64 r.lasts, .int .i64 (ownF r).addr, .string (ownF r).text, .int .i64 (ownF r).port, .string (ownF r).target])) W = .ok (.bool (ownB r)) W := fun W => by
      have h := Rc.eqE r (ownF r) W
      rw [ownF_name, ownF_typ, ownF_lasts, own_same] at h
      exact h
    have hl5 : w.heap.size < w5.drew.heap.size := (Array.getElem?_eq_some_iff.1 hg1).1
    generalize (ownF r).addr = a' at *
    generalize (ownF r).text = t' at *
    generalize (ownF r).port = p' at *
    generalize (ownF r).target = g' at *
    go_wp2_with fail
    refine wp_region_held_drew (S := fun W => W.heap[w.heap.size]? = some (.cells #[.string r.name, .int .i64 r.typ, .int .i64 r.lasts, .int .i64 r.addr, .string r.text, .int .i64 r.port, .string r.target] 51 (0, 0))) (by kernel_rfl) hg1 (fun hHeld => ?_)
    refine wpAnyH_take (i := 0) (v := recV r) rfl (by kernel_rfl) (by kernel_rfl) (by kernel_rfl) (fun _ _ _ h => h) (Or.inl ⟨by rfl, ?_⟩) (by assumption) ?_
    · intro W hSw
      have d0 : W.cell? ⟨w.heap.size, 0, none⟩ = some (.string r.name) := cellsAt hSw 0
      have d1 : W.cell? ⟨w.heap.size, 1, none⟩ = some (.int .i64 r.typ) := cellsAt hSw 1
      have d2 : W.cell? ⟨w.heap.size, 2, none⟩ = some (.int .i64 r.lasts) := cellsAt hSw 2
      have d3 : W.cell? ⟨w.heap.size, 3, none⟩ = some (.int .i64 r.addr) := cellsAt hSw 3
      have d4 : W.cell? ⟨w.heap.size, 4, none⟩ = some (.string r.text) := cellsAt hSw 4
      have d5 : W.cell? ⟨w.heap.size, 5, none⟩ = some (.int .i64 r.port) := cellsAt hSw 5
      have d6 : W.cell? ⟨w.heap.size, 6, none⟩ = some (.string r.target) := cellsAt hSw 6
      go_simp
    refine wpAnyH_take (i := 1) (v := recV r) rfl (by kernel_rfl) (by kernel_rfl) (by kernel_rfl) (fun _ _ _ h => h) (Or.inl ⟨by rfl, ?_⟩) (by assumption) ?_
    · intro W hSw
      have d0 : W.cell? ⟨w.heap.size, 0, none⟩ = some (.string r.name) := cellsAt hSw 0
      have d1 : W.cell? ⟨w.heap.size, 1, none⟩ = some (.int .i64 r.typ) := cellsAt hSw 1
      have d2 : W.cell? ⟨w.heap.size, 2, none⟩ = some (.int .i64 r.lasts) := cellsAt hSw 2
      have d3 : W.cell? ⟨w.heap.size, 3, none⟩ = some (.int .i64 r.addr) := cellsAt hSw 3
      have d4 : W.cell? ⟨w.heap.size, 4, none⟩ = some (.string r.text) := cellsAt hSw 4
      have d5 : W.cell? ⟨w.heap.size, 5, none⟩ = some (.int .i64 r.port) := cellsAt hSw 5
      have d6 : W.cell? ⟨w.heap.size, 6, none⟩ = some (.string r.target) := cellsAt hSw 6
      go_simp
    refine wpAnyH_ready (rs := [2]) (by kernel_rfl) (by simp) ?_
    refine AllReadyH.cons rfl (fun K hK => ?_) AllReadyH.nil
    go_simp
    refine (HO.out _).mono ?_
    rintro e w6 ⟨rfl, hb6⟩
    have HB6 : Hid (Below w.heap.size w w6) := HB1.out.trans (Below.trans (Below.drew (Below.refl _ _)) (hb6.mono HB1.out.size))
    have hg6 := (hb6.block w.heap.size hl5).trans hHeld
    clear hb6 HB1
    refine hK.out _ _ hg6 (fun _ => ?_)
    clear hK K
    refine wpAnyH_ready (rs := [3]) (by kernel_rfl) (by simp) ?_
    refine AllReadyH.cons rfl (fun K hK => ?_) AllReadyH.nil
    go_simp
    refine hK.out _ _ hg6 (fun _ => ?_)
    clear hK K
    refine wpAnyH_ready (rs := [4]) (by kernel_rfl) (by simp) ?_
    refine AllReadyH.cons rfl (fun K hK => ?_) AllReadyH.nil
    go_simp
    by_cases h4 : ownB r = false
    · rw [if_pos h4] at hE
      subst hE
      rw [h4]
      refine (need_no _ _).mono ?_
      rintro e w7 ⟨rfl, rfl⟩
      exact ⟨rfl, rfl, HB6.out⟩
    rw [if_neg h4] at hE
    rw [show ownB r = true by simpa using h4]
    refine (need_ok _ _).mono ?_
    rintro e w7 ⟨rfl, hw7⟩
    subst hw7
    refine hK.out _ _ hg6 (fun _ => ?_)
    clear hK K
    refine wpAnyH_done (by kernel_rfl) ?_ _
    clear heq HO f0 f1 f2 f3 f4 f5 f6
    have f3 : w7.cell? ⟨w.heap.size, 3, none⟩ = some (.int .i64 r.addr) := cellsAt hg6 3
    have f4 : w7.cell? ⟨w.heap.size, 4, none⟩ = some (.string r.text) := cellsAt hg6 4
    have f5 : w7.cell? ⟨w.heap.size, 5, none⟩ = some (.int .i64 r.port) := cellsAt hg6 5
    have f6 : w7.cell? ⟨w.heap.size, 6, none⟩ = some (.string r.target) := cellsAt hg6 6
    go_wp2_with fail
    refine (address_any _ _).mono ?_
    rintro e w8 ⟨rfl, hw8⟩
    subst hw8
    by_cases h5 : within r.addr 0 4294967295 = false
    · rw [if_pos (by rw [h5]; rfl)] at hE
      subst hE
      rw [h5]
      go_wp2_with fail
      refine (need_no _ _).mono ?_
      rintro e w9 ⟨rfl, rfl⟩
      exact ⟨rfl, rfl, HB6.out⟩
    have h5t : within r.addr 0 4294967295 = true := by simpa using h5
    rw [h5t] at hE ⊢
    rw [Bool.true_and] at hE
    go_wp2_with fail
    refine (within_any _ _ _ _).mono ?_
    rintro e w9 ⟨rfl, hw9⟩
    subst hw9
    by_cases h6 : within r.port 0 65535 = false
    · rw [if_pos h6] at hE
      subst hE
      rw [h6]
      go_wp2_with fail
      refine (need_no _ _).mono ?_
      rintro e wa ⟨rfl, rfl⟩
      exact ⟨rfl, rfl, HB6.out⟩
    rw [if_neg h6] at hE
    rw [show within r.port 0 65535 = true by simpa using h6]
    go_wp2_with fail
    refine (need_ok _ _).mono ?_
    rintro e wa ⟨rfl, hwa⟩
    subst hwa
    by_cases h7 : 200 < r.text.size
    · rw [if_pos h7] at hE
      subst hE
      have h8 : decide ((r.text.size : Int) ≤ 200) = false := by simp; omega
      go_wp2_with fail
      refine (need_no _ _).mono ?_
      rintro e wb ⟨rfl, rfl⟩
      exact ⟨rfl, rfl, HB6.out⟩
    rw [if_neg h7] at hE
    have h8 : decide ((r.text.size : Int) ≤ 200) = true := by simp; omega
    go_wp2_with fail
    refine (need_ok _ _).mono ?_
    rintro e wb ⟨rfl, hwb⟩
    subst hwb
    go_wp2_with fail
    refine (HT.out _).mono ?_
    rintro e wc ⟨rfl, hbc⟩
    have HBC : Hid (Below w.heap.size w wc) := HB6.out.trans (hbc.mono HB6.out.size)
    clear hbc
    subst hE
    by_cases h9 : chkN r.target = 0
    · rw [h9, outE_0]
      go_wp2_with fail
      simp [bodyPost, results, Tryz.results70]
      exact ⟨by rw [h9]; rfl, HBC.out⟩
    · rw [outE_ne h9]
      exact ⟨rfl, (outE_ne h9).symm, HBC.out⟩
  · rw [if_pos h1] at hE
    subst hE
    rw [outE_ne h1]
    exact ⟨rfl, (outE_ne h1).symm, HB1.out⟩

end Go.Proofs.YtigffgjkakalfaaGreatDoor

