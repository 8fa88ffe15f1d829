/- RU13, RU14, RU15, ShelfS, RU16 -/
import Derived.Test.YtigffgjkakalfaaGreatDoorV5
import Derived.Test.YtigffgjkakalfaaGreatDoorV6
import Derived.Shelf.SlSortCmp.NoneTotal
import Derived.Test.YtigffgjkakalfaaGreatDoorProg
import Derived.Shelf.SlSortFunc.HeapSort
/- DeleteFunc of rumors that were told as often as asked for. -/
namespace Go.Proofs.YtigffgjkakalfaaGreatDoor
open Go.RowKit

theorem flR_wrs {rs : List Rum} {p : Nat} (hp : p < rs.length) (r : Rum) : wrs (flR rs) (p * 6) r.cs = flR (rs.set p r) := by
  apply List.ext_getElem?
  intro k
  by_cases hk : k < rs.length * 6
  · have h2 := flR_get (rs.set p r) (k / 6) (by rw [List.length_set]; omega) (k % 6) (by omega)
    rw [show k / 6 * 6 + k % 6 = k by omega] at h2
    rw [h2]
    by_cases hkp : k / 6 = p
    · rw [show (rs.set p r).getD (k / 6) dr = r by rw [hkp]; simp [List.getD, List.getElem?_set_self hp]]
      have h3 := wrs_in r.cs (flR rs) (p * 6) (k % 6) (by rw [rcs_len]; omega) (by rw [rcs_len, flR_len]; omega)
      rw [show p * 6 + k % 6 = k by omega] at h3
      exact h3
    · rw [show (rs.set p r).getD (k / 6) dr = rs.getD (k / 6) dr by simp [List.getD, List.getElem?_set_ne (Ne.symm hkp)]]
      rw [wrs_out _ _ _ _ (by rw [rcs_len]; omega)]
      have h4 := flR_get rs (k / 6) (by omega) (k % 6) (by omega)
      rw [show k / 6 * 6 + k % 6 = k by omega] at h4
      exact h4
  · rw [List.getElem?_eq_none (by rw [wrs_len, flR_len]; omega), List.getElem?_eq_none (by rw [flR_len, List.length_set]; omega)]

def keepR (times : Int) (r : Rum) : Bool := decide (r.told < times)

set_option maxHeartbeats 800000 in
theorem takeF_all (r : Rum) (tb : Nat) (times : Int) (w : World) (ht : w.cell? ⟨tb, 0, none⟩ = some (.int .i64 times)) :
    Calls Tryz.prog 30 #[.agg #[.string r.m.name, .int .i64 r.m.state, .int .i64 r.m.life, .int .i64 r.m.addr, .bool r.m.server, .int .i64 r.told], .pointer (some ⟨tb, 0, none⟩)] w fun e w' => e = .returned (.bool (!keepR times r)) ∧ w' = w.alloc (.cells #[.string r.m.name, .int .i64 r.m.state, .int .i64 r.m.life, .int .i64 r.m.addr, .bool r.m.server, .int .i64 r.told] 57) := by
  have hb : tb < w.heap.size := World.block_lt_of_cell? w _ ht
  have ht2 : ∀ ob, (w.alloc ob).cell? ⟨tb, 0, none⟩ = some (.int .i64 times) := fun ob => by
    rw [((Below.refl w.heap.size w).alloc (Nat.le_refl _) ob).cell (p := ⟨tb, 0, none⟩) hb]; exact ht
  go_enter Tryz.func30, Tryz.ntmps30
  go_wp2_with fail
  go_ret
  refine ⟨ret_bool ?_, rfl⟩
  unfold keepR
  by_cases h : r.told < times
  · rw [decide_eq_true h]; simp; omega
  · rw [decide_eq_false h]; simp; omega

set_option maxHeartbeats 1600000 in
theorem indexFunc_any (rs : List Rum) (n b off c tb : Nat) (times : Int) (w : World) (hn : rs.length = n) (hsm : n ≤ 1000) (hr : RRow w b off rs) (hb : n ≠ 0 → b < w.heap.size) (ht : w.cell? ⟨tb, 0, none⟩ = some (.int .i64 times)) :
    Calls Tryz.prog 61 #[.slice (some ⟨b, off, none⟩) n c, .func (.func 30) #[] #[.pointer (some ⟨tb, 0, none⟩)]] w fun e w' =>
      ((e = .returned (.int .i64 (-1)) ∧ ∀ j, j < n → keepR times (rs.getD j dr) = true) ∨ (∃ i : Nat, i < n ∧ e = .returned (.int .i64 i) ∧ (∀ j, j < i → keepR times (rs.getD j dr) = true) ∧ keepR times (rs.getD i dr) = false)) ∧ Below w.heap.size w w' := by
  have HR : Hid (RRow w b off rs) := hr
  have HN : Hid (rs.length = n) := hn
  have HT : Hid (w.cell? ⟨tb, 0, none⟩ = some (.int .i64 times)) := ht
  have htb : tb < w.heap.size := World.block_lt_of_cell? w _ ht
  have HBB : Hid (n ≠ 0 → b < w.heap.size) := hb
  clear hr hn ht hb
  go_enter Tryz.func61, Tryz.ntmps61
  go_wp2_with fail
  go_loopw [8] (fun i wr => ∃ k : Nat, k ≤ n ∧ i = .int .i64 k ∧ Hid (∀ j, j < k → keepR times (rs.getD j dr) = true) ∧ Hid (Below w.heap.size w wr)) (fun i _ => n - (intOf i).toNat)
  case atStart => exact ⟨0, Nat.zero_le _, rfl, fun j hj => by omega, Below.refl _ _⟩
  case round =>
    obtain ⟨k, hk, rfl, HZ, HB⟩ := hrel
    by_cases hlt : k < n
    · obtain ⟨c0, c1, c2, c3, c4, c5⟩ := HR.out.below HB.out (HBB.out (by omega)) k (by rw [HN.out]; exact hlt)
      have ht2 : wr.cell? ⟨tb, 0, none⟩ = some (.int .i64 times) := by rw [HB.out.cell (p := ⟨tb, 0, none⟩) htb]; exact HT.out
      have HZ2 : Hid (keepR times (rs.getD k dr) = true → ∀ j, j < k + 1 → keepR times (rs.getD j dr) = true) := fun h j hj => by
        by_cases e : j = k
        · subst e; exact h
        · exact HZ.out j (by omega)
      have hF := fun w h => takeF_all (rs.getD k dr) tb times w h
      rcases hkp : keepR times (rs.getD k dr) with _ | _
      · rw [hkp] at hF
        have HKP : Hid (keepR times (rs.getD k dr) = false) := hkp
        clear hkp HZ2
        generalize hrk : rs.getD k dr = rk at *
        have HRK : Hid (rs.getD k dr = rk) := hrk
        clear hrk
        obtain ⟨⟨nm, st, lf, ad, sv⟩, td⟩ := rk
        simp only at c0 c1 c2 c3 c4 c5 hF
        go_wp2_with fail
        refine (hF _ ht2).mono ?_
        rintro e w1 ⟨rfl, rfl⟩
        go_wp2_with fail
        go_ret
        exact ⟨.inr ⟨k, hlt, rfl, HZ.out, by rw [HRK.out]; exact HKP.out⟩, HB.out.alloc HB.out.size _⟩
      · rw [hkp] at hF
        have HZ3 : Hid (∀ j, j < k + 1 → keepR times (rs.getD j dr) = true) := HZ2.out hkp
        clear hkp HZ2 HZ
        generalize (rs.getD k dr) = rk at *
        obtain ⟨⟨nm, st, lf, ad, sv⟩, td⟩ := rk
        simp only at c0 c1 c2 c3 c4 c5 hF
        go_wp2_with fail
        refine (hF _ ht2).mono ?_
        rintro e w1 ⟨rfl, rfl⟩
        go_wp2_with fail
        go_roundw
        case rel => exact ⟨k + 1, by omega, by go_num, HZ3, HB.out.alloc HB.out.size _⟩
        case measure => simp [intOf]; omega
    · have HZ3 : Hid (∀ j, j < n → keepR times (rs.getD j dr) = true) := fun j hj => HZ.out j (by omega)
      clear HZ
      go_wp2_with fail
      go_ret
      exact ⟨.inl ⟨rfl, HZ3.out⟩, HB.out⟩

def zsR (m : Nat) : List Value := (Builtin.zeroCells #[.string ⟨#[]⟩, .int .i64 0, .int .i64 0, .int .i64 0, .bool false, .int .i64 0] m).toList
theorem zsR_len (m : Nat) : (zsR m).length = m * 6 := by simp [zsR, Builtin.zeroCells]
theorem zsR_one (m : Nat) : ∀ v ∈ zsR m, v.oneCell' = true := by
  intro v hv
  simp only [zsR, Builtin.zeroCells, Array.toList_map, List.mem_map] at hv
  obtain ⟨i, _, rfl⟩ := hv
  have h : i % 6 < 6 := Nat.mod_lt _ (by decide)
  show Value.oneCell' (#[Value.string ⟨#[]⟩, .int .i64 0, .int .i64 0, .int .i64 0, .bool false, .int .i64 0][i % 6]!) = true
  generalize i % 6 = k at h
  match k, h with
  | 0, _ => rfl
  | 1, _ => rfl
  | 2, _ => rfl
  | 3, _ => rfl
  | 4, _ => rfl
  | 5, _ => rfl
theorem run_clear_many (w : World) (ty : TypeId) (b o m c : Nat) (hm : 0 < m) (hc : ∀ j, j < m * 6 → (w.cell? ⟨b, o + j, none⟩).isSome = true) (hf : ∀ j, j < m * 6 → w.frozen? ⟨b, o + j, none⟩ = false) :
    (Builtin.clear_ #[25] ty #[.slice (some ⟨b, o, none⟩) m c]).run Tryz.prog w = .ok (.tuple #[]) (w.setCells b o (zsR m)) := by
  have hst := run_storeCells_cells (P := Tryz.prog) b o (zsR m) 0 w (fun j hj => by simpa using hc j (by rw [zsR_len] at hj; exact hj)) (fun j hj => by simpa using hf j (by rw [zsR_len] at hj; exact hj)) (zsR_one m)
  simp only [Nat.add_zero] at hst
  have hzc : (Builtin.zeroCells (Value.agg #[.string ⟨#[]⟩, .int .i64 0, .int .i64 0, .int .i64 0, .bool false, .int .i64 0]).cells m).toList = zsR m := rfl
  obtain ⟨k, rfl⟩ : ∃ k, m = k + 1 := ⟨m - 1, by omega⟩
  simp [Builtin.clear_, run_underlying Tryz.underlying25, hzc, hst]

theorem filter_yes {times : Int} {r : Rum} (h : keepR times r = true) : [r].filter (keepR times) = [r] := by simp [h]
theorem filter_no {times : Int} {r : Rum} (h : keepR times r = false) : [r].filter (keepR times) = [] := by simp [h]
structure Cur (rs cur : List Rum) (times : Int) (i j : Nat) : Prop where
  len : cur.length = rs.length
  head : cur.take i = (rs.take j).filter (keepR times)
  tail : cur.drop j = rs.drop j
theorem Cur.keep {rs cur : List Rum} {times : Int} {i j : Nat} (h : Cur rs cur times i j) (hij : i < j) (hj : j < rs.length) (hk : keepR times (rs.getD j dr) = true) : Cur rs (cur.set i (rs.getD j dr)) times (i + 1) (j + 1) := by
  have hs : rs.take (j + 1) = rs.take j ++ [rs.getD j dr] := by rw [List.take_succ_eq_append_getElem hj]; simp [List.getD, List.getElem?_eq_getElem hj]
  have hi : i < cur.length := by rw [h.len]; omega
  refine ⟨by rw [List.length_set]; exact h.len, ?_, ?_⟩
  · rw [hs, List.filter_append, ← h.head, List.take_succ_eq_append_getElem (by rw [List.length_set]; exact hi), List.getElem_set_self, List.take_set, List.set_eq_of_length_le (by rw [List.length_take]; omega), filter_yes hk]
  · rw [List.drop_set_of_lt (by omega)]
    have := congrArg (List.drop 1) h.tail
    rwa [List.drop_drop, List.drop_drop] at this
theorem Cur.skip {rs cur : List Rum} {times : Int} {i j : Nat} (h : Cur rs cur times i j) (hj : j < rs.length) (hk : keepR times (rs.getD j dr) = false) : Cur rs cur times i (j + 1) := by
  have hs : rs.take (j + 1) = rs.take j ++ [rs.getD j dr] := by rw [List.take_succ_eq_append_getElem hj]; simp [List.getD, List.getElem?_eq_getElem hj]
  refine ⟨h.len, ?_, ?_⟩
  · rw [hs, List.filter_append, ← h.head, filter_no hk, List.append_nil]
  · have := congrArg (List.drop 1) h.tail
    rwa [List.drop_drop, List.drop_drop] at this
theorem Cur.get {rs cur : List Rum} {times : Int} {i j : Nat} (h : Cur rs cur times i j) : cur.getD j dr = rs.getD j dr := by
  have := congrArg (fun l : List Rum => l[0]?.getD dr) h.tail
  simpa [List.getD, List.getElem?_drop] using this
theorem filter_all {times : Int} {rs : List Rum} (h : ∀ j, j < rs.length → keepR times (rs.getD j dr) = true) : rs.filter (keepR times) = rs := by
  rw [List.filter_eq_self]
  intro r hr
  obtain ⟨j, hj, rfl⟩ := List.getElem_of_mem hr
  have := h j hj
  rwa [show rs.getD j dr = rs[j] by simp [List.getD, List.getElem?_eq_getElem hj]] at this
theorem Cur.start {rs : List Rum} {times : Int} {i : Nat} (hi : i < rs.length) (h1 : ∀ j, j < i → keepR times (rs.getD j dr) = true) (h2 : keepR times (rs.getD i dr) = false) : Cur rs rs times i (i + 1) := by
  have hs : rs.take (i + 1) = rs.take i ++ [rs.getD i dr] := by rw [List.take_succ_eq_append_getElem hi]; simp [List.getD, List.getElem?_eq_getElem hi]
  refine ⟨rfl, ?_, rfl⟩
  rw [hs, List.filter_append, filter_all (rs := rs.take i) (fun j hj => by
    have hji : j < i := by rw [List.length_take] at hj; omega
    have := h1 j hji
    rwa [show (rs.take i).getD j dr = rs.getD j dr by simp [List.getD, List.getElem?_take_of_lt hji]]), filter_no h2, List.append_nil]

/-- Of what was there, nothing but one block has turned. -/
def Far (g : Nat) (w w' : World) : Prop := w.heap.size ≤ w'.heap.size ∧ ∀ k, k < w.heap.size → k ≠ g → w'.heap[k]? = w.heap[k]?
theorem Far.refl (g : Nat) (w : World) : Far g w w := ⟨Nat.le_refl _, fun _ _ _ => rfl⟩
theorem Far.trans {g : Nat} {a b c : World} (h : Far g a b) (k : Far g b c) : Far g a c := ⟨Nat.le_trans h.1 k.1, fun j hj hg => (k.2 j (Nat.lt_of_lt_of_le hj h.1) hg).trans (h.2 j hj hg)⟩
theorem Far.of {g : Nat} {w w' : World} (h : Below w.heap.size w w') : Far g w w' := ⟨h.size, fun k hk _ => h.block k hk⟩
theorem Far.setCell {g : Nat} {w w' : World} (h : Far g w w') (o : Nat) (v : Value) : Far g w (w'.setCell ⟨g, o, none⟩ v) := by
  refine ⟨by simpa using h.1, fun k hk hg => ?_⟩
  have e : (w'.setCell ⟨g, o, none⟩ v).heap[k]? = w'.heap[k]? := by
    simp only [World.setCell, Array.getElem?_modify]
    rw [if_neg (Ne.symm hg)]
  rw [e]; exact h.2 k hk hg
theorem Far.setCells {g : Nat} : ∀ (vs : List Value) (o : Nat) (w w' : World), Far g w w' → Far g w (w'.setCells g o vs)
  | [], _, _, _, h => h
  | v :: r, o, w, _, h => Far.setCells r (o + 1) w _ (h.setCell o v)

set_option maxHeartbeats 6400000 in
set_option maxRecDepth 100000 in
theorem deleteFunc_any (rs : List Rum) (n g c tb base : Nat) (times : Int) (w : World) (hn : rs.length = n) (hsm : n ≤ 1000) (ho : ROwn base w (.slice (some ⟨g, 0, none⟩) n c) rs) (hbase : base ≤ w.heap.size) (htb : tb < base) (ht : w.cell? ⟨tb, 0, none⟩ = some (.int .i64 times)) :
    Calls Tryz.prog 29 #[.slice (some ⟨g, 0, none⟩) n c, .func (.func 30) #[] #[.pointer (some ⟨tb, 0, none⟩)]] w fun e w' => ∃ m, e = .returned (.slice (some ⟨g, 0, none⟩) m c) ∧ ROwn base w' (.slice (some ⟨g, 0, none⟩) m c) (rs.filter (keepR times)) ∧ Below base w w' ∧ Far g w w' := by
  have HO : Hid (ROwn base w (.slice (some ⟨g, 0, none⟩) n c) rs) := ho
  have HN : Hid (rs.length = n) := hn
  have HT : Hid (w.cell? ⟨tb, 0, none⟩ = some (.int .i64 times)) := ht
  obtain ⟨hgl, hgh⟩ := HO.out.lt g rfl
  obtain ⟨hnc, hcm⟩ : n ≤ c ∧ c ≤ maxLen := by
    rcases HO.out.2 with ⟨hv, _⟩ | ⟨g', c', cur, hv, hbg, hg, hnc, hcm, hcs, htake⟩
    · cases hv
    · simp only [Value.slice.injEq, Option.some.injEq, Addr.mk.injEq, and_true] at hv
      obtain ⟨rfl, rfl, rfl⟩ := hv
      exact ⟨by omega, hcm⟩
  unfold maxLen at hcm
  clear ho hn ht
  go_enter Tryz.func29, Tryz.ntmps29
  go_wp2_with fail
  refine (indexFunc_any rs n g 0 c tb times _ HN.out hsm (rown_row HO.out) (fun _ => hgh) HT.out).mono ?_
  rintro e w1 ⟨⟨rfl, hall⟩ | ⟨i0, hi0, rfl, hlo, hhi⟩, hb1⟩
  · have HF : Hid (rs.filter (keepR times) = rs) := filter_all (fun j hj => hall j (by rw [HN.out] at hj; exact hj))
    have HO1 : Hid (ROwn base w1 (.slice (some ⟨g, 0, none⟩) n c) rs) := HO.out.below hb1
    have HB1 : Hid (Below base w w1) := hb1.mono hbase
    have HFA : Hid (Far g w w1) := Far.of hb1
    clear hall hb1
    go_wp2_with fail
    go_ret
    exact ⟨n, rfl, by rw [HF.out]; exact HO1.out, HB1.out, HFA.out⟩
  · have HO1 : Hid (ROwn base w1 (.slice (some ⟨g, 0, none⟩) n c) rs) := HO.out.below hb1
    have HB1 : Hid (Below base w w1) := hb1.mono hbase
    have HC1 : Hid (Cur rs rs times i0 (i0 + 1)) := Cur.start (by rw [HN.out]; exact hi0) hlo hhi
    have HFA : Hid (Far g w w1) := Far.of hb1
    clear hlo hhi hb1
    go_wp2_with fail
    go_loopw [5, 6] (fun x y wr => ∃ (i j : Nat) (cur : List Rum), i < j ∧ j ≤ n ∧ x = .int .i64 i ∧ y = .int .i64 j ∧ Hid (Cur rs cur times i j) ∧ Hid (ROwn base wr (.slice (some ⟨g, 0, none⟩) n c) cur) ∧ Hid (Below base w wr) ∧ Hid (Far g w wr)) (fun _ y _ => n - (intOf y).toNat)
    case atStart => exact ⟨i0, i0 + 1, rs, by omega, by omega, rfl, by go_num, HC1, HO1, HB1, HFA⟩
    case round =>
      clear HO1 HB1 HC1 HFA
      obtain ⟨i, j, cur, hij, hj, rfl, rfl, HC, HOW, HB, HFA⟩ := hrel
      have hsz : base ≤ wr.heap.size := by have := HB.out.size; omega
      have hgw : g < wr.heap.size := (HOW.out.lt g rfl).2
      have hcl : cur.length = n := by rw [HC.out.len, HN.out]
      by_cases hlt : j < n
      · obtain ⟨c0, c1, c2, c3, c4, c5⟩ := rown_row HOW.out j (by rw [hcl]; exact hlt)
        rw [HC.out.get] at c0 c1 c2 c3 c4 c5
        have ht2 : ∀ ob, (wr.alloc ob).cell? ⟨tb, 0, none⟩ = some (.int .i64 times) := fun ob => by
          rw [((Below.refl wr.heap.size wr).alloc (Nat.le_refl _) ob).cell (p := ⟨tb, 0, none⟩) (by simp only; omega), HB.out.cell (p := ⟨tb, 0, none⟩) htb]; exact HT.out
        have hF := fun w h => takeF_all (rs.getD j dr) tb times w h
        simp only [Nat.zero_add] at c0 c1 c2 c3 c4 c5
        rcases hkp : keepR times (rs.getD j dr) with _ | _
        · have HC2 : Hid (Cur rs cur times i (j + 1)) := HC.out.skip (by rw [HN.out]; exact hlt) hkp
          rw [hkp] at hF
          clear hkp HC
          generalize (rs.getD j dr) = rk at *
          obtain ⟨⟨nm, st, lf, ad, sv⟩, td⟩ := rk
          simp only at c0 c1 c2 c3 c4 c5 hF
          go_wp2_with fail
          refine (hF _ (ht2 _)).mono ?_
          rintro e w2 ⟨rfl, rfl⟩
          have hb2 : Below wr.heap.size wr ((wr.alloc (.cells #[.string nm, .int .i64 st, .int .i64 lf, .int .i64 ad, .bool sv, .int .i64 td] 57)).alloc (.cells #[.string nm, .int .i64 st, .int .i64 lf, .int .i64 ad, .bool sv, .int .i64 td] 57)) := ((Below.refl _ _).alloc (Nat.le_refl _) _).alloc (by simp) _
          have HO2 := HOW.out.below hb2
          have HO3 : Hid (ROwn base ((wr.alloc (.cells #[.string nm, .int .i64 st, .int .i64 lf, .int .i64 ad, .bool sv, .int .i64 td] 57)).alloc (.cells #[.string nm, .int .i64 st, .int .i64 lf, .int .i64 ad, .bool sv, .int .i64 td] 57)) (.slice (some ⟨g, 0, none⟩) n c) cur) := HO2
          have HB3 : Hid (Below base w ((wr.alloc (.cells #[.string nm, .int .i64 st, .int .i64 lf, .int .i64 ad, .bool sv, .int .i64 td] 57)).alloc (.cells #[.string nm, .int .i64 st, .int .i64 lf, .int .i64 ad, .bool sv, .int .i64 td] 57))) := HB.out.trans (hb2.mono hsz)
          have HF3 : Hid (Far g w ((wr.alloc (.cells #[.string nm, .int .i64 st, .int .i64 lf, .int .i64 ad, .bool sv, .int .i64 td] 57)).alloc (.cells #[.string nm, .int .i64 st, .int .i64 lf, .int .i64 ad, .bool sv, .int .i64 td] 57))) := HFA.out.trans (Far.of hb2)
          clear hb2 HO2
          go_wp2_with fail
          refine ⟨⟨_, _, _, _, _, _, _, _, _, _, _, _, _, _, _, _, _, _, _, _, _, _, _, ⟨i, j + 1, cur, by omega, by omega, rfl, by go_num, HC2, HO3, HB3, HF3⟩, rfl⟩, ?_⟩
          simp [intOf]; omega
        · have HC2 : Hid (Cur rs (cur.set i (rs.getD j dr)) times (i + 1) (j + 1)) := HC.out.keep hij (by rw [HN.out]; exact hlt) hkp
          rw [hkp] at hF
          have hfz : ∀ o, wr.frozen? ⟨g, o, none⟩ = false := fun o => World.ownsRow.frozenAt (n := n) (xs := flR cur) (by have h := HOW.out; have h2 : wr.ownsRow base 57 6 (.slice (some ⟨g, 0, none⟩) n c) cur.length (flR cur) := h; rw [hcl] at h2; exact h2) o
          obtain ⟨d0, d1, d2, d3, d4, d5⟩ := rown_row HOW.out i (by rw [hcl]; omega)
          simp only [Nat.zero_add] at d0 d1 d2 d3 d4 d5
          clear hkp HC
          generalize (rs.getD j dr) = rk at *
          obtain ⟨⟨nm, st, lf, ad, sv⟩, td⟩ := rk
          simp only at c0 c1 c2 c3 c4 c5 hF
          have hOS : (wr.setCells g (i * 6) (Rum.mk ⟨nm, st, lf, ad, sv⟩ td).cs).ownsRow base 57 6 (.slice (some ⟨g, 0, none⟩) n c) n (flR (cur.set i ⟨⟨nm, st, lf, ad, sv⟩, td⟩)) := by
            have h2 : wr.ownsRow base 57 6 (.slice (some ⟨g, 0, none⟩) n c) cur.length (flR cur) := HOW.out
            rw [hcl] at h2
            have h3 := stored_all (Rum.mk ⟨nm, st, lf, ad, sv⟩ td).cs _ (i * 6) _ h2
            rwa [flR_wrs (by rw [hcl]; omega)] at h3
          have HOS : Hid (ROwn base (wr.setCells g (i * 6) (Rum.mk ⟨nm, st, lf, ad, sv⟩ td).cs) (.slice (some ⟨g, 0, none⟩) n c) (cur.set i ⟨⟨nm, st, lf, ad, sv⟩, td⟩)) := (show World.ownsRow _ _ _ _ _ (cur.set i ⟨⟨nm, st, lf, ad, sv⟩, td⟩).length _ by rw [List.length_set, hcl]; exact hOS)
          have HFS : Hid (Far g w (wr.setCells g (i * 6) (Rum.mk ⟨nm, st, lf, ad, sv⟩ td).cs)) := Far.setCells _ _ _ _ HFA.out
          have HBS : Hid (Below base w (wr.setCells g (i * 6) (Rum.mk ⟨nm, st, lf, ad, sv⟩ td).cs)) := below_setCells hgl _ _ _ _ HB.out
          clear hOS
          go_wp2_with fail
          refine (hF _ (ht2 _)).mono ?_
          rintro e w2 ⟨rfl, rfl⟩
          go_wp2_with fail
          have hbz : Below (wr.setCells g (i * 6) (Rum.mk ⟨nm, st, lf, ad, sv⟩ td).cs).heap.size (wr.setCells g (i * 6) (Rum.mk ⟨nm, st, lf, ad, sv⟩ td).cs) (((wr.setCells g (i * 6) (Rum.mk ⟨nm, st, lf, ad, sv⟩ td).cs).alloc (.cells #[.string nm, .int .i64 st, .int .i64 lf, .int .i64 ad, .bool sv, .int .i64 td] 57)).alloc (.cells #[.string nm, .int .i64 st, .int .i64 lf, .int .i64 ad, .bool sv, .int .i64 td] 57)) := ((Below.refl _ _).alloc (Nat.le_refl _) _).alloc (by simp) _
          refine ⟨⟨_, _, _, _, _, _, _, _, _, _, _, _, _, _, _, _, _, _, _, _, _, _, _, ⟨i + 1, j + 1, cur.set i ⟨⟨nm, st, lf, ad, sv⟩, td⟩, by omega, by omega, by go_num, by go_num, HC2, HOS.out.below hbz, HBS.out.trans (hbz.mono (by have := HBS.out.size; omega)), HFS.out.trans (Far.of hbz)⟩, rfl⟩, ?_⟩
          simp [intOf]; omega
      · have hjn : j = n := by omega
        subst hjn
        have HR : Hid (cur.take i = rs.filter (keepR times)) := by
          have h := HC.out.head
          rw [show rs.take j = rs by rw [← HN.out]; exact List.take_length] at h
          exact h
        have hOW : wr.ownsRow base 57 6 (.slice (some ⟨g, 0, none⟩) j c) j (flR cur) := by
          have h2 : wr.ownsRow base 57 6 (.slice (some ⟨g, 0, none⟩) j c) cur.length (flR cur) := HOW.out
          rw [hcl] at h2; exact h2
        have hclear : ∀ ty, (Builtin.clear_ #[25] ty #[.slice (some ⟨g, i * 6, none⟩) (j - i) (c - i)]).run Tryz.prog wr = .ok (.tuple #[]) (wr.setCells g (i * 6) (zsR (j - i))) := fun ty =>
          run_clear_many _ ty g _ _ _ (by omega) (fun k hk => by rw [World.ownsRow.cellAt hOW _ (by omega), List.getElem?_eq_getElem (by rw [flR_len, hcl]; omega)]; rfl) (fun k _ => World.ownsRow.frozenAt hOW _)
        have HF : Hid ((wr.setCells g (i * 6) (zsR (j - i))).ownsRow base 57 6 (.slice (some ⟨g, 0, none⟩) i c) i (flR (cur.take i))) := by
          have h := owns_shrink (m := i) (stored_all (zsR (j - i)) _ (i * 6) _ hOW) (by omega)
          rw [take_eq_of (ys := flR (cur.take i)) (by rw [wrs_len, flR_len, hcl]; omega) (by rw [flR_len, List.length_take]; omega) (fun k hk => by
            rw [wrs_out _ _ _ _ (by omega), ← flR_take, List.getElem?_take_of_lt hk])] at h
          exact h
        have HLT : Hid ((cur.take i).length = i) := (show (cur.take i).length = i by rw [List.length_take]; omega)
        have HBF : Hid (Below base w (wr.setCells g (i * 6) (zsR (j - i)))) := below_setCells hgl _ _ _ _ HB.out
        have HFF : Hid (Far g w (wr.setCells g (i * 6) (zsR (j - i)))) := Far.setCells _ _ _ _ HFA.out
        have hic : i ≤ c := by omega
        have hcne : ¬ c = i := by omega
        clear hOW HOW HB HC
        go_wp2_with fail
        go_ret
        refine ⟨i, rfl, ?_, HBF.out, HFF.out⟩
        rw [← HR.out]
        show World.ownsRow _ _ _ _ _ (cur.take i).length _
        rw [HLT.out]
        exact HF.out

end Go.Proofs.YtigffgjkakalfaaGreatDoor

/- Take: the order of telling, plain mathematics. -/
namespace Go.Proofs.YtigffgjkakalfaaGreatDoor
open Go.RowKit

/-- Whose turn it is: all places, each once, those that come first less than those behind. -/
structure IsOrd (rs : List Rum) (ord : List Nat) : Prop where
  perm : ord.Perm (List.range rs.length)
  less : ∀ i j, i < j → j < ord.length → cfR rs (ord.getD i 0) (ord.getD j 0) < 0
theorem IsOrd.len {rs : List Rum} {ord : List Nat} (h : IsOrd rs ord) : ord.length = rs.length := by rw [h.perm.length_eq]; simp
theorem IsOrd.bd {rs : List Rum} {ord : List Nat} (h : IsOrd rs ord) : ∀ x ∈ ord, x < rs.length := fun x hx => by simpa using h.perm.mem_iff.1 hx
theorem IsOrd.nodup {rs : List Rum} {ord : List Nat} (h : IsOrd rs ord) : ord.Nodup := h.perm.nodup_iff.2 List.nodup_range
theorem IsOrd.all {rs : List Rum} {ord : List Nat} (h : IsOrd rs ord) : ∀ y, y < rs.length → y ∈ ord := fun y hy => h.perm.mem_iff.2 (by simpa using hy)
theorem ord_get {ord : List Nat} {j : Nat} (h : j < ord.length) : ord.getD j 0 = ord[j] := by simp [List.getD, List.getElem?_eq_getElem h]
theorem IsOrd.lt {rs : List Rum} {ord : List Nat} (h : IsOrd rs ord) {j : Nat} (hj : j < rs.length) : ord.getD j 0 < rs.length := by
  have hj' : j < ord.length := by rw [h.len]; exact hj
  rw [ord_get hj']
  exact h.bd _ (List.getElem_mem hj')
theorem IsOrd.fresh {rs : List Rum} {ord : List Nat} (h : IsOrd rs ord) {j : Nat} (hj : j < rs.length) : ord.getD j 0 ∉ ord.take j := by
  have hj' : j < ord.length := by rw [h.len]; exact hj
  rw [ord_get hj']
  intro hm
  obtain ⟨i, hi, e⟩ := List.getElem_of_mem hm
  rw [List.length_take] at hi
  rw [List.getElem_take] at e
  exact List.pairwise_iff_getElem.1 h.nodup i j (by omega) hj' (by omega) e
def bumpOne (l : List Rum) (i : Nat) : List Rum := l.set i ⟨(l.getD i dr).m, (l.getD i dr).told + 1⟩
def bump (rs : List Rum) (ord : List Nat) (k : Nat) : List Rum := (ord.take k).foldl bumpOne rs
def toldL (rs : List Rum) (ord : List Nat) (k : Nat) : List Mem := (ord.take k).map (fun i => (rs.getD i dr).m)
theorem bump_zero (rs : List Rum) (ord : List Nat) : bump rs ord 0 = rs := by simp [bump]
theorem toldL_zero (rs : List Rum) (ord : List Nat) : toldL rs ord 0 = [] := by simp [toldL]
theorem take_ord {ord : List Nat} {k : Nat} (h : k < ord.length) : ord.take (k + 1) = ord.take k ++ [ord.getD k 0] := by
  rw [List.take_succ_eq_append_getElem h, ord_get h]
theorem bump_succ {rs : List Rum} {ord : List Nat} {k : Nat} (h : k < ord.length) : bump rs ord (k + 1) = bumpOne (bump rs ord k) (ord.getD k 0) := by
  unfold bump
  rw [take_ord h, List.foldl_append]
  rfl
theorem toldL_succ {rs : List Rum} {ord : List Nat} {k : Nat} (h : k < ord.length) : toldL rs ord (k + 1) = toldL rs ord k ++ [(rs.getD (ord.getD k 0) dr).m] := by
  unfold toldL
  rw [take_ord h, List.map_append]
  rfl
theorem foldl_len : ∀ (is : List Nat) (l : List Rum), (is.foldl bumpOne l).length = l.length
  | [], _ => rfl
  | i :: r, l => by rw [List.foldl_cons, foldl_len r, bumpOne, List.length_set]
theorem bump_len (rs : List Rum) (ord : List Nat) (k : Nat) : (bump rs ord k).length = rs.length := foldl_len _ _
theorem foldl_other : ∀ (is : List Nat) (l : List Rum) (j : Nat), j ∉ is → (is.foldl bumpOne l).getD j dr = l.getD j dr
  | [], _, _, _ => rfl
  | i :: r, l, j, h => by
    simp only [List.mem_cons, not_or] at h
    rw [List.foldl_cons, foldl_other r _ j h.2, bumpOne]
    simp [List.getD, List.getElem?_set_ne (Ne.symm h.1)]
theorem bump_fresh {rs : List Rum} {ord : List Nat} (h : IsOrd rs ord) {k : Nat} (hk : k < rs.length) : (bump rs ord k).getD (ord.getD k 0) dr = rs.getD (ord.getD k 0) dr :=
  foldl_other _ _ _ (h.fresh hk)

end Go.Proofs.YtigffgjkakalfaaGreatDoor

/- Take of some rumors, once it is known whose turn it is. -/
namespace Go.Proofs.YtigffgjkakalfaaGreatDoor
open Go.RowKit

def TurnsSays (rs : List Rum) (v : Value) : Prop := ∀ w, RSl w v rs → Calls Tryz.prog 28 #[v] w fun e w' => ∃ (g c : Nat) (ord : List Nat), e = .returned (.slice (some ⟨g, 0, none⟩) rs.length c) ∧ IsOrd rs ord ∧ (∀ j, j < rs.length → w'.cell? ⟨g, j, none⟩ = some (.int .i64 (ord.getD j 0 : Nat))) ∧ rs.length ≤ c ∧ w.heap.size ≤ g ∧ Below w.heap.size w w'

theorem wrs_told {rs : List Rum} {p : Nat} (hp : p < rs.length) (t : Int) : (flR rs).set (p * 6 + 5) (.int .i64 t) = flR (rs.set p ⟨(rs.getD p dr).m, t⟩) := by
  apply List.ext_getElem?
  intro k
  by_cases hk : k < rs.length * 6
  · have h2 := flR_get (rs.set p ⟨(rs.getD p dr).m, t⟩) (k / 6) (by rw [List.length_set]; omega) (k % 6) (by omega)
    rw [show k / 6 * 6 + k % 6 = k by omega] at h2
    have h4 := flR_get rs (k / 6) (by omega) (k % 6) (by omega)
    rw [show k / 6 * 6 + k % 6 = k by omega] at h4
    rw [h2]
    by_cases hkp : k / 6 = p
    · rw [show (rs.set p ⟨(rs.getD p dr).m, t⟩).getD (k / 6) dr = ⟨(rs.getD p dr).m, t⟩ by rw [hkp]; simp [List.getD, List.getElem?_set_self hp]]
      rw [hkp] at h4
      by_cases h5 : k % 6 = 5
      · rw [show p * 6 + 5 = k by omega, List.getElem?_set_self (by rw [flR_len]; omega), h5]
        rfl
      · rw [List.getElem?_set_ne (by omega), h4]
        have h6 : k % 6 < 5 := by omega
        generalize k % 6 = q at h6
        match q, h6 with
        | 0, _ => rfl
        | 1, _ => rfl
        | 2, _ => rfl
        | 3, _ => rfl
        | 4, _ => rfl
    · rw [show (rs.set p ⟨(rs.getD p dr).m, t⟩).getD (k / 6) dr = rs.getD (k / 6) dr by simp [List.getD, List.getElem?_set_ne (Ne.symm hkp)], List.getElem?_set_ne (by omega), h4]
  · rw [List.getElem?_eq_none (by rw [List.length_set, flR_len]; omega), List.getElem?_eq_none (by rw [flR_len, List.length_set]; omega)]

theorem within_bd {n a b : Int} (h : within n a b = true) : a ≤ n ∧ n ≤ b := by simpa [within] using h
theorem Own.base {b b' : Nat} {w : World} {v : Value} {ms : List Mem} (h : Own b w v ms) (hb : b' ≤ b) : Own b' w v ms := by
  obtain ⟨h1, h2⟩ := h
  refine ⟨h1, ?_⟩
  rcases h2 with h2 | ⟨g, c, cur, hv, hbg, hr⟩
  · exact .inl h2
  · exact .inr ⟨g, c, cur, hv, Nat.le_trans hb hbg, hr⟩
theorem own_snoc' {base : Nat} {w : World} {v : Value} {L : List Mem} {m : Mem} (h : w.ownsRow base 24 5 v (L.length + 1) (fl L ++ m.cs)) : Own base w v (L ++ [m]) := by
  have e : fl (L ++ [m]) = fl L ++ m.cs := by rw [fl_append, fl_cons]; simp [fl]
  show w.ownsRow base 24 5 v (L ++ [m]).length (fl (L ++ [m]))
  rw [e, List.length_append]
  exact h
theorem Own.slice {base : Nat} {w : World} {v : Value} {ms : List Mem} (h : Own base w v ms) : ∃ a c, v = .slice a ms.length c := by
  rcases h.2 with ⟨rfl, h0⟩ | ⟨g, c, cur, rfl, _⟩
  · exact ⟨none, 0, by rw [h0]⟩
  · exact ⟨_, c, rfl⟩

set_option maxHeartbeats 6400000 in
set_option maxRecDepth 100000 in
theorem take_some (rs : List Rum) (v : Value) (most times : Int) (w : World) (hv : RSl w v rs) (h0 : chkR rs = 0) (hm : within most 1 20 = true) (ht : within times 1 100 = true) (hpos : 0 < rs.length) (hT : TurnsSays rs v) :
    Calls Tryz.prog 9 #[v, .int .i64 most, .int .i64 times] w fun e w' => ∃ (v1 v2 : Value) (ord : List Nat), e = .returned (.tuple #[v1, v2, .int .i64 0]) ∧ IsOrd rs ord ∧ Own w.heap.size w' v1 (toldL rs ord (min most.toNat rs.length)) ∧ ROwn w.heap.size w' v2 ((bump rs ord (min most.toNat rs.length)).filter (keepR times)) ∧ Below w.heap.size w w' := by
  obtain ⟨j0, hj0, hk0, hks, hkb⟩ := info_parts Tryz.info24
  have HV : Hid (RSl w v rs) := hv
  have HTT : Hid (TurnsSays rs v) := hT
  have hm1 : 1 ≤ most ∧ most ≤ 20 := by simp [within] at hm; omega
  obtain ⟨hm1, hm2⟩ := hm1
  obtain ⟨hn20, _, htold, _⟩ := chkR_zero h0
  have HTO : Hid (AllTold rs) := htold
  have hchk := fun (w : World) (h : RSl w v rs) => checkR_any rs v w h
  rw [h0] at hchk
  clear h0 hT htold
  obtain ⟨pa, ca, rfl, _, _⟩ := hv
  generalize hN : rs.length = n at *
  have HN : Hid (rs.length = n) := hN
  clear hN
  have hB0 : Below w.heap.size w (w.alloc (.cells #[.int .i64 times] 3)) := (Below.refl _ _).alloc (Nat.le_refl _) _
  go_enter Tryz.func9, Tryz.ntmps9
  go_wp2_with fail
  refine (hchk _ (HV.out.below hB0)).mono ?_
  rintro e w1 ⟨rfl, hb1⟩
  have c1 : w1.cell? ⟨w.heap.size, 0, none⟩ = some (.int .i64 times) := by
    rw [hb1.cell (p := ⟨w.heap.size, 0, none⟩) (by simp)]; exact cell_top' rfl
  have HB1 : Hid (Below w.heap.size w w1) := hB0.trans (hb1.mono (by simp))
  have hz1 : w.heap.size < w1.heap.size := by have := hb1.size; simp at this; omega
  clear hb1 hB0 hchk
  go_wp2_with (go_at_call 26; refine (within_any _ _ _ _).mono ?_; rintro e w' ⟨rfl, rfl⟩; first | rw [hm] | rw [ht])
  refine (rclone_any rs _ _ (HV.out.below HB1.out) (by rw [HN.out]; omega)).mono ?_
  rintro e w3 ⟨v3, rfl, ho3, hb3⟩
  have HO3 : Hid (ROwn (w.heap.size + 1) w3 v3 rs) := ho3.base hz1
  have c3 : w3.cell? ⟨w.heap.size, 0, none⟩ = some (.int .i64 times) := by
    rw [hb3.cell (p := ⟨w.heap.size, 0, none⟩) (by simp only; omega)]; exact c1
  have HB3 : Hid (Below w.heap.size w w3) := HB1.out.trans (hb3.mono HB1.out.size)
  have hz3 : w.heap.size < w3.heap.size := by have := hb3.size; omega
  clear hb3 ho3 c1
  go_wp2_with fail
  refine (HTT.out _ (HV.out.below HB3.out)).mono ?_
  rintro e w4 ⟨gt, ct, ord, rfl, hord, hct, hcc, hgt3, hb4⟩
  have HORD : Hid (IsOrd rs ord) := hord
  have HCT : Hid (∀ j, j < rs.length → w4.cell? ⟨gt, j, none⟩ = some (.int .i64 (ord.getD j 0 : Nat))) := hct
  have HB4 : Hid (Below w.heap.size w w4) := HB3.out.trans (hb4.mono HB3.out.size)
  have C4 : Hid (w4.cell? ⟨w.heap.size, 0, none⟩ = some (.int .i64 times)) := by
    have h := hb4.cell (p := ⟨w.heap.size, 0, none⟩) (by simp only; omega)
    exact h.trans c3
  have HO4 : Hid (ROwn (w.heap.size + 1) w4 v3 rs) := HO3.out.below hb4
  have HG3 : Hid (∀ k, v3.ownBlock = some k → k < w3.heap.size) := fun k hk => (HO3.out.lt k hk).2
  have hz4 : w3.heap.size ≤ w4.heap.size := hb4.size
  clear hb4 c3 HO3 hct hord
  obtain ⟨g, c, hv3⟩ : ∃ g c, v3 = .slice (some ⟨g, 0, none⟩) n c := by
    rcases HO4.out.2 with ⟨_, h0⟩ | ⟨g, c, cur, h, _⟩
    · have := HN.out; omega
    · exact ⟨g, c, by rw [h, HN.out]⟩
  subst hv3
  obtain ⟨hgl, hgh⟩ := HO4.out.lt g rfl
  have hg3 : g < w3.heap.size := HG3.out g rfl
  rw [HN.out] at hcc ⊢
  have HGT : Hid (gt < w4.heap.size) := World.block_lt_of_cell? w4 ⟨gt, 0, none⟩ (HCT.out 0 (by rw [HN.out]; exact hpos))
  obtain ⟨q, hq⟩ : ∃ q : Nat, q = min most.toNat n := ⟨_, rfl⟩
  have hmin : min most (n : Int) = (q : Int) := by omega
  have hqn : q ≤ n := by omega
  go_wp2_with fail
  go_loopw [11, 37] (fun o i wr => ∃ k : Nat, k ≤ q ∧ i = .int .i64 k ∧ Hid (Own w4.heap.size wr o (toldL rs ord k)) ∧ Hid (ROwn (w.heap.size + 1) wr (.slice (some ⟨g, 0, none⟩) n c) (bump rs ord k)) ∧ Hid (wr.cell? ⟨w.heap.size, 0, none⟩ = some (.int .i64 times)) ∧ Hid (∀ j, j < rs.length → wr.cell? ⟨gt, j, none⟩ = some (.int .i64 (ord.getD j 0 : Nat))) ∧ Hid (Below w.heap.size w wr) ∧ w4.heap.size ≤ wr.heap.size) (fun _ i _ => q - (intOf i).toNat)
  case atStart => exact ⟨0, Nat.zero_le _, rfl, (by rw [toldL_zero]; exact own_nil _ _), (by rw [bump_zero]; exact HO4.out), C4, HCT, HB4, Nat.le_refl _⟩
  case round =>
    obtain ⟨k, hk, rfl, HTO2, HRO, HCC, HCT2, HB, hsz⟩ := hrel
    by_cases hlt : k < q
    · have hkn : k < rs.length := by rw [HN.out]; omega
      have oc := HCT2.out k hkn
      have hat : ord.getD k 0 < n := by have := HORD.out.lt hkn; rwa [HN.out] at this
      have hbl : (bump rs ord k).length = n := by rw [bump_len]; exact HN.out
      obtain ⟨d0, d1, d2, d3, d4, d5⟩ := rown_row HRO.out (ord.getD k 0) (by rw [hbl]; exact hat)
      rw [bump_fresh HORD.out hkn] at d0 d1 d2 d3 d4 d5
      have hRO : wr.ownsRow (w.heap.size + 1) 57 6 (.slice (some ⟨g, 0, none⟩) n c) n (flR (bump rs ord k)) := by
        have h2 : wr.ownsRow (w.heap.size + 1) 57 6 (.slice (some ⟨g, 0, none⟩) n c) (bump rs ord k).length (flR (bump rs ord k)) := HRO.out
        rw [hbl] at h2; exact h2
      have hfz : ∀ o, wr.frozen? ⟨g, o, none⟩ = false := fun o => World.ownsRow.frozenAt hRO o
      have htold : within (rs.getD (ord.getD k 0) dr).told 0 100 = true := HTO.out _ (HORD.out.lt hkn)
      obtain ⟨ht3, ht4⟩ := within_bd htold
      have HRO2 : Hid (ROwn (w.heap.size + 1) (wr.setCell ⟨g, ord.getD k 0 * 6 + 5, none⟩ (.int .i64 ((rs.getD (ord.getD k 0) dr).told + 1))) (.slice (some ⟨g, 0, none⟩) n c) (bump rs ord (k + 1))) := by
        have h3 := (World.ownsRow.stored hRO (ord.getD k 0 * 6 + 5) (.int .i64 ((rs.getD (ord.getD k 0) dr).told + 1))).1
        rw [wrs_told (by rw [hbl]; exact hat), bump_fresh HORD.out hkn] at h3
        show World.ownsRow _ _ _ _ _ (bump rs ord (k + 1)).length _
        rw [bump_len, HN.out, bump_succ (by rw [HORD.out.len]; exact hkn), bumpOne, bump_fresh HORD.out hkn]
        exact h3
      have HTS : Hid (toldL rs ord (k + 1) = toldL rs ord k ++ [(rs.getD (ord.getD k 0) dr).m]) := toldL_succ (by rw [HORD.out.len]; exact hkn)
      have htl : (toldL rs ord k).length ≤ 20 := by unfold toldL; rw [List.length_map, List.length_take]; omega
      obtain ⟨oa, ocp, hvo⟩ := HTO2.out.slice
      subst hvo
      clear hRO htold
      generalize ord.getD k 0 = at1 at *
      generalize hrk : rs.getD at1 dr = rk at *
      clear hrk
      obtain ⟨⟨nm, st, lf, ad, sv⟩, td⟩ := rk
      simp only at d0 d1 d2 d3 d4 d5 ht3 ht4 HRO2 HTS
      simp only [Nat.zero_add] at d0 d1 d2 d3 d4 d5
      generalize toldL rs ord k = TL at *
      have HOT : Hid (∀ ob, ((wr.setCell ⟨g, at1 * 6 + 5, none⟩ (.int .i64 (td + 1))).alloc ob).ownsRow w4.heap.size 24 5 (.slice oa TL.length ocp) TL.length (fl TL)) := fun ob =>
        Own.below (ms := TL) (ownsRow_setCell_below HTO2.out (a := ⟨g, at1 * 6 + 5, none⟩) hgh _) ((Below.refl _ _).alloc (Nat.le_refl _) ob)
      have HLT : Hid (∀ j, (Value.slice oa TL.length ocp).ownBlock = some j → w4.heap.size ≤ j) := fun j hj => (HTO2.out.lt j hj).1
      clear HTO2 HRO
      go_wp2_with (at_builtin; refine wpList_append_own _ rfl _ _ 22 rfl w4.heap.size 24 j0 _ 5 48 Tryz.underlying22 hj0 hk0 hks hkb rfl (by omega) _ TL.length (fl TL) rfl ?hown ⟨wr.heap.size, 0, none⟩ 1 1 (Mem.mk nm st lf ad sv).cs rfl rfl ?hnews (cs_one _) ?h63 ?hbytes ?hbase ?_)
      case hown => exact HOT.out _
      case hnews => (intro j u hj; rw [Addr.add_lit]; exact (cell_top' (by simp)).trans (by simpa [Mem.cs] using hj))
      case h63 => (unfold maxLen; omega)
      case hbytes => omega
      case hbase => (simp; omega)
      intro v' w5 r1 r2 r3
      have hb5 : Below w4.heap.size (wr.setCell ⟨g, at1 * 6 + 5, none⟩ (.int .i64 (td + 1))) w5 :=
        ((Below.refl w4.heap.size (wr.setCell ⟨g, at1 * 6 + 5, none⟩ (.int .i64 (td + 1)))).alloc (by simpa using hsz) _).grown r2 (by simp; omega) (fun j hj => HLT.out j hj)
      have R1 : Hid (Own w4.heap.size w5 v' (TL ++ [⟨nm, st, lf, ad, sv⟩])) := own_snoc' r1
      have hgr : (wr.setCell ⟨g, at1 * 6 + 5, none⟩ (.int .i64 (td + 1))).heap[g]? = w5.heap[g]? := (hb5.block g hgh).symm
      have R2 : Hid (ROwn (w.heap.size + 1) w5 (.slice (some ⟨g, 0, none⟩) n c) (bump rs ord (k + 1))) := by
        obtain ⟨h1, h2⟩ := HRO2.out
        refine ⟨h1, ?_⟩
        rcases h2 with h2 | ⟨g', c', cur, hv, hbg, hg, hr⟩
        · exact .inl h2
        · have hgg : g' = g := by simp only [Value.slice.injEq, Option.some.injEq, Addr.mk.injEq, and_true] at hv; exact hv.1.symm
          subst hgg
          exact .inr ⟨g', c', cur, hv, hbg, by rw [← hgr]; exact hg, hr⟩
      have R3 : Hid (w5.cell? ⟨w.heap.size, 0, none⟩ = some (.int .i64 times)) := by
        have h1 := hb5.cell (p := ⟨w.heap.size, 0, none⟩) (by simp only; omega)
        have h2 : (wr.setCell ⟨g, at1 * 6 + 5, none⟩ (.int .i64 (td + 1))).cell? ⟨w.heap.size, 0, none⟩ = wr.cell? ⟨w.heap.size, 0, none⟩ := World.cell?_setCell_far _ _ _ _ (by simp only; omega)
        exact h1.trans (h2.trans HCC.out)
      have R4 : Hid (∀ j, j < rs.length → w5.cell? ⟨gt, j, none⟩ = some (.int .i64 (ord.getD j 0 : Nat))) := fun j hj => by
        have h1 := hb5.cell (p := ⟨gt, j, none⟩) HGT.out
        have h2 : (wr.setCell ⟨g, at1 * 6 + 5, none⟩ (.int .i64 (td + 1))).cell? ⟨gt, j, none⟩ = wr.cell? ⟨gt, j, none⟩ := World.cell?_setCell_far _ _ _ _ (by simp only; omega)
        exact h1.trans (h2.trans (HCT2.out j hj))
      have R5 : Hid (Below w.heap.size w w5) := (HB.out.setCell (p := ⟨g, at1 * 6 + 5, none⟩) (by simp only; omega) _).trans (hb5.mono (by omega))
      have hsz5 : w4.heap.size ≤ w5.heap.size := by have := hb5.size; simp at this; omega
      clear r1 r2 r3 hb5 hgr HRO2 HOT HLT d0 d1 d2 d3 d4 d5 oc
      go_wp2_with fail
      exact ⟨⟨k + 1, by omega, by go_num, (by rw [HTS.out]; exact R1.out), R2.out, R3.out, R4.out, R5.out, hsz5⟩, by simp [intOf]; omega⟩
    · have hkq : k = q := by omega
      subst hkq
      have hbl : (bump rs ord k).length = n := by rw [bump_len]; exact HN.out
      clear HCT2
      go_wp2_with fail
      refine (deleteFunc_any (bump rs ord k) n g c w.heap.size (w.heap.size + 1) times _ hbl (by omega) HRO.out (by omega) (by omega) HCC.out).mono ?_
      rintro e w6 ⟨m, rfl, ho6, hb6, hf6⟩
      have S1 : Hid (Own w.heap.size w6 u11 (toldL rs ord k)) := by
        obtain ⟨h1, h2⟩ := HTO2.out
        refine ⟨h1, ?_⟩
        rcases h2 with h2 | ⟨g', c', cur, hv, hbg, hg, hr⟩
        · exact .inl h2
        · exact .inr ⟨g', c', cur, hv, by omega, by rw [hf6.2 g' (Array.getElem?_eq_some_iff.1 hg).1 (by omega)]; exact hg, hr⟩
      have S2 : Hid (ROwn w.heap.size w6 (.slice (some ⟨g, 0, none⟩) m c) ((bump rs ord k).filter (keepR times))) := ho6.base (by omega)
      have S3 : Hid (Below w.heap.size w w6) := HB.out.trans (hb6.mono (by omega))
      clear ho6 hb6 hf6 HTO2 HRO HCC
      go_wp2_with fail
      go_ret3
      exact ⟨_, _, ord, rfl, HORD.out, by rw [← hq]; exact S1.out, by rw [← hq]; exact S2.out, S3.out⟩

end Go.Proofs.YtigffgjkakalfaaGreatDoor

/- Contracts of the library, laid at this program. -/
namespace Go.Proofs
open Go.Shelf
def Tryz.sortI_ren : Go.Shelf.Ren := ⟨fun | 6 => 57 | 15 => 88 | 14 => 87 | 28 => 114 | 29 => 115 | 20 => 106 | 21 => 107 | 22 => 108 | 23 => 109 | 24 => 110 | 25 => 111 | 26 => 112 | 27 => 113 | 46 => 129 | 47 => 130 | 48 => 131 | 49 => 132 | 50 => 133 | 57 => 143 | n => n, fun | 22 => 65 | 24 => 3 | 25 => 102 | 3 => 3 | 39 => 131 | 0 => 0 | 53 => 151 | 55 => 153 | 4 => 4 | 46 => 145 | 45 => 144 | 50 => 87 | 5 => 5 | 9 => 9 | 66 => 163 | 70 => 167 | 76 => 174 | 77 => 175 | n => n, fun | n => n⟩
theorem Tryz.sortI : Go.Proofs.SlLaysF.n6 Tryz.prog Tryz.sortI_ren := {
  mixed := by kernel_rfl
  f6 := ⟨Tryz.f57.name, by decide, Tryz.func57.trans (congrArg some (by kernel_rfl))⟩
  f14 := ⟨Tryz.f87.name, by decide, Tryz.func87.trans (congrArg some (by kernel_rfl))⟩
  f15 := Tryz.func88.trans (congrArg some (by kernel_rfl))
  f20 := ⟨Tryz.f106.name, by decide, Tryz.func106.trans (congrArg some (by kernel_rfl))⟩
  f21 := ⟨Tryz.f107.name, by decide, Tryz.func107.trans (congrArg some (by kernel_rfl))⟩
  f22 := ⟨Tryz.f108.name, by decide, Tryz.func108.trans (congrArg some (by kernel_rfl))⟩
  f23 := ⟨Tryz.f109.name, by decide, Tryz.func109.trans (congrArg some (by kernel_rfl))⟩
  f24 := ⟨Tryz.f110.name, by decide, Tryz.func110.trans (congrArg some (by kernel_rfl))⟩
  f25 := ⟨Tryz.f111.name, by decide, Tryz.func111.trans (congrArg some (by kernel_rfl))⟩
  f26 := ⟨Tryz.f112.name, by decide, Tryz.func112.trans (congrArg some (by kernel_rfl))⟩
  f27 := ⟨Tryz.f113.name, by decide, Tryz.func113.trans (congrArg some (by kernel_rfl))⟩
  f28 := Tryz.func114.trans (congrArg some (by kernel_rfl))
  f29 := Tryz.func115.trans (congrArg some (by kernel_rfl))
  f46 := ⟨Tryz.f129.name, by decide, Tryz.func129.trans (congrArg some (by kernel_rfl))⟩
  f47 := Tryz.func130.trans (congrArg some (by kernel_rfl))
  f48 := Tryz.func131.trans (congrArg some (by kernel_rfl))
  f49 := ⟨Tryz.f132.name, by decide, Tryz.func132.trans (congrArg some (by kernel_rfl))⟩
  f50 := ⟨Tryz.f133.name, by decide, Tryz.func133.trans (congrArg some (by kernel_rfl))⟩
  f57 := ⟨Tryz.f143.name, by decide, Tryz.func143.trans (congrArg some (by kernel_rfl))⟩
  t0 := Tryz.underlying0
  a0 := Tryz.isAgg0
  z0 := Tryz.sizeOf0
  v0 := Tryz.zeroValue0
  t3 := Tryz.underlying3
  a3 := Tryz.isAgg3
  z3 := Tryz.sizeOf3
  v3 := Tryz.zeroValue3
  t4 := Tryz.underlying4
  a4 := Tryz.isAgg4
  z4 := Tryz.sizeOf4
  v4 := Tryz.zeroValue4
  t5 := Tryz.underlying5
  a5 := Tryz.isAgg5
  z5 := Tryz.sizeOf5
  v5 := Tryz.zeroValue5
  t9 := Tryz.underlying9
  a9 := Tryz.isAgg9
  z9 := Tryz.sizeOf9
  v9 := Tryz.zeroValue9
  t22 := Tryz.underlying65
  a22 := Tryz.isAgg65
  z22 := Tryz.sizeOf65
  v22 := Tryz.zeroValue65
  a24 := Tryz.isAgg3
  z24 := Tryz.sizeOf3
  t25 := Tryz.underlying102
  a25 := Tryz.isAgg102
  z25 := Tryz.sizeOf102
  v25 := Tryz.zeroValue102
  t39 := Tryz.underlying131
  a39 := Tryz.isAgg131
  z39 := Tryz.sizeOf131
  v39 := Tryz.zeroValue131
  t45 := Tryz.underlying144
  a45 := Tryz.isAgg144
  z45 := Tryz.sizeOf144
  v45 := Tryz.zeroValue144
  t46 := Tryz.underlying145
  a46 := Tryz.isAgg145
  z46 := Tryz.sizeOf145
  v46 := Tryz.zeroValue145
  t50 := Tryz.underlying87
  a50 := Tryz.isAgg87
  z50 := Tryz.sizeOf87
  v50 := Tryz.zeroValue87
  t53 := Tryz.underlying151
  a53 := Tryz.isAgg151
  z53 := Tryz.sizeOf151
  v53 := Tryz.zeroValue151
  t55 := Tryz.underlying153
  a55 := Tryz.isAgg153
  z55 := Tryz.sizeOf153
  v55 := Tryz.zeroValue153
  t66 := Tryz.underlying163
  a66 := Tryz.isAgg163
  z66 := Tryz.sizeOf163
  v66 := Tryz.zeroValue163
  t70 := Tryz.underlying167
  a70 := Tryz.isAgg167
  z70 := Tryz.sizeOf167
  v70 := Tryz.zeroValue167
  t76 := Tryz.underlying174
  a76 := Tryz.isAgg174
  z76 := Tryz.sizeOf174
  v76 := Tryz.zeroValue174
  t77 := Tryz.underlying175
  a77 := Tryz.isAgg175
  z77 := Tryz.sizeOf175
  v77 := Tryz.zeroValue175 }
end Go.Proofs

/- Whose turn it is: the program's turns. -/
namespace Go.Proofs.YtigffgjkakalfaaGreatDoor
open Go.RowKit Go.Sort Go.Shelf Go.Lib

theorem cfR_neg (rs : List Rum) (i k : Nat) : cfR rs i k < 0 ↔ (rs.getD i dr).told < (rs.getD k dr).told ∨ ((rs.getD i dr).told = (rs.getD k dr).told ∧ k < i) := by
  unfold cfR orZ cmpZ
  generalize (rs.getD i dr).told = a
  generalize (rs.getD k dr).told = b
  repeat' split
  all_goals omega
def cfF (rs : List Rum) (m : Nat) (x y : Fin (m + 1)) : Int := cfR rs x.val y.val
theorem ltF (rs : List Rum) (m : Nat) (x y : Fin (m + 1)) : ltOf (cfF rs m) x y = true ↔ (rs.getD x.val dr).told < (rs.getD y.val dr).told ∨ ((rs.getD x.val dr).told = (rs.getD y.val dr).told ∧ y.val < x.val) := by
  unfold ltOf cfF
  rw [decide_eq_true_iff, cfR_neg]
theorem ltF_false (rs : List Rum) (m : Nat) (x y : Fin (m + 1)) : ltOf (cfF rs m) x y = false ↔ ¬ ((rs.getD x.val dr).told < (rs.getD y.val dr).told ∨ ((rs.getD x.val dr).told = (rs.getD y.val dr).told ∧ y.val < x.val)) := by
  rw [← ltF, Bool.not_eq_true]
theorem swoF (rs : List Rum) (m : Nat) : SWO (ltOf (cfF rs m)) where
  irrefl x := by rw [ltF_false]; omega
  trans x y z h1 h2 := by rw [ltF] at *; omega
  ntrans x y z h1 h2 := by rw [ltF_false] at *; omega
def encF (m : Nat) (x : Fin (m + 1)) : Value := .int .i64 (x.val : Nat)
def allF (m : Nat) : Array (Fin (m + 1)) := Array.ofFn (fun x => x)
theorem allF_size (m : Nat) : (allF m).size = m + 1 := by simp [allF]
theorem allF_get (m j : Nat) (hj : j < m + 1) : (allF m)[j]! = ⟨j, hj⟩ := by
  rw [getElem!_pos _ j (by rw [allF_size]; exact hj)]
  simp [allF]
theorem allF_vals (m : Nat) : (allF m).toList.map (·.val) = List.range (m + 1) := by
  apply List.ext_getElem
  · simp [allF]
  · intro j h1 h2
    rw [List.getElem_map, List.getElem_range, Array.getElem_toList]
    simp only [allF, Array.getElem_ofFn]
theorem alloc_grow (W : World) (o : Obj) : (W.alloc o).drew = grow (W.drewN 1) #[o] := by
  simp only [grow, World.alloc, World.drew, World.drewN, Array.push_eq_append]

theorem cmpF (rs : List Rum) (m lb b off ca g : Nat) (w : World) (hn : rs.length = m + 1) (hr : RRow w b off rs) (hl : w.cell? ⟨lb, 0, none⟩ = some (.slice (some ⟨b, off, none⟩) (m + 1) ca)) (h1 : lb ≠ g) (h2 : b ≠ g) (hb : b < w.heap.size) :
    CmpLays1 Tryz.prog 58 #[.pointer (some ⟨lb, 0, none⟩)] (encF m) (cfF rs m) g 0 (allF m).size w := by
  intro q os dk hs x y
  have hlb : lb < w.heap.size := World.block_lt_of_cell? w _ hl
  have c1 := (cell?_sortWorld_other (encF m) w g 0 q dk os ⟨lb, 0, none⟩ h1 hlb).trans hl
  have c2 := (cell?_sortWorld_other (encF m) w g 0 q dk os ⟨b, off + x.val * 6 + 5, none⟩ h2 hb).trans (hr x.val (by rw [hn]; exact x.isLt)).2.2.2.2.2
  have c3 := (cell?_sortWorld_other (encF m) w g 0 q dk os ⟨b, off + y.val * 6 + 5, none⟩ h2 hb).trans (hr y.val (by rw [hn]; exact y.isLt)).2.2.2.2.2
  refine (turnF_any _ _ lb b off (m + 1) ca x.val y.val _ c1 x.isLt y.isLt c2 c3).mono ?_
  rintro e w' ⟨rfl, rfl⟩
  exact ⟨rfl, 1, _, alloc_grow _ _⟩

theorem isOrd_of {rs : List Rum} {m : Nat} {d' : Array (Fin (m + 1))} (hn : rs.length = m + 1) (hp : PermIn 0 (allF m).size (allF m) d') (hs : SortedIn (ltOf (cfF rs m)) 0 (allF m).size d') : IsOrd rs (d'.toList.map (·.val)) := by
  obtain ⟨hsz, _, hperm⟩ := hp
  rw [Array.extract_size, show d'.extract 0 (allF m).size = d' by rw [← hsz, Array.extract_size]] at hperm
  have hP : (d'.toList.map (·.val)).Perm (List.range rs.length) := by
    rw [hn, ← allF_vals]
    exact hperm.map _
  have hlen : (d'.toList.map (·.val)).length = m + 1 := by rw [hP.length_eq, hn]; simp
  have hnd : (d'.toList.map (·.val)).Nodup := hP.nodup_iff.2 List.nodup_range
  refine ⟨hP, fun i j hij hj => ?_⟩
  have hds : d'.size = m + 1 := by rw [hsz, allF_size]
  have hj' : j < d'.size := by rw [hds]; omega
  have hi' : i < d'.size := by omega
  have e1 : (d'.toList.map (·.val)).getD i 0 = d'[i].val := by rw [ord_get (by omega)]; simp
  have e2 : (d'.toList.map (·.val)).getD j 0 = d'[j].val := by rw [ord_get hj]; simp
  have hne : (d'.toList.map (·.val))[i]'(by omega) ≠ (d'.toList.map (·.val))[j]'hj := List.pairwise_iff_getElem.1 hnd i j (by omega) hj hij
  simp only [List.getElem_map, Array.getElem_toList] at hne
  have h := hs i j (by omega) hij (by rw [allF_size]; omega)
  rw [getElem!_pos d' j hj', getElem!_pos d' i hi', ltF_false] at h
  rw [e1, e2, cfR_neg]
  omega

abbrev intL (k : Nat) : List Value := (List.range k).map (fun j => Value.int .i64 (j : Nat))
theorem intL_succ (k : Nat) : intL (k + 1) = intL k ++ [.int .i64 (k : Nat)] := by simp [intL, List.range_succ]
theorem intL_one (k : Nat) : ∀ v ∈ intL k, v.oneCell' = true := by
  intro v hv
  simp only [intL, List.mem_map] at hv
  obtain ⟨j, _, rfl⟩ := hv
  rfl

theorem below_sortWorld {m : Nat} {B : Nat} {w : World} {g off n : Nat} {d : Array (Fin (m + 1))} {os : Array Obj} (hg : B ≤ g) (hB : B ≤ w.heap.size) : Below B w (sortWorld (encF m) w g off n d os) := by
  refine ⟨rfl, rfl, rfl, by simp [sortWorld, putRow, mapBlock, Go.Sort.ahead, grow], fun k hk => ?_⟩
  unfold sortWorld
  rw [heap_grow_old _ _ (by simp [putRow, mapBlock, Go.Sort.ahead]; omega)]
  have : g ≠ k := by omega
  simp [putRow, mapBlock, Go.Sort.ahead, Array.getElem?_modify, this]

set_option maxHeartbeats 3200000 in
set_option maxRecDepth 100000 in
theorem turns_some (rs : List Rum) (v : Value) (m : Nat) (hn : rs.length = m + 1) (hsm : m < 1000) : TurnsSays rs v := by
  intro w hv
  obtain ⟨i0, hi0, hz0, hzs, hzb⟩ := info_parts Tryz.infoI
  obtain ⟨pa, ca, rfl, _, ha⟩ := hv
  obtain ⟨b, off, hpa, hlb, hr⟩ : ∃ b off, pa = some ⟨b, off, none⟩ ∧ b < w.heap.size ∧ RRow w b off rs := by
    rcases ha with h | h
    · rw [h] at hn; simp at hn
    · exact h
  subst hpa
  have HR : Hid (RRow w b off rs) := hr
  have HN : Hid (rs.length = m + 1) := hn
  rw [hn]
  clear ha hr hn
  have eg : ∀ args w, (callFunc 58 args).run Tryz.prog w = .ok (.enter 58 args) w := enters_of Tryz.func58 (by kernel_rfl) rfl
  have HEG : Hid (∀ args w, (callFunc 58 args).run Tryz.prog w = .ok (.enter 58 args) w) := eg
  clear eg
  go_enter Tryz.func28, Tryz.ntmps28
  go_wp2_with fail
  go_loopw [3, 7] (fun o i wr => ∃ k : Nat, k ≤ m + 1 ∧ i = .int .i64 k ∧ Hid (wr.ownsRow (w.heap.size + 1) 3 1 o k (intL k)) ∧ Hid (Below (w.heap.size + 1) (w.alloc (.cells #[.slice (some ⟨b, off, none⟩) (m + 1) ca] 25)) wr)) (fun _ i _ => m + 1 - (intOf i).toNat)
  case atStart => exact ⟨0, Nat.zero_le _, rfl, World.ownsRow_nil _ _ _ _, Below.refl _ _⟩
  case round =>
    obtain ⟨k, hk, rfl, HO, HB⟩ := hrel
    have hsz : w.heap.size + 1 ≤ wr.heap.size := by have := HB.out.size; simpa using this
    by_cases hlt : k < m + 1
    · have HO2 : Hid (∀ ob, (wr.alloc ob).ownsRow (w.heap.size + 1) 3 1 u3 k (intL k)) := fun ob => by
        obtain ⟨h1, h2⟩ := HO.out
        refine ⟨h1, ?_⟩
        rcases h2 with h2 | ⟨g, c, cur, hv, hbg, hg, hr⟩
        · exact .inl h2
        · exact .inr ⟨g, c, cur, hv, hbg, by rw [((Below.refl wr.heap.size wr).alloc (Nat.le_refl _) ob).block g (Array.getElem?_eq_some_iff.1 hg).1]; exact hg, hr⟩
      have HLT : Hid (∀ j, u3.ownBlock = some j → w.heap.size + 1 ≤ j) := fun j hj => (World.ownsRow.lt HO.out j hj).1
      clear HO
      go_wp2_with (at_builtin; refine wpList_append_own _ rfl _ _ 65 rfl (w.heap.size + 1) 3 i0 _ 1 8 Tryz.underlying65 hi0 hz0 hzs hzb rfl (by omega) _ k (intL k) rfl ?hown ⟨wr.heap.size, 0, none⟩ 1 1 [.int .i64 k] rfl rfl ?hnews (by simp [Value.oneCell']) ?h63 ?hbytes ?hbase ?_)
      case hown => exact HO2.out _
      case hnews => (intro j u hj; rw [Addr.add_lit]; exact (cell_top' rfl).trans (by simpa using hj))
      case h63 => (unfold maxLen; omega)
      case hbytes => omega
      case hbase => (simp; omega)
      intro v' w2 r1 r2 r3
      have R1 : Hid (w2.ownsRow (w.heap.size + 1) 3 1 v' (k + 1) (intL (k + 1))) := by rw [intL_succ]; exact r1
      have R2 : Hid (Below (w.heap.size + 1) (w.alloc (.cells #[.slice (some ⟨b, off, none⟩) (m + 1) ca] 25)) w2) :=
        (HB.out.alloc hsz _).grown r2 (by simp; omega) (fun j hj => HLT.out j hj)
      clear r1 r2 r3
      go_wp2_with fail
      exact ⟨⟨k + 1, by omega, by go_num, R1.out, R2.out⟩, by simp [intOf]; omega⟩
    · have hkn : k = m + 1 := by omega
      subst hkn
      obtain ⟨g, c, hu3, hbg, hcm, hcell, hfz⟩ : ∃ g c, u3 = .slice (some ⟨g, 0, none⟩) (m + 1) c ∧ w.heap.size + 1 ≤ g ∧ m + 1 ≤ c ∧ (∀ j, j < m + 1 → wr.cell? ⟨g, j, none⟩ = some (.int .i64 (j : Nat))) ∧ (∀ j, wr.frozen? ⟨g, j, none⟩ = false) := by
        have hO := HO.out
        rcases HO.out.2 with ⟨_, h0⟩ | ⟨g, c, cur, hv, hbg, hg, hnc, hcm, hcs, htake⟩
        · omega
        · subst hv
          refine ⟨g, c, rfl, hbg, hnc, fun j hj => ?_, fun j => World.ownsRow.frozenAt hO j⟩
          rw [World.ownsRow.cellAt hO j (by omega)]
          simp [intL, hj]
      subst hu3
      have hgw : g < wr.heap.size := World.block_lt_of_cell? wr ⟨g, 0, none⟩ (hcell 0 (by omega))
      have hlbx : wr.cell? ⟨w.heap.size, 0, none⟩ = some (.slice (some ⟨b, off, none⟩) (m + 1) ca) := by
        rw [HB.out.cell (p := ⟨w.heap.size, 0, none⟩) (by simp only; omega)]; exact cell_top' rfl
      have hrow : RRow wr b off rs := (HR.out.below ((Below.refl w.heap.size w).alloc (Nat.le_refl _) _) hlb).below HB.out (by omega)
      have hcon := Any.slices_SortFunc Tryz.sortI (encF m) (fun _ => rfl) (cfF rs m) (swoF rs m) 58 #[.pointer (some ⟨w.heap.size, 0, none⟩)] g 0 c (allF m) wr HEG.out (cmpF rs m w.heap.size b off ca g wr HN.out hrow hlbx (by omega) (by omega) (by omega)) (fun j hj => by
        rw [allF_size] at hj
        rw [allF_get m j hj, Nat.zero_add]
        exact ⟨hcell j hj, hfz j⟩) hgw (by rw [allF_size]; omega)
      have hcon2 : Calls Tryz.prog 57 #[.slice (some ⟨g, 0, none⟩) (m + 1) c, .func (.func 58) #[] #[.pointer (some ⟨w.heap.size, 0, none⟩)]] wr fun e w' => e = .returned (.tuple #[]) ∧ ∃ d' n os, PermIn 0 (allF m).size (allF m) d' ∧ SortedIn (ltOf (cfF rs m)) 0 (allF m).size d' ∧ w' = sortWorld (encF m) wr g 0 n d' os := by
        have h := hcon
        rw [show Value.slice (some ⟨g, 0, none⟩) (allF m).size c = Value.slice (some ⟨g, 0, none⟩) (m + 1) c by rw [allF_size]] at h
        exact h
      have HHH : Hid (Holds (encF m) wr g 0 (allF m)) := fun j hj => by
        rw [allF_size] at hj
        rw [allF_get m j hj, Nat.zero_add]
        exact ⟨hcell j hj, hfz j⟩
      clear hcon hcell hfz hrow HO
      go_wp2_with fail
      refine hcon2.mono ?_
      rintro e w2 ⟨rfl, d', nd, os, hp, hs, hw2⟩
      have HORD : Hid (IsOrd rs (d'.toList.map (·.val))) := isOrd_of HN.out hp hs
      have hds : d'.size = m + 1 := by rw [hp.1, allF_size]
      have HCT : Hid (∀ j, j < m + 1 → w2.cell? ⟨g, j, none⟩ = some (.int .i64 ((d'.toList.map (·.val)).getD j 0 : Nat))) := fun j hj => by
        have h1 := cell?_putRow (encF m) (Go.Sort.ahead wr nd) g 0 (allF m) d' (show Holds (encF m) (Go.Sort.ahead wr nd) g 0 (allF m) from HHH.out) hp.1 j (by omega)
        have h2 : w2.cell? ⟨g, 0 + j, none⟩ = (putRow (encF m) (Go.Sort.ahead wr nd) g 0 d').cell? ⟨g, 0 + j, none⟩ := by
          rw [hw2]
          exact cell?_grow _ _ _ (by
            have h3 := World.block_lt_of_cell? (putRow (encF m) (Go.Sort.ahead wr nd) g 0 d') ⟨g, 0 + j, none⟩ h1
            exact h3)
        rw [Nat.zero_add] at h1 h2
        rw [h2, h1, getElem!_pos d' j (by omega)]
        simp [encF, List.getD, hds, hj]
      have HBB : Hid (Below w.heap.size w w2) := by
        rw [hw2]
        exact (((Below.refl w.heap.size w).alloc (Nat.le_refl _) _).trans (HB.out.mono (Nat.le_succ _))).trans (below_sortWorld (by omega) (by omega))
      clear HHH hp hs hw2
      go_wp2_with fail
      go_ret
      exact ⟨g, c, d'.toList.map (·.val), rfl, HORD.out, HCT.out, hcm, by omega, HBB.out⟩

end Go.Proofs.YtigffgjkakalfaaGreatDoor

