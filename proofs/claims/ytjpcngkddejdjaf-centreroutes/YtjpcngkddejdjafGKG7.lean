
/- Table of routes. -/
import Derived.Test.YtjpcngkddejdjafGK9A
import Derived.Test.YtjpcngkddejdjafGKG1
import Derived.Test.YtjpcngkddejdjafRK1
namespace Go.Proofs.Ytjpcngkddejdjaf
namespace Gw
open Go.RowKit

theorem Try.infoRt : (Try.prog.info? 53).map (fun i => (i.zero, i.size, i.bytes)) = some (some (.agg #[.string ⟨#[]⟩, .int .i64 0]), 2, 24) := by kernel_rfl

/-- F3: the routes to all centres but the one that is here. -/
def tableL (ms : List Gwy) (here : ByteArray) : List Rt.Rte := (ms.filter fun g => !(g.centre.toList == here.toList)).map fun g => ⟨g.centre, g.addr⟩

theorem tableL_yes {ms : List Gwy} {here : ByteArray} {k : Nat} (hk : k < ms.length) (h : ((ms.getD k dm).centre.toList == here.toList) = false) : tableL (ms.take (k + 1)) here = tableL (ms.take k) here ++ [⟨(ms.getD k dm).centre, (ms.getD k dm).addr⟩] := by
  rw [RL.getD_el dm hk] at h ⊢
  rw [tableL, tableL, List.take_succ_eq_append_getElem hk, List.filter_append, List.filter_cons_of_pos (by rw [h]; rfl)]
  simp
theorem tableL_no {ms : List Gwy} {here : ByteArray} {k : Nat} (hk : k < ms.length) (h : ((ms.getD k dm).centre.toList == here.toList) = true) : tableL (ms.take (k + 1)) here = tableL (ms.take k) here := by
  rw [RL.getD_el dm hk] at h
  rw [tableL, tableL, List.take_succ_eq_append_getElem hk, List.filter_append, List.filter_cons_of_neg (by rw [h]; exact Bool.false_ne_true)]
  simp
theorem tableL_len (ms : List Gwy) (here : ByteArray) : (tableL ms here).length ≤ ms.length := by
  unfold tableL; rw [List.length_map]; exact List.length_filter_le _ _

set_option maxHeartbeats 400000 in
theorem table_bad (ms : List Gwy) (v : Value) (here : ByteArray) (w : World) (hv : Sl w v ms) (hne : chk ms ≠ 0) :
    Calls Try.prog 24 #[v, .string here] w fun e w' => e = .returned (.tuple #[.slice none 0 0, .int .i64 (chk ms)]) ∧ Below w.heap.size w w' := by
  have he : (chk ms != 0) = true := by simpa using hne
  have HV : Hid (Sl w v ms) := hv
  clear hne hv
  go_enter Try.func24, Try.ntmps24
  go_wp2_with (go_at_call 20; refine (check_any ms _ _ HV.out).mono ?_; rintro e w' ⟨rfl, hb2⟩)
  go_ret2
  exact ⟨rfl, hb2⟩

set_option maxHeartbeats 400000 in
theorem table_form (ms : List Gwy) (v : Value) (here : ByteArray) (w : World) (hv : Sl w v ms) (h0 : chk ms = 0) (hs : here.size ≤ maxLen) (hl : labB here = false) :
    Calls Try.prog 24 #[v, .string here] w fun e w' => e = .returned (.tuple #[.slice none 0 0, .int .i64 1]) ∧ Below w.heap.size w w' := by
  have he : (chk ms != 0) = false := by simpa using h0
  have HV : Hid (Sl w v ms) := hv
  clear h0 hv
  go_enter Try.func24, Try.ntmps24
  go_wp2_with (first | (go_at_call 20; refine (check_any ms _ _ HV.out).mono ?_; rintro e w' ⟨rfl, hb2⟩) | (go_at_call 31; refine (label_any _ _ hs).mono ?_; rintro e w' ⟨rfl, rfl⟩; rw [hl]))
  go_ret2
  exact ⟨rfl, hb2⟩

set_option maxHeartbeats 3200000 in
set_option maxRecDepth 100000 in
theorem table_good (ms : List Gwy) (v : Value) (here : ByteArray) (w : World) (hv : Sl w v ms) (h0 : chk ms = 0) (hs : here.size ≤ maxLen) (hl : labB here = true) :
    Calls Try.prog 24 #[v, .string here] w fun e w' => ∃ v', e = .returned (.tuple #[v', .int .i64 0]) ∧ Rt.Own w.heap.size w' v' (tableL ms here) ∧ Below w.heap.size w w' := by
  obtain ⟨i0, hi0, hz0, hzs, hzb⟩ := info_parts Try.infoRt
  have he : (chk ms != 0) = false := by simpa using h0
  have hlen := (chk_zero h0).1
  have HV : Hid (Sl w v ms) := hv
  obtain ⟨pa, ca, rfl, _, ha⟩ := hv
  have HA : Hid (ms = [] ∨ ∃ b off, pa = some ⟨b, off, none⟩ ∧ b < w.heap.size ∧ Row w b off ms) := ha
  clear ha h0
  generalize hna : ms.length = n at *
  have HN : Hid (ms.length = n) := hna
  clear hna
  go_enter Try.func24, Try.ntmps24
  go_wp2_with (first | (go_at_call 20; refine (check_any ms _ _ HV.out).mono ?_; rintro e w1 ⟨rfl, hb1⟩) | (go_at_call 31; refine (label_any _ _ hs).mono ?_; rintro e w' ⟨rfl, rfl⟩; rw [hl]))
  have HB1 : Hid (Below w.heap.size w _) := hb1
  have hs1 := hb1.size
  clear hb1 HV
  go_loopw [7, 20] (fun kn i w' => ∃ k : Nat, k ≤ n ∧ i = .int .i64 k ∧ Below w.heap.size w w' ∧ Hid (Rt.Own w.heap.size w' kn (tableL (ms.take k) here))) (fun _ i _ => n - (intOf i).toNat)
  case atStart => exact ⟨0, Nat.zero_le _, rfl, HB1.out, Rt.own_nil _ _⟩
  case round =>
    obtain ⟨k, hk, rfl, hbl, HO⟩ := hrel
    obtain ⟨hbc, hbf⟩ := bcell hbl
    have hsz := hbl.size
    have hll2 : (tableL (ms.take k) here).length ≤ 6 := by have h1 := tableL_len (ms.take k) here; have h2 : (ms.take k).length ≤ k := List.length_take_le _ _; omega
    by_cases hlt : k < n
    · obtain ⟨b1, o1, hp1, hl1, hr1⟩ : ∃ b off, pa = some ⟨b, off, none⟩ ∧ b < w.heap.size ∧ Row w b off ms := by
        rcases HA.out with h | h
        · have := HN.out; rw [h] at this; simp at this; omega
        · exact h
      subst hp1
      obtain ⟨c0, c1, c2⟩ := hr1 k (by rw [HN.out]; exact hlt)
      clear hr1
      have hkl : k < ms.length := by rw [HN.out]; exact hlt
      have HY : Hid (((ms.getD k dm).centre.toList == here.toList) = false → tableL (ms.take (k + 1)) here = tableL (ms.take k) here ++ [⟨(ms.getD k dm).centre, (ms.getD k dm).addr⟩]) := fun h => tableL_yes hkl h
      have HNO : Hid (((ms.getD k dm).centre.toList == here.toList) = true → tableL (ms.take (k + 1)) here = tableL (ms.take k) here) := fun h => tableL_no hkl h
      generalize ms.getD k dm = m at *
      rcases hc : (m.centre.toList == here.toList) with _ | _
      · have HST : Hid (tableL (ms.take (k + 1)) here = tableL (ms.take k) here ++ [⟨m.centre, m.addr⟩]) := HY.out hc
        have hc2 : ¬ m.centre.toList = here.toList := by simpa using hc
        clear HY HNO
        generalize tableL (ms.take k) here = L at *
        go_wp2_with (at_builtin; refine wpList_append_own _ rfl _ _ 44 rfl w.heap.size 53 i0 _ 2 24 Try.underlying44 hi0 hz0 hzs hzb rfl (by omega) _ L.length (Rt.fl L) rfl ?hown ⟨wr.heap.size + 1, 0, none⟩ 1 1 (Rt.Rte.mk m.centre m.addr).cs rfl rfl ?hnews (Rt.cs_one _) ?h63 ?hbytes ?hbase ?_)
        case hown => exact HO.out.below (((Below.refl _ _).alloc (Nat.le_refl _) _).alloc (by simp) _)
        case hnews => (intro j u hj; rw [Addr.add_lit]; exact (cell_topL (by simp)).trans (by simpa [Rt.Rte.cs] using hj))
        case h63 => (unfold maxLen; omega)
        case hbytes => omega
        case hbase => (simp; omega)
        intro v' w2 r1 r2 r3
        have HBX : Hid (Below w.heap.size w w2) := ((hbl.alloc hsz _).alloc (by simp; omega) _).grown r2 (by simp; omega) (fun j hj => (HO.out.lt j hj).1)
        have HOX : Hid (Rt.Own w.heap.size w2 v' (L ++ [⟨m.centre, m.addr⟩])) := Rt.own_snoc r1
        clear r1 r2 r3
        go_wp2_with fail
        go_roundw
        case rel => exact ⟨k + 1, by omega, by go_num, HBX.out, by rw [HST.out]; exact HOX.out⟩
        case measure => simp [intOf]; omega
      · have HST : Hid (tableL (ms.take (k + 1)) here = tableL (ms.take k) here) := HNO.out hc
        have hc2 : m.centre.toList = here.toList := by simpa using hc
        clear HY HNO
        go_wp2_with fail
        go_roundw
        case rel => exact ⟨k + 1, by omega, by go_num, hbl.alloc hsz _, by rw [HST.out]; exact HO.out.below ((Below.refl _ _).alloc (Nat.le_refl _) _)⟩
        case measure => simp [intOf]; omega
    · have hkn : k = n := by omega
      subst hkn
      have HFO : Hid (Rt.Own w.heap.size wr u7 (tableL ms here)) := by
        have h := HO.out
        rw [List.take_of_length_le (by rw [HN.out]; exact Nat.le_refl _)] at h
        exact h
      go_wp2_with fail
      go_ret2
      exact ⟨u7, rfl, HFO.out, hbl⟩

end Gw
end Go.Proofs.Ytjpcngkddejdjaf
