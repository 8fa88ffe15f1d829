/- Texts written: WriteString, counted. -/
import Derived.Test.YtogmkdhljifbpaaDoorF4
namespace Go.Proofs.YtogmkdhljifbpaaDoor
open Go.RowKit

set_option maxHeartbeats 2000000 in
set_option maxRecDepth 100000 in
theorem writeString_any (B b : Nat) (bs : List Value) (s : ByteArray) (w : World) (h : IsW B b bs w) (hlen : bs.length + s.size ≤ 1000000) (hBw : B ≤ w.heap.size) :
    Calls Tryd.prog 84 #[.pointer (some ⟨b, 0, none⟩), .string s] w fun e w' => e = .returned (.tuple #[.int .i64 s.size, .nilIface]) ∧ WAt B b (.pointer (some ⟨b, 0, none⟩)) (bs ++ Lib.strCells s) w' ∧ Kp B b w w' := by
  obtain ⟨i0, hi, hz0, hz1, hz2⟩ := info_parts Tryd.infoByte
  have HC : Hid (Calls Tryd.prog 89 #[.pointer (some ⟨b, 0, none⟩)] w fun e w' => e = .returned (.tuple #[]) ∧ WAt B b (.pointer (some ⟨b, 0, none⟩)) bs w' ∧ Kp B b w w') := copy_any B b bs w h
  clear h
  go_enter Tryd.func84, Tryd.ntmps84
  go_wp2_with fail
  refine HC.out.mono ?_
  rintro e w1 ⟨rfl, h1, hb1⟩
  obtain ⟨hB, v, hbk, hown, hne⟩ := h1
  have c0 : w1.cell? ⟨b, 0, none⟩ = some (.pointer (some ⟨b, 0, none⟩)) := cellsAt hbk 0
  have c1 : w1.cell? ⟨b, 1, none⟩ = some v := cellsAt hbk 1
  have hsz1 := hb1.size
  have HO : Hid (w1.ownsRow B 5 1 v bs.length bs) := hown
  have HK : Hid (w1.heap[b]? = some (.cells #[.pointer (some ⟨b, 0, none⟩), v] 81 (0, 0))) := hbk
  clear hown hbk
  go_wp2_with (at_builtin; refine Lib.wpList_append_own_string _ rfl _ _ 77 9 rfl B 5 i0 Tryd.underlying77 Tryd.underlying9 hi hz0 hz1 hz2 _ bs.length bs rfl HO.out s rfl ?c3 ?c4 ?c5 ?_)
  case c3 => (unfold maxLen; omega)
  case c4 => omega
  case c5 => omega
  intro v' w2 hown' hgrow _
  have hlt : b < w1.heap.size := (Array.getElem?_eq_some_iff.1 HK.out).1
  have hb2 : w2.heap[b]? = some (.cells #[.pointer (some ⟨b, 0, none⟩), v] 81 (0, 0)) := by
    rw [hgrow.block b hlt (fun e => hne e.symm)]
    exact HK.out
  have d0 : w2.cell? ⟨b, 0, none⟩ = some (.pointer (some ⟨b, 0, none⟩)) := cellsAt hb2 0
  have d1 : w2.cell? ⟨b, 1, none⟩ = some v := cellsAt hb2 1
  have f1 : w2.frozen? ⟨b, 1, none⟩ = false := Lib.frozen_of_heap hb2 1
  have HB2 : Hid (Kp B b w w2) := (show Kp B b w w2 from ⟨hb1.bel.grown hgrow (by omega) (fun k hk => (HO.out.lt k hk).1), hb1.oth.grown hgrow (own_kind HO.out)⟩)
  have HK2 : Hid (w2.heap[b]? = some (.cells #[.pointer (some ⟨b, 0, none⟩), v] 81 (0, 0))) := hb2
  have HO2 : Hid (w2.ownsRow B 5 1 v' (bs ++ Lib.strCells s).length (bs ++ Lib.strCells s)) := (show World.ownsRow _ _ _ _ _ _ _ by simpa [Lib.strCells_length] using hown')
  obtain ⟨ao, n', cap, hv⟩ : ∃ ao n' cap, v' = .slice ao n' cap := by
    rcases hown'.2 with ⟨hv, _⟩ | ⟨g, cap, cur, hv, _⟩
    · exact ⟨_, _, _, hv⟩
    · exact ⟨_, _, _, hv⟩
  subst hv
  clear hown' hgrow hb2 c0 c1 hb1
  go_wp2_with fail
  go_ret2
  refine ⟨rfl, ?_, ?_⟩
  · exact Lib.BuilderAt.put (T := 81) (e := 5) hB HK2.out (bs' := bs ++ Lib.strCells s) HO2.out (by decide)
  · exact ⟨HB2.out.bel.setCell (p := ⟨b, 1, none⟩) hB _, HB2.out.oth.setCell ⟨b, 1, none⟩ rfl _⟩

theorem nbs_len (n : Int) : ∀ k, (nbs n k).length = k
  | 0 => rfl
  | k + 1 => by simp [nbs, nbs_len n k]

set_option maxHeartbeats 800000 in
set_option maxRecDepth 100000 in
/-- A text behind its length. -/
theorem counted_any (B b : Nat) (bs : List Value) (s : ByteArray) (w : World) (h : IsW B b bs w) (hlen : bs.length ≤ 90000) (hs : s.size ≤ 1000) (hBw : B ≤ w.heap.size) :
    Calls Tryd.prog 81 #[.pointer (some ⟨b, 0, none⟩), .string s] w fun e w' => e = .returned (.tuple #[]) ∧ IsW B b (bs ++ (nbs s.size 1 ++ Lib.strCells s)) w' ∧ Kp B b w w' := by
  have HI : Hid (IsW B b bs w) := h
  clear h
  go_enter Tryd.func81, Tryd.ntmps81
  go_wp2_with fail
  refine (wnumber_any B b 1 s.size bs w HI.out (by omega) (by omega) hBw).mono ?_
  rintro e w1 ⟨rfl, h1, hb1⟩
  have hz1 := hb1.size
  go_wp2_with fail
  refine (writeString_any B b _ s w1 h1 (by rw [List.length_append, nbs_len]; omega) (by omega)).mono ?_
  rintro e w2 ⟨rfl, h2, hb2⟩
  have HW2 : Hid (IsW B b (bs ++ (nbs s.size 1 ++ Lib.strCells s)) w2) := (show IsW _ _ _ _ by rw [← List.append_assoc]; exact .inr h2)
  have HB2 : Hid (Kp B b w w2) := hb1.trans hb2
  clear h1 hb1 h2 hb2
  go_wp2_with fail
  simp [bodyPost, results, Tryd.results81]
  exact ⟨HW2.out, HB2.out⟩

end Go.Proofs.YtogmkdhljifbpaaDoor
