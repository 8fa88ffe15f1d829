
/- Places that are told: places, and the check of all. -/
import Derived.Test.YtmjdeacnapoijaaP5
import Derived.Test.YtmjdeacnapoijaaWK1
import Derived.Test.YtmjdeacnapoijaaPK1
import Derived.Laws.AppendOwnNone
namespace Go.Proofs.Ytmjdeacnapoijaa
open Go.RowKit

theorem Try.infoPl : (Try.prog.info? 29).map (fun i => (i.zero, i.size, i.bytes)) = some (some (.agg #[.int .i64 0, .int .i64 0, .int .i64 0, .int .i64 0, .int .i64 0]), 5, 40) := by kernel_rfl

def plc (m : Wh.Whe) : Pc.Ple := ⟨m.x, m.y, m.z, m.h, m.s⟩
def plcs (ms : List Wh.Whe) : List Pc.Ple := ms.map plc
theorem plcs_snoc {ms : List Wh.Whe} {k : Nat} (hk : k < ms.length) : plcs (ms.take (k + 1)) = plcs (ms.take k) ++ [plc (ms.getD k Wh.dm)] := by
  rw [plcs, plcs, List.take_succ_eq_append_getElem hk, List.map_append]
  simp [List.getD, List.getElem?_eq_getElem hk]
theorem plcs_len (ms : List Wh.Whe) : (plcs ms).length = ms.length := by simp [plcs]

set_option maxHeartbeats 1600000 in
set_option maxRecDepth 100000 in
theorem places_any (ms : List Wh.Whe) (v : Value) (w : World) (hv : Wh.Sl w v ms) (hn : ms.length ≤ 100) :
    Calls Try.prog 32 #[v] w fun e w' => ∃ v', e = .returned v' ∧ Pc.Own w.heap.size w' v' (plcs ms) ∧ Below w.heap.size w w' := by
  obtain ⟨i0, hi0, hz0, hzs, hzb⟩ := info_parts Try.infoPl
  obtain ⟨pa, ca, rfl, _, ha⟩ := hv
  have HA : Hid (ms = [] ∨ ∃ b off, pa = some ⟨b, off, none⟩ ∧ b < w.heap.size ∧ Wh.Row w b off ms) := ha
  clear ha
  generalize hna : ms.length = n at *
  have HN : Hid (ms.length = n) := hna
  clear hna
  go_enter Try.func32, Try.ntmps32
  go_wp2_with fail
  go_loopw [3, 8] (fun o i w' => ∃ k : Nat, k ≤ n ∧ i = .int .i64 k ∧ Below w.heap.size w w' ∧ Hid (Pc.Own w.heap.size w' o (plcs (ms.take k)))) (fun _ i _ => n - (intOf i).toNat)
  case atStart => exact ⟨0, Nat.zero_le _, rfl, Below.refl _ _, Pc.own_nil _ _⟩
  case round =>
    obtain ⟨k, hk, rfl, hbl, HO⟩ := hrel
    have hsz := hbl.size
    have hll : (plcs (ms.take k)).length ≤ 100 := by rw [plcs_len]; have h2 : (ms.take k).length ≤ k := List.length_take_le _ _; omega
    by_cases hlt : k < n
    · obtain ⟨b1, o1, hp1, hl1, hr1⟩ : ∃ b off, pa = some ⟨b, off, none⟩ ∧ b < w.heap.size ∧ Wh.Row w b off ms := by
        rcases HA.out with h | h
        · have := HN.out; rw [h] at this; simp at this; omega
        · exact h
      subst hp1
      obtain ⟨hbc, hbf⟩ := bcell hbl
      obtain ⟨c0, c1, c2, c3, c4, c5⟩ := hr1 k (by rw [HN.out]; exact hlt)
      have HST : Hid (plcs (ms.take (k + 1)) = plcs (ms.take k) ++ [plc (ms.getD k Wh.dm)]) := plcs_snoc (by rw [HN.out]; exact hlt)
      clear hr1
      generalize hL2 : plcs (ms.take (k + 1)) = L2 at *
      have HL2 : Hid (plcs (ms.take (k + 1)) = L2) := hL2
      clear hL2
      generalize plcs (ms.take k) = L at *
      generalize ms.getD k Wh.dm = m at *
      obtain ⟨nd, x, y, z, h, s⟩ := m
      simp only [plc] at *
      go_wp2_with (at_builtin; refine wpList_append_own _ rfl _ _ 52 rfl w.heap.size 29 i0 _ 5 40 Try.underlying52 hi0 hz0 hzs hzb rfl (by omega) _ L.length (Pc.fl L) rfl ?hown ⟨wr.heap.size + 1, 0, none⟩ 1 1 (Pc.Ple.mk x y z h s).cs rfl rfl ?hnews (Pc.cs_one _) ?h63 ?hbytes ?hbase ?_)
      case hown => exact HO.out.below (((Below.refl _ _).alloc (Nat.le_refl _) _).alloc (by simp) _)
      case hnews => (intro j u hj; rw [Addr.add_lit]; exact (cell_topL (by simp)).trans (by simpa [Pc.Ple.cs] using hj))
      case h63 => (unfold maxLen; omega)
      case hbytes => omega
      case hbase => (simp; omega)
      intro v' w2 r1 r2 r3
      have HBX : Hid (Below w.heap.size w w2) := ((hbl.alloc hsz _).alloc (by simp; omega) _).grown r2 (by simp; omega) (fun j hj => (HO.out.lt j hj).1)
      have HOX : Hid (Pc.Own w.heap.size w2 v' (L ++ [⟨x, y, z, h, s⟩])) := Pc.own_snoc r1
      clear r1 r2 r3
      go_wp2_with fail
      exact ⟨⟨k + 1, by omega, by go_num, HBX.out, by rw [HL2.out, HST.out]; exact HOX.out⟩, by simp [intOf]; omega⟩
    · have hkn : k = n := by omega
      subst hkn
      have HFO : Hid (Pc.Own w.heap.size wr u3 (plcs ms)) := by
        have h := HO.out
        rw [List.take_of_length_le (by rw [HN.out]; exact Nat.le_refl _)] at h
        exact h
      go_wp2_with fail
      go_ret
      exact ⟨u3, rfl, HFO.out, hbl⟩

def toPl (m : Pc.Ple) : Pl := ⟨m.x, m.y, m.z, m.h, m.s⟩
theorem prow_of {w : World} {b off : Nat} {ms : List Pc.Ple} (h : Pc.Row w b off ms) : PRow w b off (ms.map toPl) := fun k hk => by
  have hk' : k < ms.length := by simpa using hk
  have e : (ms.map toPl).getD k dp = toPl (ms.getD k Pc.dm) := by simp [List.getD, List.getElem?_eq_getElem hk']
  obtain ⟨h0, h1, h2, h3, h4⟩ := h k hk'
  rw [e]
  exact ⟨h0, h1, h2, h3, h4⟩

set_option maxHeartbeats 1600000 in
set_option maxRecDepth 100000 in
theorem sort_many (p : Pl) (a1 a2 : Option Addr) (n m c1 c2 : Nat) (w : World) (h : 100 < n ∨ 100 < m) :
    Calls Try.prog 19 #[.agg #[.int .i64 p.x, .int .i64 p.y, .int .i64 p.z, .int .i64 p.h, .int .i64 p.s], .slice a1 n c1, .slice a2 m c2] w fun e w' => e = .returned (.tuple #[.slice none 0 0, .int .i64 2]) ∧ Below w.heap.size w w' := by
  have hc : decide (100 < (n : Int)) = true ∨ (decide (100 < (n : Int)) = false ∧ decide (100 < (m : Int)) = true) := by
    simp only [decide_eq_true_eq, decide_eq_false_iff_not]; omega
  clear h
  rcases hc with h1 | ⟨h1, h2⟩
  all_goals
    go_enter Try.func19, Try.ntmps19
    go_wp2_with fail
    go_ret2
    exact ⟨rfl, (Below.refl _ _).alloc (Nat.le_refl _) _⟩

end Go.Proofs.Ytmjdeacnapoijaa
