/- PN, PW, PSA, RCT, RCS, RC4, GKW, RC5 -/
import Derived.Test.YtkicpbomjpgjpaaGreatV10
import Derived.Deep.Slices
import Derived.Lib.SmallJoins
import Derived.ProofKit
import Derived.OpenShut
import Derived.Test.YtkicpbomjpgjpaaGreatV12
import Derived.Test.YtkicpbomjpgjpaaGreatV20
import Derived.Test.YtkicpbomjpgjpaaGreatV18
import Derived.Test.YtkicpbomjpgjpaaGreatV9
/- What the laws are handed: places, read out of memory. -/
namespace Go.Proofs.YtkicpbomjpgjpaaGreat
open Go.ChangeShapes Go.WideShapes Go.ChangeAt Go.RowKit

section
variable {H : Type} {enc : TypeId × Value → H} {w : World} {base : Nat} {spare : Nat → Bool} {held : Bool}

theorem Tryz.cellsPl : Tryz.prog.cellsOf 40 = 5 := by kernel_rfl
theorem Tryz.cellsI : Tryz.prog.cellsOf 3 = 1 := by kernel_rfl
/-- What a program's numbers are: of 64 bits. -/
def In64 (n : Int) : Prop := -9223372036854775808 ≤ n ∧ n ≤ 9223372036854775807
structure Pl64 (p : Pl) : Prop where
  x : In64 p.x
  y : In64 p.y
  z : In64 p.z
  h : In64 p.h
  s : In64 p.s

set_option maxRecDepth 100000 in
theorem pl_of_trod {fuel : Nat} {cs : List Value} {x : DataW H × List MemPlace} (h : DataW.trod enc Tryz.prog w base spare held fuel 40 cs = some x) :
    ∃ p : Pl, cs = [.int .i64 p.x, .int .i64 p.y, .int .i64 p.z, .int .i64 p.h, .int .i64 p.s] ∧ Pl64 p := by
  obtain ⟨xs, n, _, _, hl, hlen, hf⟩ := DataW.trod_struct Tryz.underlying40 h
  rw [Tryz.cellsPl] at hl
  match cs, hl with
  | [c0, c1, c2, c3, c4], _ =>
    match xs, hlen with
    | [y0, y1, y2, y3, y4], _ =>
      have h0 := hf 0 _ rfl
      have h1 := hf 1 _ rfl
      have h2 := hf 2 _ rfl
      have h3 := hf 3 _ rfl
      have h4 := hf 4 _ rfl
      simp [Tryz.cellsI] at h0
      simp [Tryz.cellsI] at h1
      simp [Tryz.cellsI] at h2
      simp [Tryz.cellsI] at h3
      simp [Tryz.cellsI] at h4
      obtain ⟨a, e0, _, w0⟩ := DataW.trod_int Tryz.underlying3 h0
      obtain ⟨b, e1, _, w1⟩ := DataW.trod_int Tryz.underlying3 h1
      obtain ⟨c, e2, _, w2⟩ := DataW.trod_int Tryz.underlying3 h2
      obtain ⟨d, e3, _, w3⟩ := DataW.trod_int Tryz.underlying3 h3
      obtain ⟨e, e4, _, w4⟩ := DataW.trod_int Tryz.underlying3 h4
      simp only [List.cons.injEq, and_true] at e0 e1 e2 e3 e4
      subst e0 e1 e2 e3 e4
      exact ⟨⟨a, b, c, d, e⟩, rfl, bounds_i64 w0, bounds_i64 w1, bounds_i64 w2, bounds_i64 w3, bounds_i64 w4⟩

set_option maxRecDepth 100000 in
theorem open_place {r : Reach} {b0 : Nat} {v : Value} {d : DataW H} {p : List MemPlace} (hv : Value.okWide Tryz.prog w r b0 40 v) (h : DataW.Trod enc Tryz.prog w base spare held 40 v d p) :
    ∃ q : Pl, v = .agg #[.int .i64 q.x, .int .i64 q.y, .int .i64 q.z, .int .i64 q.h, .int .i64 q.s] ∧ Pl64 q := by
  obtain ⟨cs, rfl, hsz⟩ := okWide_struct Tryz.underlying40 hv
  obtain ⟨fuel, hf⟩ := h
  obtain ⟨q, hm, hs⟩ := pl_of_trod hf
  refine ⟨q, ?_, hs⟩
  simp only [Value.cells] at hm
  congr 1
  apply Array.ext'
  exact hm

end
end Go.Proofs.YtkicpbomjpgjpaaGreat

/- What PlaceSorts is handed: places that are told, and texts, read out of memory. -/
namespace Go.Proofs.YtkicpbomjpgjpaaGreat
open Go.ChangeShapes Go.WideShapes Go.ChangeAt Go.RowKit

section
variable {H : Type} {enc : TypeId × Value → H} {w : World} {base : Nat} {spare : Nat → Bool} {held : Bool}

theorem Tryz.cellsWh : Tryz.prog.cellsOf 104 = 6 := by kernel_rfl
theorem Tryz.cellsS : Tryz.prog.cellsOf 9 = 1 := by kernel_rfl

set_option maxRecDepth 100000 in
theorem wh_of_trod {fuel : Nat} {cs : List Value} {x : DataW H × List MemPlace} (h : DataW.trod enc Tryz.prog w base spare held fuel 104 cs = some x) :
    ∃ m : Wh.Whe, cs = m.cs ∧ m.ok := by
  obtain ⟨xs, n, _, _, hl, hlen, hf⟩ := DataW.trod_struct Tryz.underlying104 h
  rw [Tryz.cellsWh] at hl
  match cs, hl with
  | [c0, c1, c2, c3, c4, c5], _ =>
    match xs, hlen with
    | [y0, y1], _ =>
      have h0 := hf 0 _ rfl
      have h1 := hf 1 _ rfl
      simp [Tryz.cellsS] at h0
      simp [Tryz.cellsPl] at h1
      obtain ⟨s, e0, _, w0⟩ := DataW.trod_string Tryz.underlying9 h0
      obtain ⟨p, e1, _⟩ := pl_of_trod h1
      simp only [List.cons.injEq, and_true] at e0 e1
      obtain ⟨r1, r2, r3, r4, r5⟩ := e1
      subst e0 r1 r2 r3 r4 r5
      exact ⟨⟨s, p.x, p.y, p.z, p.h, p.s⟩, rfl, w0⟩

set_option maxRecDepth 100000 in
theorem open_whs {r : Reach} {b0 : Nat} {v : Value} {d : DataW H} {p : List MemPlace} (hv : Value.okWide Tryz.prog w r b0 66 v) (h : DataW.Trod enc Tryz.prog w base spare held 66 v d p) :
    ∃ ms : List Wh.Whe, Wh.Sl w v ms ∧ ms.length ≤ maxLen := by
  obtain ⟨a, len, cap, rfl⟩ := okWide_slice Tryz.underlying66 hv
  obtain ⟨fuel, hf⟩ := h
  rcases Go.Deep.open_slice Tryz.underlying66 hf with ⟨hcs, _⟩ | ⟨x, l, c, m, n, D, Pl, hcs, hb, hl, hm, hmm, _, hx⟩
  · simp [Value.cells] at hcs
    obtain ⟨rfl, rfl, rfl⟩ := hcs
    exact ⟨[], ⟨none, 0, rfl, Wh.ns_get (by simp), .inl rfl⟩, by simp⟩
  · simp [Value.cells] at hcs
    obtain ⟨rfl, rfl, rfl⟩ := hcs
    have hlm : len ≤ m := by rw [hmm]; split <;> omega
    have hall : ∀ i, i < len → ∃ q : Wh.Whe, (∀ t, t < 6 → w.cell? (x.add (i * 6 + t)) = q.cs[t]?) ∧ q.ok := fun i hi => by
      obtain ⟨cs', h1, h2⟩ := hx i (by omega)
      obtain ⟨q, hq, hs⟩ := wh_of_trod h2
      rw [Tryz.cellsWh] at h1
      obtain ⟨_, _, h3⟩ := World.cells?_some h1
      refine ⟨q, fun t ht => ?_, hs⟩
      rw [← Go.Deep.add_add, h3 t ht, hq]
    have hinh : Inhabited Wh.Whe := ⟨Wh.dm⟩
    obtain ⟨F, hF⟩ := Go.Deep.choose_lt (α := Wh.Whe) (p := fun i q => (∀ t, t < 6 → w.cell? (x.add (i * 6 + t)) = q.cs[t]?) ∧ q.ok) hall
    have hget : ∀ j, j < len → ((List.range len).map F).getD j Wh.dm = F j := fun j hj => by simp [List.getD, hj]
    refine ⟨(List.range len).map F, ⟨some x, cap, by simp, Wh.ns_get (fun q hq => ?_), ?_⟩, by simp; omega⟩
    · obtain ⟨j, hj, rfl⟩ := List.mem_map.1 hq
      exact (hF j (List.mem_range.1 hj)).2
    · by_cases h0 : len = 0
      · left; simp [h0]
      · right
        obtain ⟨b, off, spot⟩ := x
        have hc0 := (hF 0 (by omega)).1 0 (by omega)
        have hspot : spot = none := by simpa [Addr.add] using World.cell?_spot hc0
        subst hspot
        have hcell : ∀ j, j < len → ∀ t, t < 6 → w.cell? ⟨b, off + j * 6 + t, none⟩ = (F j).cs[t]? := fun j hj t ht => by
          have := (hF j hj).1 t ht
          rwa [Go.WideShapes.add_plain, ← Nat.add_assoc] at this
        refine ⟨b, off, rfl, World.block_lt_of_cell? w ⟨b, off + 0 * 6 + 0, none⟩ (hcell 0 (by omega) 0 (by omega)), fun j hj => ?_⟩
        have hj' : j < len := by simpa using hj
        rw [hget j hj']
        exact ⟨hcell j hj' 0 (by omega), hcell j hj' 1 (by omega), hcell j hj' 2 (by omega), hcell j hj' 3 (by omega), hcell j hj' 4 (by omega), hcell j hj' 5 (by omega)⟩

set_option maxRecDepth 100000 in
theorem open_txts {r : Reach} {b0 : Nat} {v : Value} {d : DataW H} {p : List MemPlace} (hv : Value.okWide Tryz.prog w r b0 26 v) (h : DataW.Trod enc Tryz.prog w base spare held 26 v d p) :
    ∃ ns : List ByteArray, TSl w v ns ∧ ns.length ≤ maxLen := by
  obtain ⟨a, len, cap, rfl⟩ := okWide_slice Tryz.underlying26 hv
  obtain ⟨fuel, hf⟩ := h
  rcases Go.Deep.open_slice Tryz.underlying26 hf with ⟨hcs, _⟩ | ⟨x, l, c, m, n, D, Pl, hcs, hb, hl, hm, hmm, _, hx⟩
  · simp [Value.cells] at hcs
    obtain ⟨rfl, rfl, rfl⟩ := hcs
    exact ⟨[], ⟨none, 0, rfl, fun j => by simp, .inl rfl⟩, by simp⟩
  · simp [Value.cells] at hcs
    obtain ⟨rfl, rfl, rfl⟩ := hcs
    have hlm : len ≤ m := by rw [hmm]; split <;> omega
    have hall : ∀ i, i < len → ∃ s : ByteArray, w.cell? (x.add i) = some (.string s) ∧ s.size ≤ maxLen := fun i hi => by
      obtain ⟨cs', h1, h2⟩ := hx i (by omega)
      obtain ⟨s, hq, _, hs⟩ := DataW.trod_string Tryz.underlying9 h2
      rw [Tryz.cellsS] at h1
      obtain ⟨_, _, h3⟩ := World.cells?_some h1
      refine ⟨s, ?_, hs⟩
      have h4 := h3 0 (by omega)
      rw [Go.Deep.add_add, hq, Nat.mul_one] at h4
      exact h4
    obtain ⟨F, hF⟩ := Go.Deep.choose_lt (α := ByteArray) (p := fun i s => w.cell? (x.add i) = some (.string s) ∧ s.size ≤ maxLen) hall
    have hget : ∀ j, j < len → ((List.range len).map F).getD j ByteArray.empty = F j := fun j hj => by simp [List.getD, hj]
    refine ⟨(List.range len).map F, ⟨some x, cap, by simp, fun j => ?_, ?_⟩, by simp; omega⟩
    · by_cases hj : j < len
      · rw [hget j hj]; exact (hF j hj).2
      · rw [show ((List.range len).map F).getD j ByteArray.empty = ByteArray.empty by simp [List.getD, hj]]; decide
    · by_cases h0 : len = 0
      · left; simp [h0]
      · right
        obtain ⟨b, off, spot⟩ := x
        have hc0 := (hF 0 (by omega)).1
        have hspot : spot = none := by simpa [Addr.add] using World.cell?_spot hc0
        subst hspot
        have hcell : ∀ j, j < len → w.cell? ⟨b, off + j, none⟩ = some (.string (F j)) := fun j hj => by
          have := (hF j hj).1
          rwa [Go.WideShapes.add_plain] at this
        refine ⟨b, off, rfl, World.block_lt_of_cell? w ⟨b, off + 0, none⟩ (hcell 0 (by omega)), fun j hj => ?_⟩
        have hj' : j < len := by simpa using hj
        rw [hget j hj']
        exact hcell j hj'

end
end Go.Proofs.YtkicpbomjpgjpaaGreat

/- PlaceSorts, whole. -/
namespace Go.Proofs.YtkicpbomjpgjpaaGreat
open Go.RowKit

set_option maxHeartbeats 800000 in
theorem sameT_any (l : List ByteArray) (v1 v2 : Value) (w : World) (h1 : TSl w v1 l) (h2 : TSl w v2 l) (hn : l.length ≤ 1000) :
    Calls Tryz.prog 14 #[v1, v2] w fun e w' => e = .returned (.bool true) ∧ Below w.heap.size w w' := by
  obtain ⟨p1, c1, hv1, _, hr1⟩ := h1
  obtain ⟨p2, c2, hv2, _, hr2⟩ := h2
  subst hv1 hv2
  have H1 : Hid (0 < l.length → ∃ g o, p1 = some ⟨g, o, none⟩ ∧ g < w.heap.size ∧ ∀ j, j < l.length → w.cell? ⟨g, o + j, none⟩ = some (.string (l.getD j ByteArray.empty))) := fun hpos => by
    rcases hr1 with h | h
    · rw [h] at hpos; simp at hpos
    · exact h
  have H2 : Hid (0 < l.length → ∃ g o, p2 = some ⟨g, o, none⟩ ∧ g < w.heap.size ∧ ∀ j, j < l.length → w.cell? ⟨g, o + j, none⟩ = some (.string (l.getD j ByteArray.empty))) := fun hpos => by
    rcases hr2 with h | h
    · rw [h] at hpos; simp at hpos
    · exact h
  clear hr1 hr2
  generalize hna : l.length = n at *
  clear hna
  go_enter Tryz.func14, Tryz.ntmps14
  go_wp2_with fail
  go_loopw [5] (fun i w' => ∃ k : Nat, k ≤ n ∧ i = .int .i64 k ∧ Below w.heap.size w w') (fun i _ => n - (intOf i).toNat)
  case atStart => exact ⟨0, Nat.zero_le _, rfl, Below.refl _ _⟩
  case round =>
    obtain ⟨k, hk, rfl, hbl⟩ := hrel
    obtain ⟨hbc, hbf⟩ := bcell hbl
    have hsz := hbl.size
    by_cases hlt : k < n
    · obtain ⟨g1, o1, e1, hl1, hc1⟩ := H1.out (by omega)
      obtain ⟨g2, o2, e2, hl2, hc2⟩ := H2.out (by omega)
      subst e1 e2
      have d1 := hc1 k hlt
      have d2 := hc2 k hlt
      clear hc1 hc2
      generalize l.getD k ByteArray.empty = s at *
      go_wp2_with fail
      go_quiet (fail)
      go_wp2_with fail
      go_roundw
      case rel => exact ⟨k + 1, by omega, by go_num, below_drewN hbl _⟩
      case measure => simp [intOf]; omega
    · go_wp2_with fail
      go_ret
      exact ⟨rfl, hbl⟩

theorem chkPs_snoc : ∀ (xs : List Pl) (x : Pl), chkPs xs = 0 → chkPs (xs ++ [x]) = chkP x
  | [], x, _ => by
    show (if chkP x = 0 then chkPs [] else 3) = chkP x
    rcases chkP_or x with h | h <;> simp [h, chkPs]
  | y :: r, x, h => by
    have hy : chkP y = 0 := by
      unfold chkPs at h
      by_cases hy : chkP y = 0
      · exact hy
      · rw [if_neg hy] at h; omega
    have hr : chkPs r = 0 := by unfold chkPs at h; rwa [if_pos hy] at h
    rw [List.cons_append]
    unfold chkPs
    rw [if_pos hy]
    exact chkPs_snoc r x hr
theorem chkPs_step (p : Pl) (ms : List Wh.Whe) (k : Nat) (hk : k < ms.length) (h : chkPs (p :: ((plcs ms).map toPl).take k) = 0) : chkPs (p :: ((plcs ms).map toPl).take (k + 1)) = chkP (toPl (plc (ms.getD k Wh.dm))) := by
  have hk2 : k < ((plcs ms).map toPl).length := by simp [plcs_len]; exact hk
  rw [List.take_succ_eq_append_getElem hk2, ← List.cons_append, chkPs_snoc _ _ h]
  simp [plcs, List.getD, List.getElem?_eq_getElem hk]
theorem chkPs_early (p : Pl) (ms : List Wh.Whe) (k : Nat) (h : chkPs (p :: ((plcs ms).map toPl).take k) ≠ 0) : chkPs (p :: (plcs ms).map toPl) = 3 ∧ chkPs (p :: ((plcs ms).map toPl).take k) = 3 := by
  refine ⟨?_, (chkPs_or _).resolve_left h⟩
  rcases chkPs_or (p :: (plcs ms).map toPl) with e | e
  · exfalso
    apply h
    rw [chkPs_zero] at e ⊢
    intro j hj
    have h2 : j < (p :: (plcs ms).map toPl).length := by
      have : ((p :: ((plcs ms).map toPl).take k)).length ≤ (p :: (plcs ms).map toPl).length := by simp; exact Nat.min_le_right _ _
      omega
    have := e j h2
    rw [show (p :: ((plcs ms).map toPl).take k) = (p :: (plcs ms).map toPl).take (k + 1) from rfl] at hj ⊢
    rw [show ((p :: (plcs ms).map toPl).take (k + 1)).getD j dp = (p :: (plcs ms).map toPl).getD j dp by
      have : j < k + 1 := by rw [List.length_take] at hj; omega
      simp only [List.getD, List.getElem?_take_of_lt this]]
    exact this
  · exact e

theorem tsl_nil (w : World) : TSl w (.slice none 0 0) [] := ⟨none, 0, rfl, fun j => by simp, .inl rfl⟩

/-- What Sort answers, all in all. -/
def sortE (p : Pl) (ms : List Wh.Whe) (ns : List ByteArray) : Int := if 100 < ms.length ∨ 100 < ns.length then 2 else chkPs (p :: (plcs ms).map toPl)
def sortL (p : Pl) (ms : List Wh.Whe) (ns : List ByteArray) : List ByteArray := if sortE p ms ns = 0 then srt p ms ns else []

theorem Sort_any (p : Pl) (ms : List Wh.Whe) (v vn : Value) (ns : List ByteArray) (w : World) (hv : Wh.Sl w v ms) (ht : TSl w vn ns) :
    Calls Tryz.prog 11 #[.agg #[.int .i64 p.x, .int .i64 p.y, .int .i64 p.z, .int .i64 p.h, .int .i64 p.s], v, vn] w fun e w' => ∃ v', e = .returned (.tuple #[v', .int .i64 (sortE p ms ns)]) ∧ TSl w' v' (sortL p ms ns) ∧ FrB w.heap.size w' v' ∧ Below w.heap.size w w' := by
  obtain ⟨a1, c1, hvv, _, _⟩ := id hv
  obtain ⟨a2, c2, hvn, _, _⟩ := id ht
  by_cases hm : 100 < ms.length ∨ 100 < ns.length
  · have hE : sortE p ms ns = 2 := by unfold sortE; rw [if_pos hm]
    have hL : sortL p ms ns = [] := by unfold sortL; rw [hE]; rfl
    rw [hE, hL, hvv, hvn]
    refine (sort_many p a1 a2 _ _ c1 c2 w hm).mono ?_
    rintro e w' ⟨rfl, hb⟩
    exact ⟨_, rfl, tsl_nil _, (fun g hg => by cases hg), hb⟩
  · have hE : sortE p ms ns = chkPs (p :: (plcs ms).map toPl) := by unfold sortE; rw [if_neg hm]
    rcases chkPs_or (p :: (plcs ms).map toPl) with h0 | h3
    · have hL : sortL p ms ns = srt p ms ns := by unfold sortL; rw [hE, h0]; rfl
      rw [hE, hL, h0]
      exact sort_good p ms v vn ns w hv ht (by omega) (by omega) h0
    · have hL : sortL p ms ns = [] := by unfold sortL; rw [hE, h3]; rfl
      rw [hE, hL, h3]
      by_cases hz : ms.length = 0
      · have hms := List.length_eq_zero_iff.1 hz
        subst hms
        rw [hvv, hvn]
        refine (sort_bad0 p a1 a2 ns.length c1 c2 w (by omega) h3).mono ?_
        rintro e w' ⟨rfl, hb⟩
        exact ⟨_, rfl, tsl_nil _, (fun g hg => by cases hg), hb⟩
      · rw [hvn]
        refine (sort_bad1 p ms v a2 ns.length c2 w hv (by omega) (by omega) (by omega) h3).mono ?_
        rintro e w' ⟨rfl, hb⟩
        exact ⟨_, rfl, tsl_nil _, (fun g hg => by cases hg), hb⟩

theorem sortL_len (p : Pl) (ms : List Wh.Whe) (ns : List ByteArray) : (sortL p ms ns).length ≤ 1000 := by
  unfold sortL
  by_cases h : sortE p ms ns = 0
  · rw [if_pos h]
    unfold sortE at h
    by_cases hm : 100 < ms.length ∨ 100 < ns.length
    · rw [if_pos hm] at h; omega
    · have h2 : (srt p ms ns).length = ns.length := by
        unfold srt
        have := So.insAll_len (ltN (dV (Dd (farW p) ms ms.length))) ns (swoN _) ns.length (Nat.le_refl _)
        rwa [List.take_length] at this
      omega
  · rw [if_neg h]; simp
theorem sortE_zero {p : Pl} {ms : List Wh.Whe} {ns : List ByteArray} (h : sortE p ms ns = 0) : ms.length ≤ 100 ∧ ns.length ≤ 100 ∧ OkP p ∧ ∀ j, j < ms.length → OkP (toPl (plc (ms.getD j Wh.dm))) := by
  unfold sortE at h
  by_cases hm : 100 < ms.length ∨ 100 < ns.length
  · rw [if_pos hm] at h; omega
  · rw [if_neg hm] at h
    have hz := (chkPs_zero _).1 h
    refine ⟨by omega, by omega, (okP_iff p).1 (by have := hz 0 (by simp); simpa using this), fun j hj => ?_⟩
    have := hz (j + 1) (by simp [plcs_len]; exact hj)
    refine (okP_iff _).1 ?_
    simpa [List.getD, plcs, List.getElem?_eq_getElem hj] using this

end Go.Proofs.YtkicpbomjpgjpaaGreat

/- Great lists of names that are the same. -/
namespace Go.Proofs.YtkicpbomjpgjpaaGreat
open Go.RowKit

set_option maxHeartbeats 800000 in
theorem sameT_big (l : List ByteArray) (v1 v2 : Value) (w : World) (h1 : TSl w v1 l) (h2 : TSl w v2 l) (hn : l.length ≤ 4000000000) :
    Calls Tryz.prog 14 #[v1, v2] w fun e w' => e = .returned (.bool true) ∧ Below w.heap.size w w' := by
  obtain ⟨p1, c1, hv1, _, hr1⟩ := h1
  obtain ⟨p2, c2, hv2, _, hr2⟩ := h2
  subst hv1 hv2
  have H1 : Hid (0 < l.length → ∃ g o, p1 = some ⟨g, o, none⟩ ∧ g < w.heap.size ∧ ∀ j, j < l.length → w.cell? ⟨g, o + j, none⟩ = some (.string (l.getD j ByteArray.empty))) := fun hpos => by
    rcases hr1 with h | h
    · rw [h] at hpos; simp at hpos
    · exact h
  have H2 : Hid (0 < l.length → ∃ g o, p2 = some ⟨g, o, none⟩ ∧ g < w.heap.size ∧ ∀ j, j < l.length → w.cell? ⟨g, o + j, none⟩ = some (.string (l.getD j ByteArray.empty))) := fun hpos => by
    rcases hr2 with h | h
    · rw [h] at hpos; simp at hpos
    · exact h
  clear hr1 hr2
  generalize hna : l.length = n at *
  clear hna
  go_enter Tryz.func14, Tryz.ntmps14
  go_wp2_with fail
  go_loopw [5] (fun i w' => ∃ k : Nat, k ≤ n ∧ i = .int .i64 k ∧ Below w.heap.size w w') (fun i _ => n - (intOf i).toNat)
  case atStart => exact ⟨0, Nat.zero_le _, rfl, Below.refl _ _⟩
  case round =>
    obtain ⟨k, hk, rfl, hbl⟩ := hrel
    obtain ⟨hbc, hbf⟩ := bcell hbl
    have hsz := hbl.size
    by_cases hlt : k < n
    · obtain ⟨g1, o1, e1, hl1, hc1⟩ := H1.out (by omega)
      obtain ⟨g2, o2, e2, hl2, hc2⟩ := H2.out (by omega)
      subst e1 e2
      have d1 := hc1 k hlt
      have d2 := hc2 k hlt
      clear hc1 hc2
      generalize l.getD k ByteArray.empty = s at *
      go_wp2_with fail
      go_quiet (fail)
      go_wp2_with fail
      go_roundw
      case rel => exact ⟨k + 1, by omega, by go_num, below_drewN hbl _⟩
      case measure => simp [intOf]; omega
    · go_wp2_with fail
      go_ret
      exact ⟨rfl, hbl⟩

end Go.Proofs.YtkicpbomjpgjpaaGreat

/- RestCatalogs: what Sort answers, and what the document answers. -/
namespace Go.Proofs.YtkicpbomjpgjpaaGreat
open Go.RowKit

def p00 : Pl := ⟨0, 0, 0, 0, 0⟩
theorem wh_nil (w : World) : Wh.Sl w (.slice none 0 0) [] := ⟨none, 0, rfl, fun j => by simpa using Wh.dm_ok, .inl rfl⟩

theorem sort_own (ns : List ByteArray) : ∃ (E : Int) (L : List ByteArray), L.length ≤ 1000 ∧
    (∀ v W, TSl W v ns → Calls Tryz.prog 11 #[.agg #[.int .i64 0, .int .i64 0, .int .i64 0, .int .i64 0, .int .i64 0], .slice none 0 0, v] W fun e w' => ∃ p l c, e = .returned (.tuple #[.slice p l c, .int .i64 E]) ∧ Hid (TSl w' (.slice p l c) L) ∧ Hid (FrB W.heap.size w' (.slice p l c)) ∧ Below W.heap.size W w') ∧
    (E = 0 → ∀ v W, TSl W v ns → Calls Tryz.prog 20 #[.agg #[.int .i64 0, .int .i64 0, .int .i64 0, .int .i64 0, .int .i64 0], .slice none 0 0, v] W fun e w' => ∃ v', e = .returned v' ∧ Hid (TSl w' v' L) ∧ Below W.heap.size W w') := by
  refine ⟨sortE p00 [] ns, sortL p00 [] ns, ?_, fun v W h => ?_, fun h0 v W h => ?_⟩
  · unfold sortL
    by_cases h : sortE p00 [] ns = 0
    · rw [if_pos h]
      have hl : ns.length ≤ 100 := by
        unfold sortE at h
        by_cases hm : 100 < ([] : List Wh.Whe).length ∨ 100 < ns.length
        · rw [if_pos hm] at h; exact absurd h (by decide)
        · have := not_or.1 hm; omega
      have := So.insAll_len (ltN (dV (Dd (farW p00) [] ([] : List Wh.Whe).length))) ns (swoN _) ns.length (Nat.le_refl _)
      rw [List.take_length] at this
      show (So.insAll (ltN (dV (Dd (farW p00) [] ([] : List Wh.Whe).length))) ns).length ≤ 1000
      omega
    · rw [if_neg h]; simp
  · refine (Sort_any p00 [] (.slice none 0 0) v ns W (wh_nil W) h).mono ?_
    rintro e w' ⟨v', rfl, ht, hf, hb⟩
    obtain ⟨p, c, hv, h1, h2⟩ := id ht
    subst hv
    exact ⟨_, _, _, rfl, ht, hf, hb⟩
  · have hm : ¬ (100 < ([] : List Wh.Whe).length ∨ 100 < ns.length) := by
      intro hm
      unfold sortE at h0
      rw [if_pos hm] at h0; exact absurd h0 (by decide)
    have hc : chkPs (p00 :: (plcs []).map toPl) = 0 := by
      unfold sortE at h0
      rw [if_neg hm] at h0; exact h0
    have hok : OkP p00 := (okP_iff p00).1 ((chkPs_zero _).1 hc 0 (by simp))
    have hL : sortL p00 [] ns = srt p00 [] ns := by unfold sortL; rw [if_pos h0]
    refine (sortOf_any p00 [] (.slice none 0 0) v ns W (wh_nil W) h (by simp) (by have := not_or.1 hm; omega) hok (fun j hj => absurd hj (by simp))).mono ?_
    rintro e w' ⟨v', rfl, ht, hb⟩
    exact ⟨v', rfl, by rw [hL]; exact ht, hb⟩

end Go.Proofs.YtkicpbomjpgjpaaGreat

/- RestCatalogs: what was answered is spoilt: the names. -/
namespace Go.Proofs.YtkicpbomjpgjpaaGreat
open Go.RowKit

set_option maxHeartbeats 3200000 in
set_option maxRecDepth 1000000 in
theorem rc32 {u0 u1 u2 u3 u4 u5 u6 u7 u8 u9 u10 u11 u12 u13 u14 u15 u16 u17 u18 u19 u20 u22 u23 u24 u25 u26 u27 u29 u30 u31 u32 u33 u34 u35 u36 u37 u38 u39 u40 u41 u42 u43 u44 u45 u46 u47 u48 u49 u50 u51 u52 u53 u54 u55 u56 u57 u58 u59 u60 u61 u62 u63 u64 u65 u66 u67 u68 u69 u70 u71 u72 u73 u74 u75 u76 u77 u78 u79 u80 u81 u82 u83 u84 u85 u86 u87 u88 u89 u90 u91 u92 u93 u94 u95 u96 u97 u98 u99 u100 u101 u102 u103 u104 u105 u106 u107 u108 u109 u110 u111 u112 u113 u114 u115 u116 u117 u118 u119 u120 u121 u122 u123 u124 u125 u126 u127 u128 u129 u130 u131 u132 u133 u134 u135 u136 u137 u138 u139 u140 u141 u142 u143 u144 u145 u146 u147 u148 u149 u150 u151 u152 u153 u154 u155 u156 u157 u158 u159 u160 u161 u162 u163 u164 u165 u166 u167 u168 u169 u170 u171 u172 u173 u174 u175 u176 u177 u178 u179 u180 u181 u182 u183 u184 u185 u186 u187 u188 u189 u190 u191 : Value} (w : World) (L0 : List ByteArray) (B : Nat) (sp : Option Addr) (sl sk : Nat) (HT : Hid (TSl w (.slice sp sl sk) L0)) (HF : Hid (FrB B w (.slice sp sl sk))) (hn : L0.length ≤ 1000) (Q : Exit → Act → World → Prop)
    (hN : ∀ (y183 y184 y185 y186 y187 y188 y189 y190 y191 y28 : Value) (wx : World), Hid (Chg (.slice sp sl sk) w wx) → Q .normal ⟨#[u0, u1, u2, u3, u4, u5, u6, u7, u8, u9, u10, u11, u12, u13, u14, u15, u16, u17, u18, u19, u20, .slice sp sl sk, u22, u23, u24, u25, u26, u27, y28, u29, u30, u31, u32, u33, u34, u35, u36, u37, u38, u39, u40, u41, u42, u43, u44, u45, u46, u47, u48, u49, u50, u51, u52, u53, u54, u55, u56, u57, u58, u59, u60, u61, u62, u63, u64, u65, u66, u67, u68, u69, u70, u71, u72, u73, u74, u75, u76, u77, u78, u79, u80, u81, u82, u83, u84, u85, u86, u87, u88, u89, u90, u91, u92, u93, u94, u95, u96, u97, u98, u99, u100, u101, u102, u103, u104, u105, u106, u107, u108, u109, u110, u111, u112, u113, u114, u115, u116, u117, u118, u119, u120, u121, u122, u123, u124, u125, u126, u127, u128, u129, u130, u131, u132, u133, u134, u135, u136, u137, u138, u139, u140, u141, u142, u143, u144, u145, u146, u147, u148, u149, u150, u151, u152, u153, u154, u155, u156, u157, u158, u159, u160, u161, u162, u163, u164, u165, u166, u167, u168, u169, u170, u171, u172, u173, u174, u175, u176, u177, u178, u179, u180, u181, u182, y183, y184, y185, y186, y187, y188, y189, y190, y191], []⟩ wx) :
    Code.wp Tryz.prog ((Tryz.f3.body.bind (blkIn 4)).getD .skip) Q ⟨#[u0, u1, u2, u3, u4, u5, u6, u7, u8, u9, u10, u11, u12, u13, u14, u15, u16, u17, u18, u19, u20, .slice sp sl sk, u22, u23, u24, u25, u26, u27, .int .i64 0, u29, u30, u31, u32, u33, u34, u35, u36, u37, u38, u39, u40, u41, u42, u43, u44, u45, u46, u47, u48, u49, u50, u51, u52, u53, u54, u55, u56, u57, u58, u59, u60, u61, u62, u63, u64, u65, u66, u67, u68, u69, u70, u71, u72, u73, u74, u75, u76, u77, u78, u79, u80, u81, u82, u83, u84, u85, u86, u87, u88, u89, u90, u91, u92, u93, u94, u95, u96, u97, u98, u99, u100, u101, u102, u103, u104, u105, u106, u107, u108, u109, u110, u111, u112, u113, u114, u115, u116, u117, u118, u119, u120, u121, u122, u123, u124, u125, u126, u127, u128, u129, u130, u131, u132, u133, u134, u135, u136, u137, u138, u139, u140, u141, u142, u143, u144, u145, u146, u147, u148, u149, u150, u151, u152, u153, u154, u155, u156, u157, u158, u159, u160, u161, u162, u163, u164, u165, u166, u167, u168, u169, u170, u171, u172, u173, u174, u175, u176, u177, u178, u179, u180, u181, u182, u183, u184, u185, u186, u187, u188, u189, u190, u191], []⟩ w := by
  conv => arg 2; whnf
  have HQN : Hid _ := hN
  clear hN
  obtain ⟨a, cap, hv, _, hr⟩ := HT.out
  simp only [Value.slice.injEq] at hv
  obtain ⟨rfl, rfl, rfl⟩ := hv
  rcases hr with h0 | ⟨g, off, rfl, hlt, hrow⟩
  · have hz : L0.length = 0 := by rw [h0]; rfl
    rw [hz] at HQN
    rw [hz]
    clear HT HF h0 hz hn
    go_wp2_with fail
    go_loopw [28] (fun i wr => i = .int .i64 0 ∧ wr = w) (fun _ _ => 0)
    case atStart => exact ⟨rfl, rfl⟩
    case round =>
      obtain ⟨rfl, hw⟩ := hrel
      subst hw
      go_wp2_with fail
      exact HQN.out _ _ _ _ _ _ _ _ _ _ _ (Chg.refl _ _)
  · have hfz : ∀ j, w.frozen? ⟨g, j, none⟩ = false := (HF.out g rfl).2.2
    have hcl : ∀ j, j < L0.length → ∃ u, w.cell? ⟨g, off + j, none⟩ = some u := fun j hj => ⟨_, hrow j hj⟩
    generalize L0.length = n at *
    have HC0 : Hid (∀ j, j < n → ∃ u, w.cell? ⟨g, off + j, none⟩ = some u) := hcl
    have HZ0 : Hid (∀ j, w.frozen? ⟨g, j, none⟩ = false) := hfz
    clear hfz hcl HT HF hrow
    go_wp2_with fail
    go_loopw [28] (fun i wr => ∃ (k : Nat), k ≤ n ∧ i = .int .i64 k ∧ Hid (∀ j, j < n → ∃ u, wr.cell? ⟨g, off + j, none⟩ = some u) ∧ Hid (∀ j, wr.frozen? ⟨g, j, none⟩ = false) ∧ Hid (Chg (.slice (some ⟨g, off, none⟩) n sk) w wr)) (fun i _ => n - (intOf i).toNat)
    case atStart => exact ⟨0, Nat.zero_le _, rfl, HC0, HZ0, Chg.refl _ _⟩
    case round =>
      obtain ⟨k, hk, rfl, HC, HZ, HB⟩ := hrel
      by_cases hlt : k < n
      · have hd : decide ((k : Int) < (n : Int)) = true := by simp; omega
        obtain ⟨u, c0⟩ := HC.out k hlt
        have z0 := HZ.out (off + k)
        have HC2 : Hid (∀ j, j < n → ∃ u, (wr.setCell ⟨g, off + k, none⟩ (.string ⟨#[63]⟩)).cell? ⟨g, off + j, none⟩ = some u) := (show ∀ j, j < n → _ from fun j hj => by
          obtain ⟨u, hu⟩ := HC.out j hj
          exact cell?_setCell_some hu)
        have HZ2 : Hid (∀ j, (wr.setCell ⟨g, off + k, none⟩ (.string ⟨#[63]⟩)).frozen? ⟨g, j, none⟩ = false) := fun j => (World.frozen?_setCell _ _ _ _).trans (HZ.out j)
        have hi0 : (0 : Int) ≤ (k : Int) := by omega
        have hi1 : (k : Int) < (n : Int) := by omega
        have hi2 : ((k : Int)).toNat = k := by omega
        have hk1 : k * 1 = k := Nat.mul_one k
        go_wp2_with fail
        refine ⟨⟨k + 1, by omega, by go_num, HC2, HZ2, HB.out.setCell rfl⟩, by simp [intOf]; omega⟩
      · have hd : decide ((k : Int) < (n : Int)) = false := by simp; omega
        go_wp2_with fail
        exact HQN.out _ _ _ _ _ _ _ _ _ _ _ HB

end Go.Proofs.YtkicpbomjpgjpaaGreat

/- Great lists of gateways that are the same. -/
namespace Go.Proofs.YtkicpbomjpgjpaaGreat
namespace Gw
open Go.RowKit

set_option maxHeartbeats 800000 in
theorem same_big (a b : List Gwy) (va vb : Value) (w : World) (ha : Sl w va a) (hb : Sl w vb b) (hsm : a.length ≤ 4000000000) :
    Calls Tryz.prog 13 #[va, vb] w fun e w' => ∃ r : Bool, e = .returned (.bool r) ∧ (r = true ↔ a = b) ∧ Below w.heap.size w w' := by
  obtain ⟨pa, ca, rfl, _, ha⟩ := ha
  obtain ⟨pv, cb, rfl, _, hb⟩ := hb
  by_cases hl : a.length = b.length
  · have HA : Hid (a = [] ∨ ∃ b off, pa = some ⟨b, off, none⟩ ∧ b < w.heap.size ∧ Row w b off a) := ha
    have HB : Hid (b = [] ∨ ∃ b_1 off, pv = some ⟨b_1, off, none⟩ ∧ b_1 < w.heap.size ∧ Row w b_1 off b) := hb
    have HL : Hid (a.length = b.length) := hl
    clear ha hb
    rw [← hl]
    clear hl
    generalize hna : a.length = n at *
    have HN : Hid (a.length = n) := hna
    clear hna
    have hg28 : Tryz.prog.eqGuardType Tryz.prog.depth 62 = false := by kernel_rfl
    go_enter Tryz.func13, Tryz.ntmps13
    go_wp2_with fail
    go_loopw [5] (fun i w' => ∃ k : Nat, k ≤ n ∧ i = .int .i64 k ∧ Below w.heap.size w w' ∧ Hid (∀ j, j < k → a.getD j dm = b.getD j dm)) (fun i _ => n - (intOf i).toNat)
    case atStart => exact ⟨0, Nat.zero_le _, rfl, Below.refl _ _, fun j h => absurd h (Nat.not_lt_zero _)⟩
    case round =>
      obtain ⟨k, hk, rfl, hbl, hz⟩ := hrel
      obtain ⟨hbc, hbf⟩ := bcell hbl
      have hsz := hbl.size
      by_cases hlt : k < n
      · obtain ⟨b1, o1, hp1, hl1, hr1⟩ : ∃ b off, pa = some ⟨b, off, none⟩ ∧ b < w.heap.size ∧ Row w b off a := by
          rcases HA.out with h | h
          · have := HN.out; rw [h] at this; simp at this; omega
          · exact h
        obtain ⟨b2, o2, hp2, hl2, hr2⟩ : ∃ b_1 off, pv = some ⟨b_1, off, none⟩ ∧ b_1 < w.heap.size ∧ Row w b_1 off b := by
          rcases HB.out with h | h
          · have h2 := HN.out; have h3 := HL.out; rw [h] at h3; simp at h3; omega
          · exact h
        subst hp1
        subst hp2
        obtain ⟨c0, c1, c2⟩ := hr1 k (by rw [HN.out]; exact hlt)
        obtain ⟨d0, d1, d2⟩ := hr2 k (by have h2 := HN.out; have h3 := HL.out; omega)
        clear hr1 hr2
        have HF : Hid (a.getD k dm ≠ b.getD k dm → a ≠ b) := fun h e => h (by rw [e])
        have HZ : Hid (a.getD k dm = b.getD k dm → ∀ j, j < k + 1 → a.getD j dm = b.getD j dm) := fun h j hj => by
          rcases Nat.lt_succ_iff_lt_or_eq.1 hj with h2 | rfl
          · exact hz.out j h2
          · exact h
        have hneq := neqE (a.getD k dm) (b.getD k dm)
        generalize a.getD k dm = m1 at *
        generalize b.getD k dm = m2 at *
        rcases hs : sameM m1 m2 with _ | _
        · rw [hs] at hneq
          have hne : Hid (a ≠ b) := HF.out (fun e => by rw [← sameM_iff, hs] at e; cases e)
          go_wp2_with fail
          go_quiet (fail)
          go_wp2_with fail
          go_ret
          exact ⟨false, rfl, ⟨fun h => (by cases h), fun h => absurd h hne.out⟩, below_drewN hbl _⟩
        · rw [hs] at hneq
          have heq : Hid (m1 = m2) := (sameM_iff m1 m2).1 hs
          go_wp2_with fail
          go_quiet (fail)
          go_wp2_with fail
          go_roundw
          case rel => exact ⟨k + 1, by omega, by go_num, below_drewN hbl _, HZ.out heq.out⟩
          case measure => simp [intOf]; omega
      · have hfin : Hid (a = b) := by
          apply List.ext_getElem (HN.out.trans HL.out)
          intro j h1 h2
          have := hz.out j (by have := HN.out; omega)
          simpa [List.getD, List.getElem?_eq_getElem h1, List.getElem?_eq_getElem h2] using this
        go_wp2_with fail
        go_ret
        exact ⟨true, rfl, ⟨fun _ => hfin.out, fun _ => rfl⟩, hbl⟩
  · have hne : ((a.length : Int) != (b.length : Int)) = true := by rw [bne_iff_ne]; omega
    have HF : Hid (a ≠ b) := fun e => hl (by rw [e])
    clear ha hb
    go_enter Tryz.func13, Tryz.ntmps13
    go_wp2_with fail
    go_ret
    exact ⟨false, rfl, ⟨fun h => (by cases h), fun h => absurd h HF.out⟩, Below.refl _ _⟩

end Gw
end Go.Proofs.YtkicpbomjpgjpaaGreat

/- RestCatalogs: gateways and names are held against the document. -/
namespace Go.Proofs.YtkicpbomjpgjpaaGreat
open Go.RowKit

/-- The question at that slot. -/
def condIn (n : Nat) : Code → Option Code
  | .cond (.tmp m) a b => if m = n then some (.cond (.tmp m) a b) else match condIn n a with
    | some c => some c
    | none => condIn n b
  | .seq a b => match condIn n a with
    | some c => some c
    | none => condIn n b
  | .loop c => condIn n c
  | .block _ c => condIn n c
  | _ => none

set_option maxHeartbeats 3200000 in
set_option maxRecDepth 1000000 in
theorem rc18 {u0 u1 u3 u4 u5 u6 u7 u8 u9 u10 u11 u12 u13 u14 u15 u16 u17 u21 u22 u23 u24 u25 u26 u27 u28 u29 u30 u31 u32 u33 u34 u35 u36 u37 u38 u39 u40 u41 u42 u43 u44 u45 u46 u47 u48 u49 u50 u51 u52 u53 u54 u55 u56 u57 u58 u59 u60 u61 u62 u63 u64 u65 u66 u67 u68 u69 u70 u71 u72 u73 u74 u75 u76 u77 u78 u79 u80 u81 u82 u83 u84 u85 u86 u87 u88 u89 u90 u91 u92 u93 u94 u95 u96 u97 u98 u99 u100 u101 u102 u103 u104 u105 u106 u107 u108 u109 u110 u111 u112 u113 u114 u115 u116 u117 u118 u119 u120 u121 u122 u123 u124 u125 u126 u127 u128 u129 u130 u131 u132 u133 u135 u136 u137 u138 u139 u140 u141 u142 u143 u144 u145 u146 u147 u148 u149 u150 u151 u152 u153 u154 u155 u156 u157 u158 u159 u160 u161 u162 u163 u164 u165 u166 u167 u168 u169 u170 u171 u172 u173 u174 u175 u176 u177 u178 u179 u180 u181 u182 u183 u184 u185 u186 u187 u188 u189 u190 u191 : Value} (w : World) (cb : Bool) (gs LO : List Gw.Gwy) (HCB : Hid ((Gw.chk gs == 0) = cb)) (ET EO : Int) (pg po : Option Addr) (cg no co : Nat) (hg : Gw.Sl w (.slice pg gs.length cg) gs) (HO : Hid (Gw.Sl w (.slice po no co) LO)) (hlo : LO.length ≤ 1000) (HET : Hid (Gw.chk gs = 0 → ET = 0))
    (HD : Hid (Gw.chk gs = 0 → ∀ v W, Gw.Sl W v gs → Calls Tryz.prog 19 #[v, .string ⟨#[113]⟩, .int .i64 5] W fun e w' => ∃ v', e = .returned (.tuple #[v', .int .i64 EO]) ∧ Hid (EO = 0 → Gw.Sl w' v' LO) ∧ Below W.heap.size W w')) (Q : Exit → Act → World → Prop)
    (hN : ∀ (y25 y26 y135 y136 y137 y138 y139 y140 y141 y142 y143 y144 y145 y146 y147 y148 y149 y150 y151 y152 y153 y154 y155 y156 : Value) (wx : World), Hid (Below w.heap.size w wx) → Q .normal ⟨#[u0, u1, .slice pg gs.length cg, u3, u4, u5, u6, u7, u8, u9, u10, u11, u12, u13, u14, u15, u16, u17, .int .i64 ET, .slice po no co, .int .i64 EO, u21, u22, u23, u24, y25, y26, u27, u28, u29, u30, u31, u32, u33, u34, u35, u36, u37, u38, u39, u40, u41, u42, u43, u44, u45, u46, u47, u48, u49, u50, u51, u52, u53, u54, u55, u56, u57, u58, u59, u60, u61, u62, u63, u64, u65, u66, u67, u68, u69, u70, u71, u72, u73, u74, u75, u76, u77, u78, u79, u80, u81, u82, u83, u84, u85, u86, u87, u88, u89, u90, u91, u92, u93, u94, u95, u96, u97, u98, u99, u100, u101, u102, u103, u104, u105, u106, u107, u108, u109, u110, u111, u112, u113, u114, u115, u116, u117, u118, u119, u120, u121, u122, u123, u124, u125, u126, u127, u128, u129, u130, u131, u132, u133, .bool cb, y135, y136, y137, y138, y139, y140, y141, y142, y143, y144, y145, y146, y147, y148, y149, y150, y151, y152, y153, y154, y155, y156, u157, u158, u159, u160, u161, u162, u163, u164, u165, u166, u167, u168, u169, u170, u171, u172, u173, u174, u175, u176, u177, u178, u179, u180, u181, u182, u183, u184, u185, u186, u187, u188, u189, u190, u191], []⟩ wx) :
    Code.wp Tryz.prog ((Tryz.f3.body.bind (condIn 134)).getD .skip) Q ⟨#[u0, u1, .slice pg gs.length cg, u3, u4, u5, u6, u7, u8, u9, u10, u11, u12, u13, u14, u15, u16, u17, .int .i64 ET, .slice po no co, .int .i64 EO, u21, u22, u23, u24, u25, u26, u27, u28, u29, u30, u31, u32, u33, u34, u35, u36, u37, u38, u39, u40, u41, u42, u43, u44, u45, u46, u47, u48, u49, u50, u51, u52, u53, u54, u55, u56, u57, u58, u59, u60, u61, u62, u63, u64, u65, u66, u67, u68, u69, u70, u71, u72, u73, u74, u75, u76, u77, u78, u79, u80, u81, u82, u83, u84, u85, u86, u87, u88, u89, u90, u91, u92, u93, u94, u95, u96, u97, u98, u99, u100, u101, u102, u103, u104, u105, u106, u107, u108, u109, u110, u111, u112, u113, u114, u115, u116, u117, u118, u119, u120, u121, u122, u123, u124, u125, u126, u127, u128, u129, u130, u131, u132, u133, .bool cb, u135, u136, u137, u138, u139, u140, u141, u142, u143, u144, u145, u146, u147, u148, u149, u150, u151, u152, u153, u154, u155, u156, u157, u158, u159, u160, u161, u162, u163, u164, u165, u166, u167, u168, u169, u170, u171, u172, u173, u174, u175, u176, u177, u178, u179, u180, u181, u182, u183, u184, u185, u186, u187, u188, u189, u190, u191], []⟩ w := by
  conv => arg 2; whnf
  have HQN : Hid _ := hN
  clear hN
  cases cb with
  | true =>
    have h0 : Gw.chk gs = 0 := by simpa using HCB.out
    have e0 : ET = 0 := HET.out h0
    have HT : Hid (Calls Tryz.prog 19 #[.slice pg gs.length cg, .string ⟨#[113]⟩, .int .i64 5] w fun e w' => ∃ v', e = .returned (.tuple #[v', .int .i64 EO]) ∧ Hid (EO = 0 → Gw.Sl w' v' LO) ∧ Below w.heap.size w w') := HD.out h0 _ w hg
    clear h0 hg HD HCB HET
    subst e0
    go_wp2_with fail
    refine HT.out.mono ?_
    rintro e w1 ⟨v1, rfl, HS1, hb1⟩
    have HB1 : Hid (Below w.heap.size w w1) := hb1
    have hxx : (EO != EO) = false := by simp
    clear hb1 HT
    by_cases hex : EO = 0
    · have hexb : (EO == 0) = true := by simp [hex]
      have HS : Hid (Gw.Sl w1 v1 LO) := HS1.out hex
      clear hex HS1
      go_wp2_with fail
      refine (Gw.same_big LO LO _ _ w1 (HO.out.below HB1.out) HS.out (by omega)).mono ?_
      rintro e w2 ⟨r2, rfl, hr2, hb2⟩
      have e2 : r2 = true := hr2.2 rfl
      subst e2
      have HB2 : Hid (Below w.heap.size w w2) := HB1.out.trans (hb2.mono HB1.out.size)
      clear hb2 hr2
      go_wp2_with fail
      exact HQN.out _ _ _ _ _ _ _ _ _ _ _ _ _ _ _ _ _ _ _ _ _ _ _ _ _ HB2
    · have hexb : (EO == 0) = false := by simp [hex]
      clear hex HS1
      go_wp2_with fail
      exact HQN.out _ _ _ _ _ _ _ _ _ _ _ _ _ _ _ _ _ _ _ _ _ _ _ _ _ HB1
  | false =>
    go_wp2_with fail
    exact HQN.out _ _ _ _ _ _ _ _ _ _ _ _ _ _ _ _ _ _ _ _ _ _ _ _ _ (Below.refl _ _)

set_option maxHeartbeats 3200000 in
set_option maxRecDepth 1000000 in
theorem rc22 {u0 u1 u2 u4 u5 u6 u7 u8 u9 u10 u11 u12 u13 u14 u15 u16 u17 u18 u19 u20 u23 u24 u25 u26 u27 u28 u29 u30 u31 u32 u33 u34 u35 u36 u37 u38 u39 u40 u41 u42 u43 u44 u45 u46 u47 u48 u49 u50 u51 u52 u53 u54 u55 u56 u57 u58 u59 u60 u61 u62 u63 u64 u65 u66 u67 u68 u69 u70 u71 u72 u73 u74 u75 u76 u77 u78 u79 u80 u81 u82 u83 u84 u85 u86 u87 u88 u89 u90 u91 u92 u93 u94 u95 u96 u97 u98 u99 u100 u101 u102 u103 u104 u105 u106 u107 u108 u109 u110 u111 u112 u113 u114 u115 u116 u117 u118 u119 u120 u121 u122 u123 u124 u125 u126 u127 u128 u129 u130 u131 u132 u133 u134 u135 u136 u137 u138 u139 u140 u141 u142 u143 u144 u145 u146 u147 u148 u149 u150 u151 u152 u153 u154 u155 u156 u157 u158 u159 u160 u161 u162 u163 u164 u165 u166 u167 u168 u169 u170 u171 u172 u173 u174 u175 u176 u177 u178 u179 u180 u181 u182 u183 u184 u185 u186 u187 u188 u189 u190 u191 : Value} (w : World) (ns L : List ByteArray) (ES : Int) (pn sp : Option Addr) (cn sl sk : Nat) (hg : TSl w (.slice pn ns.length cn) ns) (HO : Hid (TSl w (.slice sp sl sk) L)) (hlo : L.length ≤ 1000)
    (HD : Hid (ES = 0 → ∀ v W, TSl W v ns → Calls Tryz.prog 20 #[.agg #[.int .i64 0, .int .i64 0, .int .i64 0, .int .i64 0, .int .i64 0], .slice none 0 0, v] W fun e w' => ∃ v', e = .returned v' ∧ Hid (TSl w' v' L) ∧ Below W.heap.size W w')) (Q : Exit → Act → World → Prop)
    (hN : ∀ (y157 y158 y159 y160 y161 y162 y163 y164 y165 : Value) (wx : World), Hid (Below w.heap.size w wx) → Q .normal ⟨#[u0, u1, u2, .slice pn ns.length cn, u4, u5, u6, u7, u8, u9, u10, u11, u12, u13, u14, u15, u16, u17, u18, u19, u20, .slice sp sl sk, .int .i64 ES, u23, u24, u25, u26, u27, u28, u29, u30, u31, u32, u33, u34, u35, u36, u37, u38, u39, u40, u41, u42, u43, u44, u45, u46, u47, u48, u49, u50, u51, u52, u53, u54, u55, u56, u57, u58, u59, u60, u61, u62, u63, u64, u65, u66, u67, u68, u69, u70, u71, u72, u73, u74, u75, u76, u77, u78, u79, u80, u81, u82, u83, u84, u85, u86, u87, u88, u89, u90, u91, u92, u93, u94, u95, u96, u97, u98, u99, u100, u101, u102, u103, u104, u105, u106, u107, u108, u109, u110, u111, u112, u113, u114, u115, u116, u117, u118, u119, u120, u121, u122, u123, u124, u125, u126, u127, u128, u129, u130, u131, u132, u133, u134, u135, u136, u137, u138, u139, u140, u141, u142, u143, u144, u145, u146, u147, u148, u149, u150, u151, u152, u153, u154, u155, u156, y157, y158, y159, y160, y161, y162, y163, y164, y165, .bool false, u167, u168, u169, u170, u171, u172, u173, u174, u175, u176, u177, u178, u179, u180, u181, u182, u183, u184, u185, u186, u187, u188, u189, u190, u191], []⟩ wx) :
    Code.wp Tryz.prog ((Tryz.f3.body.bind (regIn 22)).getD .skip) Q ⟨#[u0, u1, u2, .slice pn ns.length cn, u4, u5, u6, u7, u8, u9, u10, u11, u12, u13, u14, u15, u16, u17, u18, u19, u20, .slice sp sl sk, .int .i64 ES, u23, u24, u25, u26, u27, u28, u29, u30, u31, u32, u33, u34, u35, u36, u37, u38, u39, u40, u41, u42, u43, u44, u45, u46, u47, u48, u49, u50, u51, u52, u53, u54, u55, u56, u57, u58, u59, u60, u61, u62, u63, u64, u65, u66, u67, u68, u69, u70, u71, u72, u73, u74, u75, u76, u77, u78, u79, u80, u81, u82, u83, u84, u85, u86, u87, u88, u89, u90, u91, u92, u93, u94, u95, u96, u97, u98, u99, u100, u101, u102, u103, u104, u105, u106, u107, u108, u109, u110, u111, u112, u113, u114, u115, u116, u117, u118, u119, u120, u121, u122, u123, u124, u125, u126, u127, u128, u129, u130, u131, u132, u133, u134, u135, u136, u137, u138, u139, u140, u141, u142, u143, u144, u145, u146, u147, u148, u149, u150, u151, u152, u153, u154, u155, u156, u157, u158, u159, u160, u161, u162, u163, u164, u165, u166, u167, u168, u169, u170, u171, u172, u173, u174, u175, u176, u177, u178, u179, u180, u181, u182, u183, u184, u185, u186, u187, u188, u189, u190, u191], []⟩ w := by
  conv => arg 2; whnf
  have HQN : Hid _ := hN
  clear hN
  by_cases hex : ES = 0
  · have hexb : (ES == 0) = true := by simp [hex]
    have HT : Hid (Calls Tryz.prog 20 #[.agg #[.int .i64 0, .int .i64 0, .int .i64 0, .int .i64 0, .int .i64 0], .slice none 0 0, .slice pn ns.length cn] w fun e w' => ∃ v', e = .returned v' ∧ Hid (TSl w' v' L) ∧ Below w.heap.size w w') := HD.out hex _ w hg
    clear hex HD hg
    go_wp2_with fail
    refine HT.out.mono ?_
    rintro e w1 ⟨v1, rfl, HS, hb1⟩
    have HB1 : Hid (Below w.heap.size w w1) := hb1
    clear hb1 HT
    go_wp2_with fail
    refine (sameT_big L _ _ w1 (HO.out.below HB1.out) HS.out (by omega)).mono ?_
    rintro e w2 ⟨rfl, hb2⟩
    have HB2 : Hid (Below w.heap.size w w2) := HB1.out.trans (hb2.mono HB1.out.size)
    clear hb2
    go_wp2_with fail
    exact HQN.out _ _ _ _ _ _ _ _ _ _ HB2
  · have hexb : (ES == 0) = false := by simp [hex]
    clear hex HD
    go_wp2_with fail
    exact HQN.out _ _ _ _ _ _ _ _ _ _ (Below.refl _ _)

end Go.Proofs.YtkicpbomjpgjpaaGreat

