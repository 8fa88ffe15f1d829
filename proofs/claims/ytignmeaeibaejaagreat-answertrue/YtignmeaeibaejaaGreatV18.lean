/- PW, PSA, AN5, SK9, SKS2 -/
import Derived.Test.YtignmeaeibaejaaGreatV17
import Derived.Test.YtignmeaeibaejaaGreatV5
import Derived.Test.YtignmeaeibaejaaGreatV15
import Derived.Test.YtignmeaeibaejaaGreatV7
import Derived.Test.YtignmeaeibaejaaGreatV8
/- What PlaceSorts is handed: places that are told, and texts, read out of memory. -/
namespace Go.Proofs.YtignmeaeibaejaaGreat
open Go.ChangeShapes Go.WideShapes Go.ChangeAt Go.RowKit

section
variable {H : Type} {enc : TypeId × Value → H} {w : World} {base : Nat} {spare : Nat → Bool} {held : Bool}

theorem Tryz.cellsWh : Tryz.prog.cellsOf 67 = 6 := by kernel_rfl
theorem Tryz.cellsS : Tryz.prog.cellsOf 9 = 1 := by kernel_rfl

set_option maxRecDepth 100000 in
theorem wh_of_trod {fuel : Nat} {cs : List Value} {x : DataW H × List MemPlace} (h : DataW.trod enc Tryz.prog w base spare held fuel 67 cs = some x) :
    ∃ m : Wh.Whe, cs = m.cs ∧ m.ok := by
  obtain ⟨xs, n, _, _, hl, hlen, hf⟩ := DataW.trod_struct Tryz.underlying67 h
  rw [Tryz.cellsWh] at hl
  match cs, hl with
  | [c0, c1, c2, c3, c4, c5], _ =>
    match xs, hlen with
    | [y0, y1], _ =>
      have h0 := hf 0 _ rfl
      have h1 := hf 1 _ rfl
      simp [Tryz.cellsS] at h0
      simp [Tryz.cellsPl] at h1
      obtain ⟨s, e0, _, w0⟩ := DataW.trod_string Tryz.underlying9 h0
      obtain ⟨p, e1, _⟩ := pl_of_trod h1
      simp only [List.cons.injEq, and_true] at e0 e1
      obtain ⟨r1, r2, r3, r4, r5⟩ := e1
      subst e0 r1 r2 r3 r4 r5
      exact ⟨⟨s, p.x, p.y, p.z, p.h, p.s⟩, rfl, w0⟩

set_option maxRecDepth 100000 in
theorem open_whs {r : Reach} {b0 : Nat} {v : Value} {d : DataW H} {p : List MemPlace} (hv : Value.okWide Tryz.prog w r b0 28 v) (h : DataW.Trod enc Tryz.prog w base spare held 28 v d p) :
    ∃ ms : List Wh.Whe, Wh.Sl w v ms ∧ ms.length ≤ maxLen := by
  obtain ⟨a, len, cap, rfl⟩ := okWide_slice Tryz.underlying28 hv
  obtain ⟨fuel, hf⟩ := h
  rcases Go.Deep.open_slice Tryz.underlying28 hf with ⟨hcs, _⟩ | ⟨x, l, c, m, n, D, Pl, hcs, hb, hl, hm, hmm, _, hx⟩
  · simp [Value.cells] at hcs
    obtain ⟨rfl, rfl, rfl⟩ := hcs
    exact ⟨[], ⟨none, 0, rfl, Wh.ns_get (by simp), .inl rfl⟩, by simp⟩
  · simp [Value.cells] at hcs
    obtain ⟨rfl, rfl, rfl⟩ := hcs
    have hlm : len ≤ m := by rw [hmm]; split <;> omega
    have hall : ∀ i, i < len → ∃ q : Wh.Whe, (∀ t, t < 6 → w.cell? (x.add (i * 6 + t)) = q.cs[t]?) ∧ q.ok := fun i hi => by
      obtain ⟨cs', h1, h2⟩ := hx i (by omega)
      obtain ⟨q, hq, hs⟩ := wh_of_trod h2
      rw [Tryz.cellsWh] at h1
      obtain ⟨_, _, h3⟩ := World.cells?_some h1
      refine ⟨q, fun t ht => ?_, hs⟩
      rw [← Go.Deep.add_add, h3 t ht, hq]
    have hinh : Inhabited Wh.Whe := ⟨Wh.dm⟩
    obtain ⟨F, hF⟩ := Go.Deep.choose_lt (α := Wh.Whe) (p := fun i q => (∀ t, t < 6 → w.cell? (x.add (i * 6 + t)) = q.cs[t]?) ∧ q.ok) hall
    have hget : ∀ j, j < len → ((List.range len).map F).getD j Wh.dm = F j := fun j hj => by simp [List.getD, hj]
    refine ⟨(List.range len).map F, ⟨some x, cap, by simp, Wh.ns_get (fun q hq => ?_), ?_⟩, by simp; omega⟩
    · obtain ⟨j, hj, rfl⟩ := List.mem_map.1 hq
      exact (hF j (List.mem_range.1 hj)).2
    · by_cases h0 : len = 0
      · left; simp [h0]
      · right
        obtain ⟨b, off, spot⟩ := x
        have hc0 := (hF 0 (by omega)).1 0 (by omega)
        have hspot : spot = none := by simpa [Addr.add] using World.cell?_spot hc0
        subst hspot
        have hcell : ∀ j, j < len → ∀ t, t < 6 → w.cell? ⟨b, off + j * 6 + t, none⟩ = (F j).cs[t]? := fun j hj t ht => by
          have := (hF j hj).1 t ht
          rwa [Go.WideShapes.add_plain, ← Nat.add_assoc] at this
        refine ⟨b, off, rfl, World.block_lt_of_cell? w ⟨b, off + 0 * 6 + 0, none⟩ (hcell 0 (by omega) 0 (by omega)), fun j hj => ?_⟩
        have hj' : j < len := by simpa using hj
        rw [hget j hj']
        exact ⟨hcell j hj' 0 (by omega), hcell j hj' 1 (by omega), hcell j hj' 2 (by omega), hcell j hj' 3 (by omega), hcell j hj' 4 (by omega), hcell j hj' 5 (by omega)⟩

set_option maxRecDepth 100000 in
theorem open_txts {r : Reach} {b0 : Nat} {v : Value} {d : DataW H} {p : List MemPlace} (hv : Value.okWide Tryz.prog w r b0 57 v) (h : DataW.Trod enc Tryz.prog w base spare held 57 v d p) :
    ∃ ns : List ByteArray, TSl w v ns ∧ ns.length ≤ maxLen := by
  obtain ⟨a, len, cap, rfl⟩ := okWide_slice Tryz.underlying57 hv
  obtain ⟨fuel, hf⟩ := h
  rcases Go.Deep.open_slice Tryz.underlying57 hf with ⟨hcs, _⟩ | ⟨x, l, c, m, n, D, Pl, hcs, hb, hl, hm, hmm, _, hx⟩
  · simp [Value.cells] at hcs
    obtain ⟨rfl, rfl, rfl⟩ := hcs
    exact ⟨[], ⟨none, 0, rfl, fun j => by simp, .inl rfl⟩, by simp⟩
  · simp [Value.cells] at hcs
    obtain ⟨rfl, rfl, rfl⟩ := hcs
    have hlm : len ≤ m := by rw [hmm]; split <;> omega
    have hall : ∀ i, i < len → ∃ s : ByteArray, w.cell? (x.add i) = some (.string s) ∧ s.size ≤ maxLen := fun i hi => by
      obtain ⟨cs', h1, h2⟩ := hx i (by omega)
      obtain ⟨s, hq, _, hs⟩ := DataW.trod_string Tryz.underlying9 h2
      rw [Tryz.cellsS] at h1
      obtain ⟨_, _, h3⟩ := World.cells?_some h1
      refine ⟨s, ?_, hs⟩
      have h4 := h3 0 (by omega)
      rw [Go.Deep.add_add, hq, Nat.mul_one] at h4
      exact h4
    obtain ⟨F, hF⟩ := Go.Deep.choose_lt (α := ByteArray) (p := fun i s => w.cell? (x.add i) = some (.string s) ∧ s.size ≤ maxLen) hall
    have hget : ∀ j, j < len → ((List.range len).map F).getD j ByteArray.empty = F j := fun j hj => by simp [List.getD, hj]
    refine ⟨(List.range len).map F, ⟨some x, cap, by simp, fun j => ?_, ?_⟩, by simp; omega⟩
    · by_cases hj : j < len
      · rw [hget j hj]; exact (hF j hj).2
      · rw [show ((List.range len).map F).getD j ByteArray.empty = ByteArray.empty by simp [List.getD, hj]]; decide
    · by_cases h0 : len = 0
      · left; simp [h0]
      · right
        obtain ⟨b, off, spot⟩ := x
        have hc0 := (hF 0 (by omega)).1
        have hspot : spot = none := by simpa [Addr.add] using World.cell?_spot hc0
        subst hspot
        have hcell : ∀ j, j < len → w.cell? ⟨b, off + j, none⟩ = some (.string (F j)) := fun j hj => by
          have := (hF j hj).1
          rwa [Go.WideShapes.add_plain] at this
        refine ⟨b, off, rfl, World.block_lt_of_cell? w ⟨b, off + 0, none⟩ (hcell 0 (by omega)), fun j hj => ?_⟩
        have hj' : j < len := by simpa using hj
        rw [hget j hj']
        exact hcell j hj'

end
end Go.Proofs.YtignmeaeibaejaaGreat

/- PlaceSorts, whole. -/
namespace Go.Proofs.YtignmeaeibaejaaGreat
open Go.RowKit

theorem chkPs_snoc : ∀ (xs : List Pl) (x : Pl), chkPs xs = 0 → chkPs (xs ++ [x]) = chkP x
  | [], x, _ => by
    show (if chkP x = 0 then chkPs [] else 3) = chkP x
    rcases chkP_or x with h | h <;> simp [h, chkPs]
  | y :: r, x, h => by
    have hy : chkP y = 0 := by
      unfold chkPs at h
      by_cases hy : chkP y = 0
      · exact hy
      · rw [if_neg hy] at h; omega
    have hr : chkPs r = 0 := by unfold chkPs at h; rwa [if_pos hy] at h
    rw [List.cons_append]
    unfold chkPs
    rw [if_pos hy]
    exact chkPs_snoc r x hr
theorem chkPs_step (p : Pl) (ms : List Wh.Whe) (k : Nat) (hk : k < ms.length) (h : chkPs (p :: ((plcs ms).map toPl).take k) = 0) : chkPs (p :: ((plcs ms).map toPl).take (k + 1)) = chkP (toPl (plc (ms.getD k Wh.dm))) := by
  have hk2 : k < ((plcs ms).map toPl).length := by simp [plcs_len]; exact hk
  rw [List.take_succ_eq_append_getElem hk2, ← List.cons_append, chkPs_snoc _ _ h]
  simp [plcs, List.getD, List.getElem?_eq_getElem hk]
theorem chkPs_early (p : Pl) (ms : List Wh.Whe) (k : Nat) (h : chkPs (p :: ((plcs ms).map toPl).take k) ≠ 0) : chkPs (p :: (plcs ms).map toPl) = 3 ∧ chkPs (p :: ((plcs ms).map toPl).take k) = 3 := by
  refine ⟨?_, (chkPs_or _).resolve_left h⟩
  rcases chkPs_or (p :: (plcs ms).map toPl) with e | e
  · exfalso
    apply h
    rw [chkPs_zero] at e ⊢
    intro j hj
    have h2 : j < (p :: (plcs ms).map toPl).length := by
      have : ((p :: ((plcs ms).map toPl).take k)).length ≤ (p :: (plcs ms).map toPl).length := by simp; exact Nat.min_le_right _ _
      omega
    have := e j h2
    rw [show (p :: ((plcs ms).map toPl).take k) = (p :: (plcs ms).map toPl).take (k + 1) from rfl] at hj ⊢
    rw [show ((p :: (plcs ms).map toPl).take (k + 1)).getD j dp = (p :: (plcs ms).map toPl).getD j dp by
      have : j < k + 1 := by rw [List.length_take] at hj; omega
      simp only [List.getD, List.getElem?_take_of_lt this]]
    exact this
  · exact e

theorem tsl_nil (w : World) : TSl w (.slice none 0 0) [] := ⟨none, 0, rfl, fun j => by simp, .inl rfl⟩

/-- What Sort answers, all in all. -/
def sortE (p : Pl) (ms : List Wh.Whe) (ns : List ByteArray) : Int := if 100 < ms.length ∨ 100 < ns.length then 2 else chkPs (p :: (plcs ms).map toPl)
def sortL (p : Pl) (ms : List Wh.Whe) (ns : List ByteArray) : List ByteArray := if sortE p ms ns = 0 then srt p ms ns else []

theorem Sort_any (p : Pl) (ms : List Wh.Whe) (v vn : Value) (ns : List ByteArray) (w : World) (hv : Wh.Sl w v ms) (ht : TSl w vn ns) :
    Calls Tryz.prog 73 #[.agg #[.int .i64 p.x, .int .i64 p.y, .int .i64 p.z, .int .i64 p.h, .int .i64 p.s], v, vn] w fun e w' => ∃ v', e = .returned (.tuple #[v', .int .i64 (sortE p ms ns)]) ∧ TSl w' v' (sortL p ms ns) ∧ FrB w.heap.size w' v' ∧ Below w.heap.size w w' := by
  obtain ⟨a1, c1, hvv, _, _⟩ := id hv
  obtain ⟨a2, c2, hvn, _, _⟩ := id ht
  by_cases hm : 100 < ms.length ∨ 100 < ns.length
  · have hE : sortE p ms ns = 2 := by unfold sortE; rw [if_pos hm]
    have hL : sortL p ms ns = [] := by unfold sortL; rw [hE]; rfl
    rw [hE, hL, hvv, hvn]
    refine (sort_many p a1 a2 _ _ c1 c2 w hm).mono ?_
    rintro e w' ⟨rfl, hb⟩
    exact ⟨_, rfl, tsl_nil _, (fun g hg => by cases hg), hb⟩
  · have hE : sortE p ms ns = chkPs (p :: (plcs ms).map toPl) := by unfold sortE; rw [if_neg hm]
    rcases chkPs_or (p :: (plcs ms).map toPl) with h0 | h3
    · have hL : sortL p ms ns = srt p ms ns := by unfold sortL; rw [hE, h0]; rfl
      rw [hE, hL, h0]
      exact sort_good p ms v vn ns w hv ht (by omega) (by omega) h0
    · have hL : sortL p ms ns = [] := by unfold sortL; rw [hE, h3]; rfl
      rw [hE, hL, h3]
      by_cases hz : ms.length = 0
      · have hms := List.length_eq_zero_iff.1 hz
        subst hms
        rw [hvv, hvn]
        refine (sort_bad0 p a1 a2 ns.length c1 c2 w (by omega) h3).mono ?_
        rintro e w' ⟨rfl, hb⟩
        exact ⟨_, rfl, tsl_nil _, (fun g hg => by cases hg), hb⟩
      · rw [hvn]
        refine (sort_bad1 p ms v a2 ns.length c2 w hv (by omega) (by omega) (by omega) h3).mono ?_
        rintro e w' ⟨rfl, hb⟩
        exact ⟨_, rfl, tsl_nil _, (fun g hg => by cases hg), hb⟩

theorem sortL_len (p : Pl) (ms : List Wh.Whe) (ns : List ByteArray) : (sortL p ms ns).length ≤ 1000 := by
  unfold sortL
  by_cases h : sortE p ms ns = 0
  · rw [if_pos h]
    unfold sortE at h
    by_cases hm : 100 < ms.length ∨ 100 < ns.length
    · rw [if_pos hm] at h; omega
    · have h2 : (srt p ms ns).length = ns.length := by
        unfold srt
        have := So.insAll_len (ltN (dV (Dd (farW p) ms ms.length))) ns (swoN _) ns.length (Nat.le_refl _)
        rwa [List.take_length] at this
      omega
  · rw [if_neg h]; simp
theorem sortE_zero {p : Pl} {ms : List Wh.Whe} {ns : List ByteArray} (h : sortE p ms ns = 0) : ms.length ≤ 100 ∧ ns.length ≤ 100 ∧ OkP p ∧ ∀ j, j < ms.length → OkP (toPl (plc (ms.getD j Wh.dm))) := by
  unfold sortE at h
  by_cases hm : 100 < ms.length ∨ 100 < ns.length
  · rw [if_pos hm] at h; omega
  · rw [if_neg hm] at h
    have hz := (chkPs_zero _).1 h
    refine ⟨by omega, by omega, (okP_iff p).1 (by have := hz 0 (by simp); simpa using this), fun j hj => ?_⟩
    have := hz (j + 1) (by simp [plcs_len]; exact hj)
    refine (okP_iff _).1 ?_
    simpa [List.getD, plcs, List.getElem?_eq_getElem hj] using this

end Go.Proofs.YtignmeaeibaejaaGreat

/- What is known, checked; what is asked, checked. -/
namespace Go.Proofs.YtignmeaeibaejaaGreat
open Go.RowKit

theorem plE_many {p : Pl} {wh : List Wh.Whe} (h : 20 < wh.length) : plE p wh = 2 := if_pos h
theorem plE_few {p : Pl} {wh : List Wh.Whe} (h : ¬ 20 < wh.length) : plE p wh = chkPs (p :: (plcs wh).map toPl) := if_neg h
theorem chkP_3 (p : Pl) : chkP p = 0 ∨ chkP p = 3 := by unfold chkP; split; exact .inl rfl; exact .inr rfl
theorem plE_from {p : Pl} {wh : List Wh.Whe} (h : ¬ 20 < wh.length) (hp : chkP p ≠ 0) : plE p wh = chkP p := by
  rw [plE_few h, chkPs_bad (k := 0) (by simp) (by simpa using hp)]
  rcases chkP_3 p with h | h
  · exact absurd h hp
  · exact h.symm
theorem plcs_get (wh : List Wh.Whe) (j : Nat) (hj : j < wh.length) : ((plcs wh).map toPl).getD j dp = toPl (plc (wh.getD j Wh.dm)) := by
  simp [plcs, List.getD, List.getElem?_eq_getElem hj]
theorem plE_at {p : Pl} {wh : List Wh.Whe} {k : Nat} (h : ¬ 20 < wh.length) (hk : k < wh.length) (hp : chkP (toPl (plc (wh.getD k Wh.dm))) ≠ 0) : plE p wh = chkP (toPl (plc (wh.getD k Wh.dm))) := by
  rw [plE_few h, chkPs_bad (k := k + 1) (by simp [plcs]; omega) (by rw [List.getD_cons_succ, plcs_get wh k hk]; exact hp)]
  rcases chkP_3 (toPl (plc (wh.getD k Wh.dm))) with h | h
  · exact absurd h hp
  · exact h.symm
theorem plE_ok {p : Pl} {wh : List Wh.Whe} (h : ¬ 20 < wh.length) (hp : chkP p = 0) (hw : ∀ j, j < wh.length → chkP (toPl (plc (wh.getD j Wh.dm))) = 0) : plE p wh = 0 := by
  rw [plE_few h, chkPs_zero]
  intro j hj
  cases j with
  | zero => simpa using hp
  | succ j =>
    have hj2 : j < wh.length := by simpa [plcs] using hj
    rw [List.getD_cons_succ, plcs_get wh j hj2]
    exact hw j hj2

set_option maxHeartbeats 6400000 in
set_option maxRecDepth 100000 in
theorem kplaces_any (here : ByteArray) (ps pm pw : Option Addr) (ns cs nm cm nw cw : Nat) (px py pz ph pq : Int) (wh : List Wh.Whe) (w : World) (hw : Wh.Sl w (.slice pw nw cw) wh) :
    Calls Tryz.prog 24 #[.agg (knA here (.slice ps ns cs) (.slice pm nm cm) px py pz ph pq (.slice pw nw cw))] w fun e w' => e = .returned (.int .i64 (plE ⟨px, py, pz, ph, pq⟩ wh)) ∧ Below w.heap.size w w' := by
  obtain ⟨pa', ca', he, _, ha⟩ := hw
  simp only [Value.slice.injEq] at he
  obtain ⟨rfl, hN, rfl⟩ := he
  have HA : Hid (wh = [] ∨ ∃ b off, pw = some ⟨b, off, none⟩ ∧ b < w.heap.size ∧ Wh.Row w b off wh) := ha
  have HN : Hid (wh.length = nw) := hN.symm
  have H1 : Hid (20 < nw → plE ⟨px, py, pz, ph, pq⟩ wh = 2) := fun h => plE_many (by rw [HN.out]; exact h)
  have H2 : Hid (¬ 20 < nw → chkP ⟨px, py, pz, ph, pq⟩ ≠ 0 → plE ⟨px, py, pz, ph, pq⟩ wh = chkP ⟨px, py, pz, ph, pq⟩) := fun h => plE_from (by rw [HN.out]; exact h)
  have H3 : Hid (¬ 20 < nw → ∀ k, k < nw → chkP (toPl (plc (wh.getD k Wh.dm))) ≠ 0 → plE ⟨px, py, pz, ph, pq⟩ wh = chkP (toPl (plc (wh.getD k Wh.dm)))) := fun h k hk => plE_at (by rw [HN.out]; exact h) (by rw [HN.out]; exact hk)
  have H4 : Hid (¬ 20 < nw → chkP ⟨px, py, pz, ph, pq⟩ = 0 → (∀ j, j < nw → chkP (toPl (plc (wh.getD j Wh.dm))) = 0) → plE ⟨px, py, pz, ph, pq⟩ wh = 0) := fun h h2 h3 => plE_ok (by rw [HN.out]; exact h) h2 (fun j hj => h3 j (by rw [← HN.out]; exact hj))
  have HC : Hid (∀ W, Calls Tryz.prog 44 #[.agg #[.int .i64 px, .int .i64 py, .int .i64 pz, .int .i64 ph, .int .i64 pq]] W fun e w' => e = .returned (.int .i64 (chkP ⟨px, py, pz, ph, pq⟩)) ∧ Below W.heap.size W w') := fun W => checkP_any ⟨px, py, pz, ph, pq⟩ W
  clear ha hN
  generalize plE ⟨px, py, pz, ph, pq⟩ wh = res at *
  generalize chkP ⟨px, py, pz, ph, pq⟩ = cp at *
  by_cases hm : 20 < nw
  · have HR : Hid (res = 2) := H1.out hm
    clear H1 H2 H3 H4
    go_enter Tryz.func24, Tryz.ntmps24
    go_wp2_with fail
    go_ret
    exact ⟨ret_int HR.out.symm, (Below.refl _ _).alloc (Nat.le_refl _) _⟩
  · have H2' : Hid (cp ≠ 0 → res = cp) := H2.out hm
    have H3' : Hid (∀ k, k < nw → chkP (toPl (plc (wh.getD k Wh.dm))) ≠ 0 → res = chkP (toPl (plc (wh.getD k Wh.dm)))) := H3.out hm
    have H4' : Hid (cp = 0 → (∀ j, j < nw → chkP (toPl (plc (wh.getD j Wh.dm))) = 0) → res = 0) := H4.out hm
    clear H1 H2 H3 H4
    go_enter Tryz.func24, Tryz.ntmps24
    go_wp2_with fail
    have hb0 : Below w.heap.size w (w.alloc (.cells (knA here (.slice ps ns cs) (.slice pm nm cm) px py pz ph pq (.slice pw nw cw)) 48)) := (Below.refl _ _).alloc (Nat.le_refl _) _
    refine (HC.out _).mono ?_
    rintro e w1 ⟨rfl, hb1⟩
    have HB1 : Hid (Below w.heap.size w w1) := hb0.trans (hb1.mono (by simp))
    have hg : w1.heap[w.heap.size]? = some (.cells (knA here (.slice ps ns cs) (.slice pm nm cm) px py pz ph pq (.slice pw nw cw)) 48 (0, 0)) := (hb1.block _ (by simp)).trans (heap_alloc_new w _)
    have d8 : w1.cell? ⟨w.heap.size, 8, none⟩ = some (.slice pw nw cw) := cellsAt hg 8
    clear hb0 hb1 hg
    by_cases h0 : cp = 0
    · have H5 : Hid ((∀ j, j < nw → chkP (toPl (plc (wh.getD j Wh.dm))) = 0) → res = 0) := H4'.out h0
      clear H2' H4'
      subst h0
      go_wp2_with fail
      go_loopw [20] (fun i wr => ∃ k : Nat, k ≤ nw ∧ i = .int .i64 k ∧ Hid (Below w.heap.size w wr) ∧ Hid (∀ j, j < k → chkP (toPl (plc (wh.getD j Wh.dm))) = 0)) (fun i _ => nw - (intOf i).toNat)
      case atStart => exact ⟨0, Nat.zero_le _, rfl, HB1, fun j hj => absurd hj (Nat.not_lt_zero _)⟩
      case round =>
        obtain ⟨k, hk, rfl, HB, HZ⟩ := hrel
        have hsz := HB.out.size
        by_cases hlt : k < nw
        · obtain ⟨b, off, hp1, hl1, hr⟩ : ∃ b off, pw = some ⟨b, off, none⟩ ∧ b < w.heap.size ∧ Wh.Row w b off wh := by
            rcases HA.out with h | h
            · have := HN.out; rw [h] at this; simp at this; omega
            · exact h
          subst hp1
          obtain ⟨c0, c1, c2, c3, c4, c5⟩ := hr.later HB.out hl1 k (by rw [HN.out]; exact hlt)
          clear hr
          have HZ2 : Hid (chkP (toPl (plc (wh.getD k Wh.dm))) = 0 → ∀ j, j < k + 1 → chkP (toPl (plc (wh.getD j Wh.dm))) = 0) := fun h j hj => by
            by_cases e : j = k
            · subst e; exact h
            · exact HZ.out j (by omega)
          have HX : Hid (chkP (toPl (plc (wh.getD k Wh.dm))) ≠ 0 → res = chkP (toPl (plc (wh.getD k Wh.dm)))) := H3'.out k hlt
          generalize wh.getD k Wh.dm = m at *
          obtain ⟨nd, x, y, z, h, s⟩ := m
          simp only at c0 c1 c2 c3 c4 c5
          have HCW : Hid (∀ W, Calls Tryz.prog 44 #[.agg #[.int .i64 x, .int .i64 y, .int .i64 z, .int .i64 h, .int .i64 s]] W fun e w' => e = .returned (.int .i64 (chkP (toPl (plc ⟨nd, x, y, z, h, s⟩)))) ∧ Below W.heap.size W w') := fun W => checkP_any ⟨x, y, z, h, s⟩ W
          generalize chkP (toPl (plc ⟨nd, x, y, z, h, s⟩)) = cw2 at *
          go_wp2_with fail
          refine (HCW.out _).mono ?_
          rintro e w2 ⟨rfl, hb2⟩
          have HB2 : Hid (Below w.heap.size w w2) := (HB.out.alloc hsz _).trans (hb2.mono (by simp <;> omega))
          clear hb2
          by_cases hz : cw2 = 0
          · have HZ3 := HZ2.out hz
            have HZ4 : Hid (∀ j, j < k + 1 → chkP (toPl (plc (wh.getD j Wh.dm))) = 0) := HZ3
            clear HZ3 HZ2 HX
            subst hz
            go_wp2_with fail
            go_roundw
            case rel => exact ⟨k + 1, by omega, by go_num, HB2, HZ4⟩
            case measure => simp [intOf]; omega
          · have HR : Hid (res = cw2) := HX.out hz
            have hz' : (cw2 != 0) = true := by simpa using hz
            clear HZ2 HX
            go_wp2_with fail
            go_ret
            exact ⟨ret_int HR.out.symm, HB2.out⟩
        · have HR : Hid (res = 0) := H5.out (fun j hj => HZ.out j (by omega))
          go_wp2_with fail
          go_ret
          exact ⟨ret_int HR.out.symm, HB.out⟩
    · have HR : Hid (res = cp) := H2'.out h0
      have h0' : (cp != 0) = true := by simpa using h0
      go_wp2_with fail
      go_ret
      exact ⟨ret_int HR.out.symm, HB1.out⟩

set_option maxHeartbeats 6400000 in
set_option maxRecDepth 100000 in
theorem kcheck_any (here : ByteArray) (ps pm pw : Option Addr) (ns cs nm cm nw cw : Nat) (px py pz ph pq : Int) (sv : List Sv.Svc) (ms : List Mem) (wh : List Wh.Whe) (w : World) (hh : here.size ≤ maxLen) (hs : Sv.Sl w (.slice ps ns cs) sv) (hm : Sl w (.slice pm nm cm) ms) (hw : Wh.Sl w (.slice pw nw cw) wh) :
    Calls Tryz.prog 11 #[.agg (knA here (.slice ps ns cs) (.slice pm nm cm) px py pz ph pq (.slice pw nw cw))] w fun e w' => e = .returned (.int .i64 (knE here sv ms ⟨px, py, pz, ph, pq⟩ wh)) ∧ Below w.heap.size w w' := by
  have HS : Hid (Sv.Sl w (.slice ps ns cs) sv) := hs
  have HM : Hid (Sl w (.slice pm nm cm) ms) := hm
  have HW : Hid (Wh.Sl w (.slice pw nw cw) wh) := hw
  have HK : Hid (knE here sv ms ⟨px, py, pz, ph, pq⟩ wh = if labB here = true then (if Sv.chk sv = 0 then (if chk ms = 0 then plE ⟨px, py, pz, ph, pq⟩ wh else chk ms) else Sv.chk sv) else 1) := rfl
  have HC1 : Hid (∀ W v, Sv.Sl W v sv → Calls Tryz.prog 22 #[v] W fun e w' => e = .returned (.int .i64 (Sv.chk sv)) ∧ Below W.heap.size W w') := fun W v h => Sv.check_any sv v W h
  have HC2 : Hid (∀ W v, Sl W v ms → Calls Tryz.prog 23 #[v] W fun e w' => e = .returned (.int .i64 (chk ms)) ∧ Below W.heap.size W w') := fun W v h => check_any ms v W h
  have HC3 : Hid (∀ W, Wh.Sl W (.slice pw nw cw) wh → Calls Tryz.prog 24 #[.agg (knA here (.slice ps ns cs) (.slice pm nm cm) px py pz ph pq (.slice pw nw cw))] W fun e w' => e = .returned (.int .i64 (plE ⟨px, py, pz, ph, pq⟩ wh)) ∧ Below W.heap.size W w') := fun W h => kplaces_any here ps pm pw ns cs nm cm nw cw px py pz ph pq wh W h
  clear hs hm hw
  generalize knE here sv ms ⟨px, py, pz, ph, pq⟩ wh = res at *
  generalize plE ⟨px, py, pz, ph, pq⟩ wh = pe at *
  generalize Sv.chk sv = ce at *
  generalize chk ms = me at *
  have hbl : ∀ W, Calls Tryz.prog 21 #[.string here] W fun e w' => e = .returned (.bool (labB here)) ∧ w' = W := fun W => label_any here W hh
  rcases hl : labB here with _ | _
  · have HR : Hid (res = 1) := HK.out.trans (by rw [hl]; rfl)
    rw [hl] at hbl
    go_enter Tryz.func11, Tryz.ntmps11
    go_wp2_with fail
    refine (hbl _).mono ?_
    rintro e w' ⟨rfl, rfl⟩
    go_wp2_with fail
    go_ret
    exact ⟨ret_int HR.out.symm, (Below.refl _ _).alloc (Nat.le_refl _) _⟩
  · have HK2 : Hid (res = if ce = 0 then (if me = 0 then pe else me) else ce) := HK.out.trans (by rw [hl]; rfl)
    rw [hl] at hbl
    clear HK
    go_enter Tryz.func11, Tryz.ntmps11
    go_wp2_with fail
    refine (hbl _).mono ?_
    rintro e w' ⟨rfl, rfl⟩
    have hb0 : Below w.heap.size w (w.alloc (.cells (knA here (.slice ps ns cs) (.slice pm nm cm) px py pz ph pq (.slice pw nw cw)) 48)) := (Below.refl _ _).alloc (Nat.le_refl _) _
    go_wp2_with fail
    refine (HC1.out _ _ (HS.out.below hb0)).mono ?_
    rintro e w1 ⟨rfl, hb1⟩
    have HB1 : Hid (Below w.heap.size w w1) := hb0.trans (hb1.mono (by simp))
    have hg : w1.heap[w.heap.size]? = some (.cells (knA here (.slice ps ns cs) (.slice pm nm cm) px py pz ph pq (.slice pw nw cw)) 48 (0, 0)) := (hb1.block _ (by simp)).trans (heap_alloc_new w _)
    have d0 : w1.cell? ⟨w.heap.size, 0, none⟩ = some (.string here) := cellsAt hg 0
    have d1 : w1.cell? ⟨w.heap.size, 1, none⟩ = some (.slice ps ns cs) := cellsAt hg 1
    have d2 : w1.cell? ⟨w.heap.size, 2, none⟩ = some (.slice pm nm cm) := cellsAt hg 2
    have d3 : w1.cell? ⟨w.heap.size, 3, none⟩ = some (.int .i64 px) := cellsAt hg 3
    have d4 : w1.cell? ⟨w.heap.size, 4, none⟩ = some (.int .i64 py) := cellsAt hg 4
    have d5 : w1.cell? ⟨w.heap.size, 5, none⟩ = some (.int .i64 pz) := cellsAt hg 5
    have d6 : w1.cell? ⟨w.heap.size, 6, none⟩ = some (.int .i64 ph) := cellsAt hg 6
    have d7 : w1.cell? ⟨w.heap.size, 7, none⟩ = some (.int .i64 pq) := cellsAt hg 7
    have d8 : w1.cell? ⟨w.heap.size, 8, none⟩ = some (.slice pw nw cw) := cellsAt hg 8
    have HG1 : Hid (w1.heap[w.heap.size]? = some (.cells (knA here (.slice ps ns cs) (.slice pm nm cm) px py pz ph pq (.slice pw nw cw)) 48 (0, 0))) := hg
    have hlt1 : w.heap.size < w1.heap.size := (Array.getElem?_eq_some_iff.1 hg).1
    clear hb0 hb1 hg
    by_cases h1 : ce = 0
    · have HK3 : Hid (res = if me = 0 then pe else me) := HK2.out.trans (if_pos h1)
      clear HK2
      subst h1
      go_wp2_with fail
      refine (HC2.out _ _ (HM.out.below HB1.out)).mono ?_
      rintro e w2 ⟨rfl, hb2⟩
      have HB2 : Hid (Below w.heap.size w w2) := HB1.out.trans (hb2.mono (by omega))
      have hg : w2.heap[w.heap.size]? = some (.cells (knA here (.slice ps ns cs) (.slice pm nm cm) px py pz ph pq (.slice pw nw cw)) 48 (0, 0)) := (hb2.block _ (by omega)).trans HG1.out
      clear d0 d1 d2 d3 d4 d5 d6 d7 d8
      have d0 : w2.cell? ⟨w.heap.size, 0, none⟩ = some (.string here) := cellsAt hg 0
      have d1 : w2.cell? ⟨w.heap.size, 1, none⟩ = some (.slice ps ns cs) := cellsAt hg 1
      have d2 : w2.cell? ⟨w.heap.size, 2, none⟩ = some (.slice pm nm cm) := cellsAt hg 2
      have d3 : w2.cell? ⟨w.heap.size, 3, none⟩ = some (.int .i64 px) := cellsAt hg 3
      have d4 : w2.cell? ⟨w.heap.size, 4, none⟩ = some (.int .i64 py) := cellsAt hg 4
      have d5 : w2.cell? ⟨w.heap.size, 5, none⟩ = some (.int .i64 pz) := cellsAt hg 5
      have d6 : w2.cell? ⟨w.heap.size, 6, none⟩ = some (.int .i64 ph) := cellsAt hg 6
      have d7 : w2.cell? ⟨w.heap.size, 7, none⟩ = some (.int .i64 pq) := cellsAt hg 7
      have d8 : w2.cell? ⟨w.heap.size, 8, none⟩ = some (.slice pw nw cw) := cellsAt hg 8
      clear hb2 hg HG1
      by_cases h2 : me = 0
      · have HK4 : Hid (res = pe) := HK3.out.trans (if_pos h2)
        subst h2
        clear HK3
        go_wp2_with fail
        refine (HC3.out _ (HW.out.below HB2.out)).mono ?_
        rintro e w3 ⟨rfl, hb3⟩
        have HB3 : Hid (Below w.heap.size w w3) := HB2.out.trans (hb3.mono HB2.out.size)
        clear hb3
        go_wp2_with fail
        go_ret
        exact ⟨ret_int HK4.out.symm, HB3.out⟩
      · have HR : Hid (res = me) := HK3.out.trans (if_neg h2)
        have h2' : (me != 0) = true := by simpa using h2
        go_wp2_with fail
        go_ret
        exact ⟨ret_int HR.out.symm, HB2.out⟩
    · have HR : Hid (res = ce) := HK2.out.trans (if_neg h1)
      have h1' : (ce != 0) = true := by simpa using h1
      go_wp2_with fail
      go_ret
      exact ⟨ret_int HR.out.symm, HB1.out⟩

/-- What is wrong with what is asked. -/
def asE (q : Qu) (t : Int) : Int := if chkQ q = 0 then (if typB t = true then 0 else 7) else chkQ q
set_option maxHeartbeats 3200000 in
theorem asked_any (q : Qu) (t : Int) (w : World) (hq : q.ok) :
    Calls Tryz.prog 10 #[.agg #[.string q.service, .string q.tag, .string q.node, .string q.centre], .int .i64 t] w fun e w' => e = .returned (.int .i64 (asE q t)) ∧ Below w.heap.size w w' := by
  have HK : Hid (asE q t = if chkQ q = 0 then (if typB t = true then 0 else 7) else chkQ q) := rfl
  have HC : Hid (∀ W, Calls Tryz.prog 19 #[.agg #[.string q.service, .string q.tag, .string q.node, .string q.centre]] W fun e w' => e = .returned (.int .i64 (chkQ q)) ∧ Below W.heap.size W w') := fun W => qCheck_any q W hq
  have HT : Hid (∀ W, Calls Tryz.prog 20 #[.int .i64 t] W fun e w' => e = .returned (.bool (typB t)) ∧ w' = W) := fun W => rtype_any t W
  generalize asE q t = res at *
  generalize chkQ q = ce at *
  generalize typB t = tb at *
  go_enter Tryz.func10, Tryz.ntmps10
  go_wp2_with fail
  refine (HC.out _).mono ?_
  rintro e w1 ⟨rfl, hb1⟩
  have HB1 : Hid (Below w.heap.size w w1) := ((Below.refl _ _).alloc (Nat.le_refl _) _).trans (hb1.mono (by simp))
  clear hb1
  by_cases h1 : ce = 0
  · have HK2 : Hid (res = if tb = true then 0 else 7) := HK.out.trans (if_pos h1)
    subst h1
    go_wp2_with fail
    refine (HT.out _).mono ?_
    rintro e w2 ⟨rfl, rfl⟩
    cases tb
    · have HR : Hid (res = 7) := HK2.out
      go_wp2_with fail
      go_ret
      exact ⟨ret_int HR.out.symm, HB1.out⟩
    · have HR : Hid (res = 0) := HK2.out
      go_wp2_with fail
      go_ret
      exact ⟨ret_int HR.out.symm, HB1.out⟩
  · have HR : Hid (res = ce) := HK.out.trans (if_neg h1)
    have h1' : (ce != 0) = true := by simpa using h1
    go_wp2_with fail
    go_ret
    exact ⟨ret_int HR.out.symm, HB1.out⟩

end Go.Proofs.YtignmeaeibaejaaGreat

/- services: whoever joins the same, in whatever order, has the same: of plain lists; and what the laws ask. -/
namespace Go.Proofs.YtignmeaeibaejaaGreat
namespace Sv
open Go.RowKit

theorem joinL_comm {a b : List Svc} (ha : Rise a) (hb : Rise b) : joinL a b = joinL b a := RL.join_comm ord newE keyed newest ha hb
theorem joinL_assoc {a b c : List Svc} (ha : Rise a) (hb : Rise b) (hc : Rise c) : joinL (joinL a b) c = joinL a (joinL b c) := RL.join_assoc ord newE keyed newest ha hb hc
theorem joinL_absorb {a b : List Svc} (ha : Rise a) (hb : Rise b) : joinL (joinL a b) a = joinL a b := RL.join_absorb ord newE keyed newest ha hb

theorem joinE_zero {a b : List Svc} (h : joinE a b = 0) : chk a = 0 ∧ chk b = 0 ∧ (joinL a b).length ≤ 40 := by
  by_cases ha : chk a = 0
  · by_cases hb : chk b = 0
    · rw [joinE_good ha hb] at h
      refine ⟨ha, hb, ?_⟩
      split at h
      · cases h
      · omega
    · rw [joinE_bad2 ha hb] at h; exact absurd h hb
  · rw [joinE_bad1 ha] at h; exact absurd h ha
theorem joinE_mk {a b : List Svc} (ha : chk a = 0) (hb : chk b = 0) (hl : (joinL a b).length ≤ 40) : joinE a b = 0 := by
  rw [joinE_good ha hb, if_neg (by omega)]
theorem joinE_right {a b : List Svc} (h : joinE a b = 0) : chk (joinL a b) = 0 := by
  obtain ⟨ha, hb, hl⟩ := joinE_zero h
  have za := chk_zero ha
  have zb := chk_zero hb
  exact chk_of hl (joinL_rise b a za.2.1) fun m hm => by
    rcases joinL_mem b a m hm with h | h
    · exact firstE_mem a za.2.2 m h
    · exact firstE_mem b zb.2.2 m h

/-- What is handed back: with an error nothing. -/
def jx (a b : List Svc) : List Svc := if joinE a b = 0 then joinL a b else []
theorem jx_len (a b : List Svc) : (jx a b).length ≤ 40 := by
  unfold jx
  split
  · rename_i h; exact (joinE_zero h).2.2
  · simp
theorem jx_ok {a b : List Svc} (ha : ∀ m ∈ a, (m).ok) (hb : ∀ m ∈ b, (m).ok) : ∀ m ∈ jx a b, (m).ok := by
  unfold jx
  split
  · exact ns_join b a ha hb
  · simp
theorem joinE_comm0 {a b : List Svc} (h : joinE a b = 0) : joinE b a = 0 := by
  obtain ⟨ha, hb, hl⟩ := joinE_zero h
  exact joinE_mk hb ha (by rw [← joinL_comm (chk_zero ha).2.1 (chk_zero hb).2.1]; exact hl)
theorem jx_comm (a b : List Svc) : jx a b = jx b a := by
  unfold jx
  by_cases h : joinE a b = 0
  · obtain ⟨ha, hb, hl⟩ := joinE_zero h
    rw [if_pos h, if_pos (joinE_comm0 h), joinL_comm (chk_zero ha).2.1 (chk_zero hb).2.1]
  · rw [if_neg h, if_neg (fun h' => h (joinE_comm0 h'))]
theorem jx_assoc {l o t : List Svc} (h1 : joinE l o = 0) (h3 : joinE (jx l o) t = 0) (h4 : joinE o t = 0) : joinE l (jx o t) = 0 ∧ jx (jx l o) t = jx l (jx o t) := by
  have e1 : jx l o = joinL l o := if_pos h1
  have e4 : jx o t = joinL o t := if_pos h4
  rw [e1] at h3
  rw [e1, e4]
  obtain ⟨hl, ho, _⟩ := joinE_zero h1
  obtain ⟨_, ht, hlen⟩ := joinE_zero h3
  have e := joinL_assoc (chk_zero hl).2.1 (chk_zero ho).2.1 (chk_zero ht).2.1
  have h5 : joinE l (joinL o t) = 0 := joinE_mk hl (joinE_right h4) (by rw [← e]; exact hlen)
  exact ⟨h5, by rw [jx, jx, if_pos h3, if_pos h5, e]⟩
theorem jx_absorb {a b : List Svc} (h : joinE a b = 0) : joinE (jx a b) a = 0 ∧ jx (jx a b) a = jx a b := by
  have e1 : jx a b = joinL a b := if_pos h
  rw [e1]
  obtain ⟨ha, hb, hl⟩ := joinE_zero h
  have e := joinL_absorb (chk_zero ha).2.1 (chk_zero hb).2.1
  have h5 : joinE (joinL a b) a = 0 := joinE_mk (joinE_right h) ha (by rw [e]; exact hl)
  exact ⟨h5, by rw [jx, if_pos h5, e]⟩

theorem sl_ok {w : World} {v : Value} {ms : List Svc} (h : Sl w v ms) : ∀ m ∈ ms, (m).ok := by obtain ⟨_, _, _, h, _⟩ := h; exact ns_mem h

end Sv
end Go.Proofs.YtignmeaeibaejaaGreat

/- What must be in any case of services; the law CatalogOrders. -/
namespace Go.Proofs.YtignmeaeibaejaaGreat
namespace Sv
open Go.RowKit

def s0 : Svc := ⟨⟨#[110]⟩, ⟨#[105]⟩, ⟨#[115]⟩, ⟨#[]⟩, 0, 0, true, 0, false⟩
def s1 : Svc := ⟨⟨#[110]⟩, ⟨#[105]⟩, ⟨#[115]⟩, ⟨#[]⟩, 0, 0, true, 1, false⟩
theorem at_nil (t : Svc) : At [] t 0 false := ⟨by simp, fun j h => by omega, fun j h h2 => by simp at h2, by simp⟩
theorem s1_ok : s1.ok := ⟨by decide, by decide, by decide, by decide⟩
theorem s0_ok : s0.ok := ⟨by decide, by decide, by decide, by decide⟩
theorem chk_s1 : chk [s1] = 0 := by rw [chk_one]; decide
theorem join_s1 : joinE [] [s1] = 0 := by rw [joinE_good chk_nil chk_s1]; rfl
theorem toList_mk (l : Array UInt8) : (⟨l⟩ : ByteArray).toList = l.toList := Lib.toList_data _
theorem find_s1 : findL [s1] ⟨#[115]⟩ ⟨#[]⟩ = [s1] := by
  have h : keep ⟨#[115]⟩ ⟨#[]⟩ s1 = true := by simp [keep, s1, toList_mk]
  simp [findL, h]
theorem findE_s1 : findE ⟨#[115]⟩ ⟨#[]⟩ = 0 := by decide

end Sv
end Go.Proofs.YtignmeaeibaejaaGreat

