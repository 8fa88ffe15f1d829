
/- gateways: Join; are two lists the same; what a law is handed. -/
import Derived.Test.YtjpcngkddejdjafGK6
import Derived.Laws.StructEq
import Derived.Deep.Slices
import Derived.Lib.SmallJoins
import Derived.ProofKit
namespace Go.Proofs.Ytjpcngkddejdjaf
namespace Gw
open Go.RowKit

theorem join_any (a b : List Gwy) (va vb : Value) (pb cap : Nat) (w : World) (ha : Sl w va a) (hb : Sl w vb b) (hpb : pb < w.heap.size) (hc0 : w.cell? ⟨pb, 0, none⟩ = some va) (hc1 : w.cell? ⟨pb, 1, none⟩ = some vb) :
    Calls Try.prog 39 #[.slice (some ⟨pb, 0, none⟩) 2 cap] w fun e w' => ∃ v', e = .returned (.tuple #[v', .int .i64 (joinE a b)]) ∧ Below w.heap.size w w' ∧
      (joinE a b ≠ 0 → v' = .slice none 0 0) ∧ (joinE a b = 0 → Own w.heap.size w' v' (joinL a b)) := by
  by_cases h0 : chkTwo a b = 0
  · refine (join_good a b va vb pb cap w ha hb hpb hc0 hc1 h0).mono ?_
    rintro e w' ⟨v', rfl, h1, h2, h3⟩
    have hE : joinE a b = if 6 < (joinL a b).length then 2 else 0 := if_pos h0
    refine ⟨v', rfl, h1, fun hne => h2 ?_, fun hz => h3 ?_⟩
    · rw [hE] at hne; split at hne
      · assumption
      · exact absurd rfl hne
    · rw [hE] at hz; split at hz
      · cases hz
      · omega
  · refine (join_bad a b va vb pb cap w ha hb hpb hc0 hc1 h0).mono ?_
    rintro e w' ⟨rfl, h1⟩
    have hE : joinE a b = chkTwo a b := if_neg h0
    exact ⟨_, rfl, h1, fun _ => rfl, fun hz => absurd (hE ▸ hz) h0⟩

set_option maxHeartbeats 800000 in
theorem join2_any (a b : List Gwy) (va vb : Value) (w : World) (ha : Sl w va a) (hb : Sl w vb b) :
    Calls Try.prog 22 #[va, vb] w fun e w' => ∃ v', e = .returned (.tuple #[v', .int .i64 (joinE a b)]) ∧ Below w.heap.size w w' ∧
      (joinE a b ≠ 0 → v' = .slice none 0 0) ∧ (joinE a b = 0 → Own w.heap.size w' v' (joinL a b)) := by
  have HA := ha
  have HB := hb
  obtain ⟨pa, ca, rfl, _, _⟩ := ha
  obtain ⟨pv, cb, rfl, _, _⟩ := hb
  have hb0 : Below w.heap.size w (w.alloc (.cells #[.slice pa a.length ca, .slice pv b.length cb] 35)) := (Below.refl _ _).alloc (Nat.le_refl _) _
  have HA' : Hid (Sl (w.alloc (.cells #[.slice pa a.length ca, .slice pv b.length cb] 35)) (.slice pa a.length ca) a) := HA.below hb0
  have HB' : Hid (Sl (w.alloc (.cells #[.slice pa a.length ca, .slice pv b.length cb] 35)) (.slice pv b.length cb) b) := HB.below hb0
  clear HA HB
  generalize a.length = na at *
  generalize b.length = nb at *
  go_enter Try.func22, Try.ntmps22
  go_wp2_with fail
  refine (join_any a b (.slice pa na ca) (.slice pv nb cb) w.heap.size 2 _ HA'.out HB'.out (by simp) (cellsAt (heap_alloc_new w _) 0) (cellsAt (heap_alloc_new w _) 1)).mono ?_
  rintro e w2 ⟨v', rfl, h1, h2, h3⟩
  have H2 : Hid (joinE a b ≠ 0 → v' = .slice none 0 0) := h2
  have H3 : Hid (joinE a b = 0 → Own (w.alloc (.cells #[.slice pa na ca, .slice pv nb cb] 35)).heap.size w2 v' (joinL a b)) := h3
  clear h2 h3
  go_wp2_with fail
  go_ret2
  exact ⟨v', rfl, hb0.trans (h1.mono (by simp)), H2.out, fun h => (H3.out h).mono (by simp)⟩

theorem joinE_bad1 {a b : List Gwy} (h : chk a ≠ 0) : joinE a b = chk a := by
  have : chkTwo a b = chk a := if_neg h
  rw [joinE, this, if_neg h]
theorem joinE_bad2 {a b : List Gwy} (h : chk a = 0) (h2 : chk b ≠ 0) : joinE a b = chk b := by
  have : chkTwo a b = chk b := if_pos h
  rw [joinE, this, if_neg h2]
theorem joinE_good {a b : List Gwy} (h : chk a = 0) (h2 : chk b = 0) : joinE a b = if 6 < (joinL a b).length then 2 else 0 := by
  have : chkTwo a b = 0 := (if_pos h).trans h2
  rw [joinE, if_pos this]
theorem sl_nil (w : World) : Sl w (.slice none 0 0) [] := ⟨none, 0, rfl, ns_get (by simp), .inl rfl⟩

def sameM (x y : Gwy) : Bool := x.centre.toList == y.centre.toList && (x.addr == y.addr && (x.version == y.version))

theorem sameM_iff (x y : Gwy) : sameM x y = true ↔ x = y := by
  obtain ⟨x_centre, x_addr, x_version⟩ := x
  obtain ⟨y_centre, y_addr, y_version⟩ := y
  simp only [sameM, Bool.and_eq_true, beq_iff_eq, Gwy.mk.injEq, Lib.toList_data]
  constructor
  · rintro ⟨h0, h1, h2⟩; exact ⟨ba_ext h0, h1, h2⟩
  · rintro ⟨h0, h1, h2⟩; exact ⟨by rw [h0], h1, h2⟩

theorem eqInE (m1 m2 : Gwy) (w : World) : (Op.equalIn 10000 51 (.agg #[.string m1.centre, .int .i64 m1.addr, .int .i64 m1.version]) (.agg #[.string m2.centre, .int .i64 m2.addr, .int .i64 m2.version])).run Try.prog w = .ok (sameM m1 m2) w := by
  have u3 := Try.underlying3
  have u9 := Try.underlying9
  have a3 := Try.isAgg3
  have z3 := Try.sizeOf3
  have a9 := Try.isAgg9
  have z9 := Try.sizeOf9
  have hS : Try.prog.underlying 51 = some (.struct (Try.prog.fieldsOf 51)) := by kernel_rfl
  have hp : Try.prog.stoodInHeld 51 = false := by kernel_rfl
  rw [show (10000 : Nat) = 9999 + 1 from rfl, run_equalIn_agg w 9999 51 _ _ hS hp]
  simp only [Program.fieldsOf, Try.underlying51]
  go_simp
  unfold sameM
  by_cases h0 : m1.centre.toList = m2.centre.toList
  case neg => simp [h0]
  by_cases h1 : m1.addr = m2.addr
  case neg => simp [h0, h1]
  by_cases h2 : m1.version = m2.version
  case neg => simp [h0, h1, h2]
  simp [h0, h1, h2]

theorem neqE (m1 m2 : Gwy) (w : World) : Sem.run Try.prog (binOp .neq 51 (.agg #[.string m1.centre, .int .i64 m1.addr, .int .i64 m1.version]) (.agg #[.string m2.centre, .int .i64 m2.addr, .int .i64 m2.version])) w = .ok (.bool (!sameM m1 m2)) w := by
  rw [run_neq_struct, eqInE]
  rfl

set_option maxHeartbeats 800000 in
theorem same_any (a b : List Gwy) (va vb : Value) (w : World) (ha : Sl w va a) (hb : Sl w vb b) (hsm : a.length ≤ 1000) :
    Calls Try.prog 28 #[va, vb] w fun e w' => ∃ r : Bool, e = .returned (.bool r) ∧ (r = true ↔ a = b) ∧ Below w.heap.size w w' := by
  obtain ⟨pa, ca, rfl, _, ha⟩ := ha
  obtain ⟨pv, cb, rfl, _, hb⟩ := hb
  by_cases hl : a.length = b.length
  · have HA : Hid (a = [] ∨ ∃ b off, pa = some ⟨b, off, none⟩ ∧ b < w.heap.size ∧ Row w b off a) := ha
    have HB : Hid (b = [] ∨ ∃ b_1 off, pv = some ⟨b_1, off, none⟩ ∧ b_1 < w.heap.size ∧ Row w b_1 off b) := hb
    have HL : Hid (a.length = b.length) := hl
    clear ha hb
    rw [← hl]
    clear hl
    generalize hna : a.length = n at *
    have HN : Hid (a.length = n) := hna
    clear hna
    have hg28 : Try.prog.eqGuardType Try.prog.depth 51 = false := by kernel_rfl
    go_enter Try.func28, Try.ntmps28
    go_wp2_with fail
    go_loopw [5] (fun i w' => ∃ k : Nat, k ≤ n ∧ i = .int .i64 k ∧ Below w.heap.size w w' ∧ Hid (∀ j, j < k → a.getD j dm = b.getD j dm)) (fun i _ => n - (intOf i).toNat)
    case atStart => exact ⟨0, Nat.zero_le _, rfl, Below.refl _ _, fun j h => absurd h (Nat.not_lt_zero _)⟩
    case round =>
      obtain ⟨k, hk, rfl, hbl, hz⟩ := hrel
      obtain ⟨hbc, hbf⟩ := bcell hbl
      have hsz := hbl.size
      by_cases hlt : k < n
      · obtain ⟨b1, o1, hp1, hl1, hr1⟩ : ∃ b off, pa = some ⟨b, off, none⟩ ∧ b < w.heap.size ∧ Row w b off a := by
          rcases HA.out with h | h
          · have := HN.out; rw [h] at this; simp at this; omega
          · exact h
        obtain ⟨b2, o2, hp2, hl2, hr2⟩ : ∃ b_1 off, pv = some ⟨b_1, off, none⟩ ∧ b_1 < w.heap.size ∧ Row w b_1 off b := by
          rcases HB.out with h | h
          · have h2 := HN.out; have h3 := HL.out; rw [h] at h3; simp at h3; omega
          · exact h
        subst hp1
        subst hp2
        obtain ⟨c0, c1, c2⟩ := hr1 k (by rw [HN.out]; exact hlt)
        obtain ⟨d0, d1, d2⟩ := hr2 k (by have h2 := HN.out; have h3 := HL.out; omega)
        clear hr1 hr2
        have HF : Hid (a.getD k dm ≠ b.getD k dm → a ≠ b) := fun h e => h (by rw [e])
        have HZ : Hid (a.getD k dm = b.getD k dm → ∀ j, j < k + 1 → a.getD j dm = b.getD j dm) := fun h j hj => by
          rcases Nat.lt_succ_iff_lt_or_eq.1 hj with h2 | rfl
          · exact hz.out j h2
          · exact h
        have hneq := neqE (a.getD k dm) (b.getD k dm)
        generalize a.getD k dm = m1 at *
        generalize b.getD k dm = m2 at *
        rcases hs : sameM m1 m2 with _ | _
        · rw [hs] at hneq
          have hne : Hid (a ≠ b) := HF.out (fun e => by rw [← sameM_iff, hs] at e; cases e)
          go_wp2_with fail
          go_quiet (fail)
          go_wp2_with fail
          go_ret
          exact ⟨false, rfl, ⟨fun h => (by cases h), fun h => absurd h hne.out⟩, below_drewN hbl _⟩
        · rw [hs] at hneq
          have heq : Hid (m1 = m2) := (sameM_iff m1 m2).1 hs
          go_wp2_with fail
          go_quiet (fail)
          go_wp2_with fail
          go_roundw
          case rel => exact ⟨k + 1, by omega, by go_num, below_drewN hbl _, HZ.out heq.out⟩
          case measure => simp [intOf]; omega
      · have hfin : Hid (a = b) := by
          apply List.ext_getElem (HN.out.trans HL.out)
          intro j h1 h2
          have := hz.out j (by have := HN.out; omega)
          simpa [List.getD, List.getElem?_eq_getElem h1, List.getElem?_eq_getElem h2] using this
        go_wp2_with fail
        go_ret
        exact ⟨true, rfl, ⟨fun _ => hfin.out, fun _ => rfl⟩, hbl⟩
  · have hne : ((a.length : Int) != (b.length : Int)) = true := by rw [bne_iff_ne]; omega
    have HF : Hid (a ≠ b) := fun e => hl (by rw [e])
    clear ha hb
    go_enter Try.func28, Try.ntmps28
    go_wp2_with fail
    go_ret
    exact ⟨false, rfl, ⟨fun h => (by cases h), fun h => absurd h HF.out⟩, Below.refl _ _⟩

section
open Go.ChangeShapes Go.WideShapes Go.ChangeAt
variable {H : Type} {enc : TypeId × Value → H} {w : World} {base : Nat} {spare : Nat → Bool} {held : Bool}

theorem Try.cells51 : Try.prog.cellsOf 51 = 3 := by kernel_rfl
theorem Try.cells9 : Try.prog.cellsOf 9 = 1 := by kernel_rfl
theorem Try.cells3 : Try.prog.cellsOf 3 = 1 := by kernel_rfl

set_option maxRecDepth 100000 in
theorem el_of_trod {fuel : Nat} {cs : List Value} {x : DataW H × List MemPlace} (h : DataW.trod enc Try.prog w base spare held fuel 51 cs = some x) :
    ∃ m : Gwy, cs = [.string m.centre, .int .i64 m.addr, .int .i64 m.version] ∧ (m).ok := by
  obtain ⟨xs, n, _, _, hl, hlen, hf⟩ := DataW.trod_struct Try.underlying51 h
  rw [Try.cells51] at hl
  match cs, hl with
  | [c0, c1, c2], _ =>
    match xs, hlen with
    | [y0, y1, y2], _ =>
      have h0 := hf 0 _ rfl
      have h1 := hf 1 _ rfl
      have h2 := hf 2 _ rfl
      simp [Try.cells9] at h0
      simp [Try.cells3] at h1
      simp [Try.cells3] at h2
      obtain ⟨z0, e0, _, g0⟩ := DataW.trod_string Try.underlying9 h0
      obtain ⟨z1, e1, _⟩ := DataW.trod_int Try.underlying3 h1
      obtain ⟨z2, e2, _⟩ := DataW.trod_int Try.underlying3 h2
      simp only [List.cons.injEq, and_true] at e0 e1 e2
      subst e0 e1 e2
      exact ⟨⟨z0, z1, z2⟩, rfl, g0⟩

theorem open_el {r : Reach} {b0 : Nat} {v : Value} {d : DataW H} {p : List MemPlace} (hv : Value.okWide Try.prog w r b0 51 v) (h : DataW.Trod enc Try.prog w base spare held 51 v d p) :
    ∃ m : Gwy, v = .agg #[.string m.centre, .int .i64 m.addr, .int .i64 m.version] ∧ (m).ok := by
  obtain ⟨cs, rfl, hsz⟩ := okWide_struct Try.underlying51 hv
  obtain ⟨fuel, hf⟩ := h
  obtain ⟨m, hm, hs⟩ := el_of_trod hf
  refine ⟨m, ?_, hs⟩
  simp only [Value.cells] at hm
  congr 1
  apply Array.ext'
  exact hm

theorem open_els {r : Reach} {b0 : Nat} {v : Value} {d : DataW H} {p : List MemPlace} (hv : Value.okWide Try.prog w r b0 35 v) (h : DataW.Trod enc Try.prog w base spare held 35 v d p) :
    ∃ ms : List Gwy, Sl w v ms ∧ ms.length ≤ maxLen := by
  obtain ⟨a, len, cap, rfl⟩ := okWide_slice Try.underlying35 hv
  obtain ⟨fuel, hf⟩ := h
  rcases Go.Deep.open_slice Try.underlying35 hf with ⟨hcs, _⟩ | ⟨x, l, c, m, n, D, Pl, hcs, hb, hl, hm, hmm, _, hx⟩
  · simp [Value.cells] at hcs
    obtain ⟨rfl, rfl, rfl⟩ := hcs
    exact ⟨[], ⟨none, 0, rfl, ns_get (by simp), .inl rfl⟩, by simp⟩
  · simp [Value.cells] at hcs
    obtain ⟨rfl, rfl, rfl⟩ := hcs
    have hlm : len ≤ m := by rw [hmm]; split <;> omega
    have hall : ∀ i, i < len → ∃ q : Gwy, (∀ t, t < 3 → w.cell? (x.add (i * 3 + t)) = q.cs[t]?) ∧ (q).ok := fun i hi => by
      obtain ⟨cs', h1, h2⟩ := hx i (by omega)
      obtain ⟨q, hq, hs⟩ := el_of_trod h2
      rw [Try.cells51] at h1
      obtain ⟨_, _, h3⟩ := World.cells?_some h1
      refine ⟨q, fun t ht => ?_, hs⟩
      rw [← Go.Deep.add_add, h3 t ht, hq]
      rfl
    have hinh : Inhabited Gwy := ⟨dm⟩
    obtain ⟨F, hF⟩ := Go.Deep.choose_lt (α := Gwy) (p := fun i q => (∀ t, t < 3 → w.cell? (x.add (i * 3 + t)) = q.cs[t]?) ∧ (q).ok) hall
    have hget : ∀ j, j < len → ((List.range len).map F).getD j dm = F j := fun j hj => by simp [List.getD, hj]
    refine ⟨(List.range len).map F, ⟨some x, cap, by simp, ns_get (fun q hq => ?_), ?_⟩, by simp; omega⟩
    · obtain ⟨j, hj, rfl⟩ := List.mem_map.1 hq
      exact (hF j (List.mem_range.1 hj)).2
    · by_cases h0 : len = 0
      · left; simp [h0]
      · right
        obtain ⟨b, off, spot⟩ := x
        have hc0 := (hF 0 (by omega)).1 0 (by omega)
        have hspot : spot = none := by simpa [Addr.add] using World.cell?_spot hc0
        subst hspot
        have hcell : ∀ j, j < len → ∀ t, t < 3 → w.cell? ⟨b, off + j * 3 + t, none⟩ = (F j).cs[t]? := fun j hj t ht => by
          have := (hF j hj).1 t ht
          rwa [Go.WideShapes.add_plain, ← Nat.add_assoc] at this
        refine ⟨b, off, rfl, World.block_lt_of_cell? w ⟨b, off + 0 * 3 + 0, none⟩ (hcell 0 (by omega) 0 (by omega)), fun j hj => ?_⟩
        have hj' : j < len := by simpa using hj
        rw [hget j hj']
        exact ⟨hcell j hj' 0 (by omega), hcell j hj' 1 (by omega), hcell j hj' 2 (by omega)⟩

end
end Gw
end Go.Proofs.Ytjpcngkddejdjaf
