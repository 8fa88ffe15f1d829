/- SK7 -/
import Derived.Test.YtdfkpehggecbaaaGreatDoorV23
import Derived.Laws.StructEq
import Derived.Deep.Slices
import Derived.Lib.SmallJoins
import Derived.ProofKit
/- services: Join; are two lists the same; what a law is handed. -/
namespace Go.Proofs.YtdfkpehggecbaaaGreatDoor
namespace Sv
open Go.RowKit

theorem joinE_bad1 {a b : List Svc} (h : chk a ≠ 0) : joinE a b = chk a := by
  have : chkTwo a b = chk a := if_neg h
  rw [joinE, this, if_neg h]
theorem joinE_bad2 {a b : List Svc} (h : chk a = 0) (h2 : chk b ≠ 0) : joinE a b = chk b := by
  have : chkTwo a b = chk b := if_pos h
  rw [joinE, this, if_neg h2]
theorem joinE_good {a b : List Svc} (h : chk a = 0) (h2 : chk b = 0) : joinE a b = if 40 < (joinL a b).length then 2 else 0 := by
  have : chkTwo a b = 0 := (if_pos h).trans h2
  rw [joinE, if_pos this]
theorem sl_nil (w : World) : Sl w (.slice none 0 0) [] := ⟨none, 0, rfl, ns_get (by simp), .inl rfl⟩

def sameM (x y : Svc) : Bool := x.node.toList == y.node.toList && (x.idn.toList == y.idn.toList && (x.name.toList == y.name.toList && (x.tag.toList == y.tag.toList && (x.addr == y.addr && (x.port == y.port && (x.passing == y.passing && (x.version == y.version && (x.gone == y.gone))))))))

theorem sameM_iff (x y : Svc) : sameM x y = true ↔ x = y := by
  obtain ⟨x_node, x_idn, x_name, x_tag, x_addr, x_port, x_passing, x_version, x_gone⟩ := x
  obtain ⟨y_node, y_idn, y_name, y_tag, y_addr, y_port, y_passing, y_version, y_gone⟩ := y
  simp only [sameM, Bool.and_eq_true, beq_iff_eq, Svc.mk.injEq, Lib.toList_data]
  constructor
  · rintro ⟨h0, h1, h2, h3, h4, h5, h6, h7, h8⟩; exact ⟨ba_ext h0, ba_ext h1, ba_ext h2, ba_ext h3, h4, h5, h6, h7, h8⟩
  · rintro ⟨h0, h1, h2, h3, h4, h5, h6, h7, h8⟩; exact ⟨by rw [h0], by rw [h1], by rw [h2], by rw [h3], h4, h5, h6, h7, h8⟩

theorem eqInE (m1 m2 : Svc) (w : World) : (Op.equalIn 10000 60 (.agg #[.string m1.node, .string m1.idn, .string m1.name, .string m1.tag, .int .i64 m1.addr, .int .i64 m1.port, .bool m1.passing, .int .i64 m1.version, .bool m1.gone]) (.agg #[.string m2.node, .string m2.idn, .string m2.name, .string m2.tag, .int .i64 m2.addr, .int .i64 m2.port, .bool m2.passing, .int .i64 m2.version, .bool m2.gone])).run Tryz.prog w = .ok (sameM m1 m2) w := by
  have u3 := Tryz.underlying3
  have u9 := Tryz.underlying9
  have a3 := Tryz.isAgg3
  have z3 := Tryz.sizeOf3
  have a9 := Tryz.isAgg9
  have z9 := Tryz.sizeOf9
  have u4 := Tryz.underlying4
  have a4 := Tryz.isAgg4
  have z4 := Tryz.sizeOf4
  have hS : Tryz.prog.underlying 60 = some (.struct (Tryz.prog.fieldsOf 60)) := by kernel_rfl
  have hp : Tryz.prog.stoodInHeld 60 = false := by kernel_rfl
  rw [show (10000 : Nat) = 9999 + 1 from rfl, run_equalIn_agg w 9999 60 _ _ hS hp]
  simp only [Program.fieldsOf, Tryz.underlying60]
  go_simp
  unfold sameM
  by_cases h0 : m1.node.toList = m2.node.toList
  case neg => simp [h0]
  by_cases h1 : m1.idn.toList = m2.idn.toList
  case neg => simp [h0, h1]
  by_cases h2 : m1.name.toList = m2.name.toList
  case neg => simp [h0, h1, h2]
  by_cases h3 : m1.tag.toList = m2.tag.toList
  case neg => simp [h0, h1, h2, h3]
  by_cases h4 : m1.addr = m2.addr
  case neg => simp [h0, h1, h2, h3, h4]
  by_cases h5 : m1.port = m2.port
  case neg => simp [h0, h1, h2, h3, h4, h5]
  by_cases h6 : m1.passing = m2.passing
  case neg => simp [h0, h1, h2, h3, h4, h5, h6]
  by_cases h7 : m1.version = m2.version
  case neg => simp [h0, h1, h2, h3, h4, h5, h6, h7]
  by_cases h8 : m1.gone = m2.gone
  case neg => simp [h0, h1, h2, h3, h4, h5, h6, h7, h8]
  simp [h0, h1, h2, h3, h4, h5, h6, h7, h8]

theorem neqE (m1 m2 : Svc) (w : World) : Sem.run Tryz.prog (binOp .neq 60 (.agg #[.string m1.node, .string m1.idn, .string m1.name, .string m1.tag, .int .i64 m1.addr, .int .i64 m1.port, .bool m1.passing, .int .i64 m1.version, .bool m1.gone]) (.agg #[.string m2.node, .string m2.idn, .string m2.name, .string m2.tag, .int .i64 m2.addr, .int .i64 m2.port, .bool m2.passing, .int .i64 m2.version, .bool m2.gone])) w = .ok (.bool (!sameM m1 m2)) w := by
  rw [run_neq_struct, eqInE]
  rfl

set_option maxHeartbeats 800000 in
theorem same_any (a b : List Svc) (va vb : Value) (w : World) (ha : Sl w va a) (hb : Sl w vb b) (hsm : a.length ≤ 1000) :
    Calls Tryz.prog 41 #[va, vb] w fun e w' => ∃ r : Bool, e = .returned (.bool r) ∧ (r = true ↔ a = b) ∧ Below w.heap.size w w' := by
  obtain ⟨pa, ca, rfl, _, ha⟩ := ha
  obtain ⟨pv, cb, rfl, _, hb⟩ := hb
  by_cases hl : a.length = b.length
  · have HA : Hid (a = [] ∨ ∃ b off, pa = some ⟨b, off, none⟩ ∧ b < w.heap.size ∧ Row w b off a) := ha
    have HB : Hid (b = [] ∨ ∃ b_1 off, pv = some ⟨b_1, off, none⟩ ∧ b_1 < w.heap.size ∧ Row w b_1 off b) := hb
    have HL : Hid (a.length = b.length) := hl
    clear ha hb
    rw [← hl]
    clear hl
    generalize hna : a.length = n at *
    have HN : Hid (a.length = n) := hna
    clear hna
    have hg28 : Tryz.prog.eqGuardType Tryz.prog.depth 60 = false := by kernel_rfl
    go_enter Tryz.func41, Tryz.ntmps41
    go_wp2_with fail
    go_loopw [5] (fun i w' => ∃ k : Nat, k ≤ n ∧ i = .int .i64 k ∧ Below w.heap.size w w' ∧ Hid (∀ j, j < k → a.getD j dm = b.getD j dm)) (fun i _ => n - (intOf i).toNat)
    case atStart => exact ⟨0, Nat.zero_le _, rfl, Below.refl _ _, fun j h => absurd h (Nat.not_lt_zero _)⟩
    case round =>
      obtain ⟨k, hk, rfl, hbl, hz⟩ := hrel
      obtain ⟨hbc, hbf⟩ := bcell hbl
      have hsz := hbl.size
      by_cases hlt : k < n
      · obtain ⟨b1, o1, hp1, hl1, hr1⟩ : ∃ b off, pa = some ⟨b, off, none⟩ ∧ b < w.heap.size ∧ Row w b off a := by
          rcases HA.out with h | h
          · have := HN.out; rw [h] at this; simp at this; omega
          · exact h
        obtain ⟨b2, o2, hp2, hl2, hr2⟩ : ∃ b_1 off, pv = some ⟨b_1, off, none⟩ ∧ b_1 < w.heap.size ∧ Row w b_1 off b := by
          rcases HB.out with h | h
          · have h2 := HN.out; have h3 := HL.out; rw [h] at h3; simp at h3; omega
          · exact h
        subst hp1
        subst hp2
        obtain ⟨c0, c1, c2, c3, c4, c5, c6, c7, c8⟩ := hr1 k (by rw [HN.out]; exact hlt)
        obtain ⟨d0, d1, d2, d3, d4, d5, d6, d7, d8⟩ := hr2 k (by have h2 := HN.out; have h3 := HL.out; omega)
        clear hr1 hr2
        have HF : Hid (a.getD k dm ≠ b.getD k dm → a ≠ b) := fun h e => h (by rw [e])
        have HZ : Hid (a.getD k dm = b.getD k dm → ∀ j, j < k + 1 → a.getD j dm = b.getD j dm) := fun h j hj => by
          rcases Nat.lt_succ_iff_lt_or_eq.1 hj with h2 | rfl
          · exact hz.out j h2
          · exact h
        have hneq := neqE (a.getD k dm) (b.getD k dm)
        generalize a.getD k dm = m1 at *
        generalize b.getD k dm = m2 at *
        rcases hs : sameM m1 m2 with _ | _
        · rw [hs] at hneq
          have hne : Hid (a ≠ b) := HF.out (fun e => by rw [← sameM_iff, hs] at e; cases e)
          go_wp2_with fail
          go_quiet (fail)
          go_wp2_with fail
          go_ret
          exact ⟨false, rfl, ⟨fun h => (by cases h), fun h => absurd h hne.out⟩, below_drewN hbl _⟩
        · rw [hs] at hneq
          have heq : Hid (m1 = m2) := (sameM_iff m1 m2).1 hs
          go_wp2_with fail
          go_quiet (fail)
          go_wp2_with fail
          go_roundw
          case rel => exact ⟨k + 1, by omega, by go_num, below_drewN hbl _, HZ.out heq.out⟩
          case measure => simp [intOf]; omega
      · have hfin : Hid (a = b) := by
          apply List.ext_getElem (HN.out.trans HL.out)
          intro j h1 h2
          have := hz.out j (by have := HN.out; omega)
          simpa [List.getD, List.getElem?_eq_getElem h1, List.getElem?_eq_getElem h2] using this
        go_wp2_with fail
        go_ret
        exact ⟨true, rfl, ⟨fun _ => hfin.out, fun _ => rfl⟩, hbl⟩
  · have hne : ((a.length : Int) != (b.length : Int)) = true := by rw [bne_iff_ne]; omega
    have HF : Hid (a ≠ b) := fun e => hl (by rw [e])
    clear ha hb
    go_enter Tryz.func41, Tryz.ntmps41
    go_wp2_with fail
    go_ret
    exact ⟨false, rfl, ⟨fun h => (by cases h), fun h => absurd h HF.out⟩, Below.refl _ _⟩

section
open Go.ChangeShapes Go.WideShapes Go.ChangeAt
variable {H : Type} {enc : TypeId × Value → H} {w : World} {base : Nat} {spare : Nat → Bool} {held : Bool}

theorem Tryz.cells60 : Tryz.prog.cellsOf 60 = 9 := by kernel_rfl
theorem Tryz.cells9 : Tryz.prog.cellsOf 9 = 1 := by kernel_rfl
theorem Tryz.cells3 : Tryz.prog.cellsOf 3 = 1 := by kernel_rfl
theorem Tryz.cells4 : Tryz.prog.cellsOf 4 = 1 := by kernel_rfl

set_option maxRecDepth 100000 in
theorem el_of_trod {fuel : Nat} {cs : List Value} {x : DataW H × List MemPlace} (h : DataW.trod enc Tryz.prog w base spare held fuel 60 cs = some x) :
    ∃ m : Svc, cs = [.string m.node, .string m.idn, .string m.name, .string m.tag, .int .i64 m.addr, .int .i64 m.port, .bool m.passing, .int .i64 m.version, .bool m.gone] ∧ (m).ok := by
  obtain ⟨xs, n, _, _, hl, hlen, hf⟩ := DataW.trod_struct Tryz.underlying60 h
  rw [Tryz.cells60] at hl
  match cs, hl with
  | [c0, c1, c2, c3, c4, c5, c6, c7, c8], _ =>
    match xs, hlen with
    | [y0, y1, y2, y3, y4, y5, y6, y7, y8], _ =>
      have h0 := hf 0 _ rfl
      have h1 := hf 1 _ rfl
      have h2 := hf 2 _ rfl
      have h3 := hf 3 _ rfl
      have h4 := hf 4 _ rfl
      have h5 := hf 5 _ rfl
      have h6 := hf 6 _ rfl
      have h7 := hf 7 _ rfl
      have h8 := hf 8 _ rfl
      simp [Tryz.cells9] at h0
      simp [Tryz.cells9] at h1
      simp [Tryz.cells9] at h2
      simp [Tryz.cells9] at h3
      simp [Tryz.cells3] at h4
      simp [Tryz.cells3] at h5
      simp [Tryz.cells4] at h6
      simp [Tryz.cells3] at h7
      simp [Tryz.cells4] at h8
      obtain ⟨z0, e0, _, g0⟩ := DataW.trod_string Tryz.underlying9 h0
      obtain ⟨z1, e1, _, g1⟩ := DataW.trod_string Tryz.underlying9 h1
      obtain ⟨z2, e2, _, g2⟩ := DataW.trod_string Tryz.underlying9 h2
      obtain ⟨z3, e3, _, g3⟩ := DataW.trod_string Tryz.underlying9 h3
      obtain ⟨z4, e4, _⟩ := DataW.trod_int Tryz.underlying3 h4
      obtain ⟨z5, e5, _⟩ := DataW.trod_int Tryz.underlying3 h5
      obtain ⟨z6, e6, _⟩ := DataW.trod_bool Tryz.underlying4 h6
      obtain ⟨z7, e7, _⟩ := DataW.trod_int Tryz.underlying3 h7
      obtain ⟨z8, e8, _⟩ := DataW.trod_bool Tryz.underlying4 h8
      simp only [List.cons.injEq, and_true] at e0 e1 e2 e3 e4 e5 e6 e7 e8
      subst e0 e1 e2 e3 e4 e5 e6 e7 e8
      exact ⟨⟨z0, z1, z2, z3, z4, z5, z6, z7, z8⟩, rfl, ⟨g0, g1, g2, g3⟩⟩

set_option maxRecDepth 100000 in
theorem open_el {r : Reach} {b0 : Nat} {v : Value} {d : DataW H} {p : List MemPlace} (hv : Value.okWide Tryz.prog w r b0 60 v) (h : DataW.Trod enc Tryz.prog w base spare held 60 v d p) :
    ∃ m : Svc, v = .agg #[.string m.node, .string m.idn, .string m.name, .string m.tag, .int .i64 m.addr, .int .i64 m.port, .bool m.passing, .int .i64 m.version, .bool m.gone] ∧ (m).ok := by
  obtain ⟨cs, rfl, hsz⟩ := okWide_struct Tryz.underlying60 hv
  obtain ⟨fuel, hf⟩ := h
  obtain ⟨m, hm, hs⟩ := el_of_trod hf
  refine ⟨m, ?_, hs⟩
  simp only [Value.cells] at hm
  congr 1
  apply Array.ext'
  exact hm

set_option maxRecDepth 100000 in
theorem open_els {r : Reach} {b0 : Nat} {v : Value} {d : DataW H} {p : List MemPlace} (hv : Value.okWide Tryz.prog w r b0 23 v) (h : DataW.Trod enc Tryz.prog w base spare held 23 v d p) :
    ∃ ms : List Svc, Sl w v ms ∧ ms.length ≤ maxLen := by
  obtain ⟨a, len, cap, rfl⟩ := okWide_slice Tryz.underlying23 hv
  obtain ⟨fuel, hf⟩ := h
  rcases Go.Deep.open_slice Tryz.underlying23 hf with ⟨hcs, _⟩ | ⟨x, l, c, m, n, D, Pl, hcs, hb, hl, hm, hmm, _, hx⟩
  · simp [Value.cells] at hcs
    obtain ⟨rfl, rfl, rfl⟩ := hcs
    exact ⟨[], ⟨none, 0, rfl, ns_get (by simp), .inl rfl⟩, by simp⟩
  · simp [Value.cells] at hcs
    obtain ⟨rfl, rfl, rfl⟩ := hcs
    have hlm : len ≤ m := by rw [hmm]; split <;> omega
    have hall : ∀ i, i < len → ∃ q : Svc, (∀ t, t < 9 → w.cell? (x.add (i * 9 + t)) = q.cs[t]?) ∧ (q).ok := fun i hi => by
      obtain ⟨cs', h1, h2⟩ := hx i (by omega)
      obtain ⟨q, hq, hs⟩ := el_of_trod h2
      rw [Tryz.cells60] at h1
      obtain ⟨_, _, h3⟩ := World.cells?_some h1
      refine ⟨q, fun t ht => ?_, hs⟩
      rw [← Go.Deep.add_add, h3 t ht, hq]
      rfl
    have hinh : Inhabited Svc := ⟨dm⟩
    obtain ⟨F, hF⟩ := Go.Deep.choose_lt (α := Svc) (p := fun i q => (∀ t, t < 9 → w.cell? (x.add (i * 9 + t)) = q.cs[t]?) ∧ (q).ok) hall
    have hget : ∀ j, j < len → ((List.range len).map F).getD j dm = F j := fun j hj => by simp [List.getD, hj]
    refine ⟨(List.range len).map F, ⟨some x, cap, by simp, ns_get (fun q hq => ?_), ?_⟩, by simp; omega⟩
    · obtain ⟨j, hj, rfl⟩ := List.mem_map.1 hq
      exact (hF j (List.mem_range.1 hj)).2
    · by_cases h0 : len = 0
      · left; simp [h0]
      · right
        obtain ⟨b, off, spot⟩ := x
        have hc0 := (hF 0 (by omega)).1 0 (by omega)
        have hspot : spot = none := by simpa [Addr.add] using World.cell?_spot hc0
        subst hspot
        have hcell : ∀ j, j < len → ∀ t, t < 9 → w.cell? ⟨b, off + j * 9 + t, none⟩ = (F j).cs[t]? := fun j hj t ht => by
          have := (hF j hj).1 t ht
          rwa [Go.WideShapes.add_plain, ← Nat.add_assoc] at this
        refine ⟨b, off, rfl, World.block_lt_of_cell? w ⟨b, off + 0 * 9 + 0, none⟩ (hcell 0 (by omega) 0 (by omega)), fun j hj => ?_⟩
        have hj' : j < len := by simpa using hj
        rw [hget j hj']
        exact ⟨hcell j hj' 0 (by omega), hcell j hj' 1 (by omega), hcell j hj' 2 (by omega), hcell j hj' 3 (by omega), hcell j hj' 4 (by omega), hcell j hj' 5 (by omega), hcell j hj' 6 (by omega), hcell j hj' 7 (by omega), hcell j hj' 8 (by omega)⟩

end
end Sv
end Go.Proofs.YtdfkpehggecbaaaGreatDoor

