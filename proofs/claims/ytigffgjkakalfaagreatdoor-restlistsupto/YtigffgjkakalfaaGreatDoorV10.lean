/- WA, WS, WC, DK1, WD -/
import Derived.Test.YtigffgjkakalfaaGreatDoorV8
import Derived.Test.YtigffgjkakalfaaGreatDoorV9
import Derived.Test.YtigffgjkakalfaaGreatDoorV4
import Derived.Test.YtigffgjkakalfaaGreatDoorV6
import Derived.Test.YtigffgjkakalfaaGreatDoorV1
import Derived.Lib.AppendZerosOnto
import Derived.Deep.AppendLies
/- What is spoilt; what Hear, Join and Take answer is new. -/
namespace Go.Proofs.YtigffgjkakalfaaGreatDoor
open Go.RowKit

theorem own_free {B g c n k : Nat} {w : World} {ms : List Mem} (h : w.ownsRow B 24 5 (.slice (some ⟨g, 0, none⟩) n c) n (fl ms)) (i : Nat) : w.frozen? ⟨g, k * 5 + i, none⟩ = false := by
  rcases h.2 with ⟨h1, _⟩ | ⟨g', c', cur, h1, hbg, hg, hnc, hcm, hcs, htake⟩
  · cases h1
  · simp only [Value.slice.injEq, Option.some.injEq, Addr.mk.injEq] at h1
    obtain ⟨⟨rfl, _, _⟩, _, _⟩ := h1
    simp [World.frozen?, hg]

set_option maxHeartbeats 1600000 in
set_option maxRecDepth 100000 in
theorem spoilM_any (B : Nat) (v : Value) (ms : List Mem) (w : World) (ho : Own B w v ms) (hn : ms.length ≤ 100000) :
    Calls Tryz.prog 18 #[v] w fun e w' => e = .returned (.tuple #[]) ∧ Below B w w' := by
  rcases ho.2 with ⟨rfl, h0⟩ | ⟨g, c, cur, rfl, hbg, _⟩
  · clear ho
    go_enter Tryz.func18, Tryz.ntmps18
    go_wp2_with fail
    go_loopw [2] (fun i wr => i = .int .i64 0 ∧ wr = w) (fun _ _ => 0)
    case atStart => exact ⟨rfl, rfl⟩
    case round =>
      obtain ⟨rfl, hw⟩ := hrel
      subst hw
      go_wp2_with fail
      simp only [bodyPost, results, Tryz.results18]
      exact ⟨trivial, .tuple #[], by simp, rfl, Below.refl _ _⟩
  · obtain ⟨n, hN⟩ : ∃ n, ms.length = n := ⟨_, rfl⟩
    have HN : Hid (ms.length = n) := hN
    have HO : Hid (Own B w (.slice (some ⟨g, 0, none⟩) n c) ms) := (show Own _ _ _ _ by rw [← hN]; exact ho)
    have hn2 : n ≤ 100000 := by omega
    rw [hN]
    clear hN ho hn
    go_enter Tryz.func18, Tryz.ntmps18
    go_wp2_with fail
    go_loopw [2] (fun i wr => ∃ (k : Nat) (L : List Mem), k ≤ n ∧ i = .int .i64 k ∧ Hid (L.length = n) ∧ Hid (Own B wr (.slice (some ⟨g, 0, none⟩) n c) L) ∧ Hid (Below B w wr)) (fun i _ => n - (intOf i).toNat)
    case atStart => exact ⟨0, ms, Nat.zero_le _, rfl, HN, HO, Below.refl _ _⟩
    case round =>
      obtain ⟨k, L, hk, rfl, HL, HOL, HB⟩ := hrel
      by_cases hlt : k < n
      · have hd : decide ((k : Int) < (n : Int)) = true := by simp; omega
        have HOX : Hid (Own B wr (.slice (some ⟨g, 0, none⟩) L.length c) L) := (show Own _ _ _ _ by rw [HL.out]; exact HOL.out)
        obtain ⟨c0, c1, c2, c3, c4⟩ := own_cells HOX.out k (by rw [HL.out]; exact hlt)
        have z0 : wr.frozen? ⟨g, k * 5, none⟩ = false := own_free HOX.out 0
        have z1 : wr.frozen? ⟨g, k * 5 + 1, none⟩ = false := own_free HOX.out 1
        have z2 : wr.frozen? ⟨g, k * 5 + 2, none⟩ = false := own_free HOX.out 2
        have z3 : wr.frozen? ⟨g, k * 5 + 3, none⟩ = false := own_free HOX.out 3
        have z4 : wr.frozen? ⟨g, k * 5 + 4, none⟩ = false := own_free HOX.out 4
        have HS : Hid (Own B _ (.slice (some ⟨g, 0, none⟩) L.length c) (L.set k ⟨⟨#[63]⟩, 0, 0, 0, false⟩)) := own_set HOX.out (by rw [HL.out]; exact hlt) ⟨⟨#[63]⟩, 0, 0, 0, false⟩
        have hi0 : (0 : Int) ≤ (k : Int) := by omega
        have hi1 : (k : Int) < (n : Int) := by omega
        have hi2 : ((k : Int)).toNat = k := by omega
        generalize L.getD k dm = x at *
        go_wp2_with fail
        refine ⟨⟨k + 1, L.set k ⟨⟨#[63]⟩, 0, 0, 0, false⟩, by omega, by go_num, by rw [List.length_set]; exact HL, ?_, ?_⟩, by simp [intOf]; omega⟩
        · have := HS.out
          rw [HL.out] at this
          exact this
        · exact (((((HB.out.setCell (p := ⟨g, k * 5, none⟩) hbg _).setCell (p := ⟨g, k * 5 + 1, none⟩) hbg _).setCell (p := ⟨g, k * 5 + 2, none⟩) hbg _).setCell (p := ⟨g, k * 5 + 3, none⟩) hbg _).setCell (p := ⟨g, k * 5 + 4, none⟩) hbg _)
      · have hd : decide ((k : Int) < (n : Int)) = false := by simp; omega
        go_wp2_with fail
        simp only [bodyPost, results, Tryz.results18]
        exact ⟨trivial, .tuple #[], by simp, rfl, HB.out⟩

theorem hear_own (ms : List Mem) (m : Mem) (v : Value) (w : World) (hv : Sl w v ms) (hm : m.name.size ≤ maxLen) :
    Calls Tryz.prog 7 #[v, .agg #[.string m.name, .int .i64 m.state, .int .i64 m.life, .int .i64 m.addr, .bool m.server]] w fun e w' => ∃ (p : Option Addr) (l c : Nat) (r : Bool), e = .returned (.tuple #[.slice p l c, .bool r, .int .i64 (joinE ms [m])]) ∧ Hid (Own w.heap.size w' (.slice p l c) (if joinE ms [m] = 0 then hearL ms m else [])) ∧ Below w.heap.size w w' := by
  refine (hear_any ms m v w hv hm).mono ?_
  rintro e w' ⟨v', r, rfl, hb, hbad, hgood⟩
  have ho : Own w.heap.size w' v' (if joinE ms [m] = 0 then hearL ms m else []) := by
    by_cases h : joinE ms [m] = 0
    · rw [if_pos h]; exact (hgood h).1
    · rw [if_neg h, (hbad h).1]; exact own_nil _ _
  obtain ⟨p, c, rfl⟩ := ho.slice
  exact ⟨p, _, c, r, rfl, ho, hb⟩
theorem mjoin_own (a b : List Mem) (va vb : Value) (w : World) (ha : Sl w va a) (hb : Sl w vb b) :
    Calls Tryz.prog 8 #[va, vb] w fun e w' => ∃ (p : Option Addr) (l c : Nat), e = .returned (.tuple #[.slice p l c, .int .i64 (joinE a b)]) ∧ Hid (Own w.heap.size w' (.slice p l c) (if joinE a b = 0 then joinL a b else [])) ∧ Below w.heap.size w w' := by
  refine (join2_any a b va vb w ha hb).mono ?_
  rintro e w' ⟨v', rfl, hbl, hbad, hgood⟩
  have ho : Own w.heap.size w' v' (if joinE a b = 0 then joinL a b else []) := by
    by_cases h : joinE a b = 0
    · rw [if_pos h]; exact hgood h
    · rw [if_neg h, hbad h]; exact own_nil _ _
  obtain ⟨p, c, rfl⟩ := ho.slice
  exact ⟨p, _, c, rfl, ho, hbl⟩

/-- What the document takes. -/
def TakeD (rs : List Rum) (tl : List Mem) : Prop := ∀ v w, RSl w v rs → Calls Tryz.prog 17 #[v, .int .i64 3, .int .i64 4] w fun e w' => ∃ (p : Option Addr) (l c : Nat) (q : Option Addr) (k d : Nat), e = .returned (.tuple #[.slice p l c, .slice q k d]) ∧ Hid (Sl w' (.slice p l c) tl) ∧ Below w.heap.size w w'
theorem take_own (rs : List Rum) (v : Value) (w : World) (hv : RSl w v rs) :
    Calls Tryz.prog 9 #[v, .int .i64 3, .int .i64 4] w fun e w' => ∃ (p : Option Addr) (l c : Nat) (q : Option Addr) (k d : Nat) (tl : List Mem), e = .returned (.tuple #[.slice p l c, .slice q k d, .int .i64 (chkR rs)]) ∧ Hid (Own w.heap.size w' (.slice p l c) tl) ∧ tl.length ≤ 20 ∧ Hid (∀ m ∈ tl, m.name.size ≤ maxLen) ∧ Hid (chkR rs = 0 → TakeD rs tl) ∧ Below w.heap.size w w' := by
  have hm : within 3 1 20 = true := by decide
  have ht : within 4 1 100 = true := by decide
  by_cases h0 : chkR rs = 0
  rotate_left
  · refine (take_bad1 rs v 3 4 w hv h0).mono ?_
    rintro e w' ⟨rfl, hb⟩
    exact ⟨none, 0, 0, none, 0, 0, [], rfl, own_nil _ _, by simp, (show ∀ m ∈ [], _ from fun m hm => by cases hm), fun h => absurd h h0, hb⟩
  obtain ⟨hn20, _, htold, _⟩ := chkR_zero h0
  cases rs with
  | nil =>
    refine (take_none v 3 4 w hv h0 hm ht).mono ?_
    rintro e w' ⟨v1, v2, rfl, o1, o2, hb⟩
    obtain ⟨p, c, rfl⟩ := o1.slice
    obtain ⟨q, d, rfl⟩ := o2.slice
    refine ⟨p, _, c, q, _, d, [], by rw [h0], o1, by simp, (show ∀ m ∈ [], _ from fun m hm => by cases hm), fun _ v w hv => (takeRumors_none v 3 4 w hv (by omega)).mono ?_, hb⟩
    rintro e w' ⟨v1, v2, rfl, o1, o2, hb⟩
    obtain ⟨p, c, rfl⟩ := o1.slice
    obtain ⟨q, d, rfl⟩ := o2.slice
    exact ⟨p, _, c, q, _, d, rfl, o1.sl (ns_get (by simp)), hb⟩
  | cons r0 rest =>
    have hs : ∀ j, ((r0 :: rest).getD j dr).m.name.size ≤ maxLen := by obtain ⟨_, _, _, h, _⟩ := hv; exact h
    generalize hR : r0 :: rest = rs at *
    have hpos : 0 < rs.length := by rw [← hR]; simp
    obtain ⟨m, hm'⟩ : ∃ m, rs.length = m + 1 := ⟨rs.length - 1, by omega⟩
    refine (take_some rs v 3 4 w hv h0 hm ht hpos (turns_some rs v m hm' (by omega))).mono ?_
    rintro e w' ⟨v1, v2, ord, rfl, hord, o1, o2, hb⟩
    have n1 : ∀ m ∈ toldL rs ord (min (3 : Int).toNat rs.length), m.name.size ≤ maxLen := fun x hx => by
      unfold toldL at hx
      obtain ⟨i, _, rfl⟩ := List.mem_map.1 hx
      exact hs i
    obtain ⟨p, c, rfl⟩ := o1.slice
    obtain ⟨q, d, rfl⟩ := o2.slice
    refine ⟨p, _, c, q, _, d, _, by rw [h0], o1, ?_, n1, fun _ v w hv => (takeRumors_some rs v 3 4 w hv hpos hn20 (by omega) (by omega) htold ord hord).mono ?_, hb⟩
    · unfold toldL; rw [List.length_map, List.length_take]; omega
    · rintro e w' ⟨v1, v2, rfl, o1, o2, hb⟩
      obtain ⟨p, c, rfl⟩ := o1.slice
      obtain ⟨q, d, rfl⟩ := o2.slice
      exact ⟨p, _, c, q, _, d, rfl, o1.sl (ns_get n1), hb⟩

end Go.Proofs.YtigffgjkakalfaaGreatDoor

/- Great lists that are the same. -/
namespace Go.Proofs.YtigffgjkakalfaaGreatDoor
open Go.RowKit

set_option maxHeartbeats 800000 in
theorem same_big (a b : List Mem) (va vb : Value) (w : World) (ha : Sl w va a) (hb : Sl w vb b) (hsm : a.length ≤ 4000000000) :
    Calls Tryz.prog 13 #[va, vb] w fun e w' => ∃ r : Bool, e = .returned (.bool r) ∧ (r = true ↔ a = b) ∧ Below w.heap.size w w' := by
  obtain ⟨pa, ca, rfl, _, ha⟩ := ha
  obtain ⟨pv, cb, rfl, _, hb⟩ := hb
  by_cases hl : a.length = b.length
  · have HA : Hid (a = [] ∨ ∃ b off, pa = some ⟨b, off, none⟩ ∧ b < w.heap.size ∧ Row w b off a) := ha
    have HB : Hid (b = [] ∨ ∃ b_1 off, pv = some ⟨b_1, off, none⟩ ∧ b_1 < w.heap.size ∧ Row w b_1 off b) := hb
    have HL : Hid (a.length = b.length) := hl
    clear ha hb
    rw [← hl]
    clear hl
    generalize hna : a.length = n at *
    have HN : Hid (a.length = n) := hna
    clear hna
    have hg24 : Tryz.prog.eqGuardType Tryz.prog.depth 24 = false := by kernel_rfl
    go_enter Tryz.func13, Tryz.ntmps13
    go_wp2_with fail
    go_loopw [5] (fun i w' => ∃ k : Nat, k ≤ n ∧ i = .int .i64 k ∧ Below w.heap.size w w' ∧ Hid (∀ j, j < k → a.getD j dm = b.getD j dm)) (fun i _ => n - (intOf i).toNat)
    case atStart => exact ⟨0, Nat.zero_le _, rfl, Below.refl _ _, fun j h => absurd h (Nat.not_lt_zero _)⟩
    case round =>
      obtain ⟨k, hk, rfl, hbl, hz⟩ := hrel
      obtain ⟨hbc, hbf⟩ := bcell hbl
      have hsz := hbl.size
      by_cases hlt : k < n
      · obtain ⟨b1, o1, hp1, hl1, hr1⟩ : ∃ b off, pa = some ⟨b, off, none⟩ ∧ b < w.heap.size ∧ Row w b off a := by
          rcases HA.out with h | h
          · have := HN.out; rw [h] at this; simp at this; omega
          · exact h
        obtain ⟨b2, o2, hp2, hl2, hr2⟩ : ∃ b_1 off, pv = some ⟨b_1, off, none⟩ ∧ b_1 < w.heap.size ∧ Row w b_1 off b := by
          rcases HB.out with h | h
          · have h2 := HN.out; have h3 := HL.out; rw [h] at h3; simp at h3; omega
          · exact h
        subst hp1
        subst hp2
        obtain ⟨c0, c1, c2, c3, c4⟩ := hr1 k (by rw [HN.out]; exact hlt)
        obtain ⟨d0, d1, d2, d3, d4⟩ := hr2 k (by have h2 := HN.out; have h3 := HL.out; omega)
        clear hr1 hr2
        have HF : Hid (a.getD k dm ≠ b.getD k dm → a ≠ b) := fun h e => h (by rw [e])
        have HZ : Hid (a.getD k dm = b.getD k dm → ∀ j, j < k + 1 → a.getD j dm = b.getD j dm) := fun h j hj => by
          rcases Nat.lt_succ_iff_lt_or_eq.1 hj with h2 | rfl
          · exact hz.out j h2
          · exact h
        have hneq := neq24 (a.getD k dm) (b.getD k dm)
        generalize a.getD k dm = m1 at *
        generalize b.getD k dm = m2 at *
        rcases hs : sameM m1 m2 with _ | _
        · rw [hs] at hneq
          have hne : Hid (a ≠ b) := HF.out (fun e => by rw [← sameM_iff, hs] at e; cases e)
          go_wp2_with fail
          go_quiet (fail)
          go_wp2_with fail
          go_ret
          exact ⟨false, rfl, ⟨fun h => (by cases h), fun h => absurd h hne.out⟩, below_drewN hbl _⟩
        · rw [hs] at hneq
          have heq : Hid (m1 = m2) := (sameM_iff m1 m2).1 hs
          go_wp2_with fail
          go_quiet (fail)
          go_wp2_with fail
          go_roundw
          case rel => exact ⟨k + 1, by omega, by go_num, below_drewN hbl _, HZ.out heq.out⟩
          case measure => simp [intOf]; omega
      · have hfin : Hid (a = b) := by
          apply List.ext_getElem (HN.out.trans HL.out)
          intro j h1 h2
          have := hz.out j (by have := HN.out; omega)
          simpa [List.getD, List.getElem?_eq_getElem h1, List.getElem?_eq_getElem h2] using this
        go_wp2_with fail
        go_ret
        exact ⟨true, rfl, ⟨fun _ => hfin.out, fun _ => rfl⟩, hbl⟩
  · have hne : ((a.length : Int) != (b.length : Int)) = true := by rw [bne_iff_ne]; omega
    have HF : Hid (a ≠ b) := fun e => hl (by rw [e])
    clear ha hb
    go_enter Tryz.func13, Tryz.ntmps13
    go_wp2_with fail
    go_ret
    exact ⟨false, rfl, ⟨fun h => (by cases h), fun h => absurd h HF.out⟩, Below.refl _ _⟩


set_option maxHeartbeats 1600000 in
theorem sameR_big (rs : List Rum) (va vb : Value) (w : World) (ha : RSl w va rs) (hb : RSl w vb rs) (hsm : rs.length ≤ 4000000000) :
    Calls Tryz.prog 14 #[va, vb] w fun e w' => e = .returned (.bool true) ∧ Below w.heap.size w w' := by
  obtain ⟨pa, ca, rfl, _, ha⟩ := ha
  obtain ⟨pv, cb, rfl, _, hb⟩ := hb
  have HA : Hid (rs = [] ∨ ∃ b off, pa = some ⟨b, off, none⟩ ∧ b < w.heap.size ∧ RRow w b off rs) := ha
  have HB : Hid (rs = [] ∨ ∃ b off, pv = some ⟨b, off, none⟩ ∧ b < w.heap.size ∧ RRow w b off rs) := hb
  clear ha hb
  generalize hna : rs.length = n at *
  have HN : Hid (rs.length = n) := hna
  clear hna
  have hgR : Tryz.prog.eqGuardType Tryz.prog.depth 57 = false := by kernel_rfl
  go_enter Tryz.func14, Tryz.ntmps14
  go_wp2_with fail
  go_loopw [5] (fun i w' => ∃ k : Nat, k ≤ n ∧ i = .int .i64 k ∧ Hid (Below w.heap.size w w')) (fun i _ => n - (intOf i).toNat)
  case atStart => exact ⟨0, Nat.zero_le _, rfl, Below.refl _ _⟩
  case round =>
    obtain ⟨k, hk, rfl, HBL⟩ := hrel
    by_cases hlt : k < n
    · obtain ⟨b1, o1, hp1, hl1, hr1⟩ : ∃ b off, pa = some ⟨b, off, none⟩ ∧ b < w.heap.size ∧ RRow w b off rs := by
        rcases HA.out with h | h
        · have := HN.out; rw [h] at this; simp at this; omega
        · exact h
      obtain ⟨b2, o2, hp2, hl2, hr2⟩ : ∃ b off, pv = some ⟨b, off, none⟩ ∧ b < w.heap.size ∧ RRow w b off rs := by
        rcases HB.out with h | h
        · have := HN.out; rw [h] at this; simp at this; omega
        · exact h
      subst hp1
      subst hp2
      obtain ⟨c0, c1, c2, c3, c4, c5⟩ := hr1.below HBL.out hl1 k (by rw [HN.out]; exact hlt)
      obtain ⟨d0, d1, d2, d3, d4, d5⟩ := hr2.below HBL.out hl2 k (by rw [HN.out]; exact hlt)
      clear hr1 hr2
      have hneq := neqR (rs.getD k dr)
      generalize rs.getD k dr = rk at *
      obtain ⟨⟨n1, s1, l1, a1, v1⟩, t1⟩ := rk
      simp only at c0 c1 c2 c3 c4 c5 d0 d1 d2 d3 d4 d5 hneq
      go_wp2_with fail
      go_quiet (fail)
      go_wp2_with fail
      go_roundw
      case rel => exact ⟨k + 1, by omega, by go_num, below_drewN HBL.out _⟩
      case measure => simp [intOf]; omega
    · go_wp2_with fail
      go_ret
      exact ⟨rfl, HBL.out⟩

end Go.Proofs.YtigffgjkakalfaaGreatDoor

/- RestLists: the copies of what is handed in. -/
namespace Go.Proofs.YtigffgjkakalfaaGreatDoor
open Go.RowKit

theorem append_none_run {P : Program} (t e : TypeId) (i : TypeInfo) (h1 : P.underlying t = some (.slice e)) (h2 : P.info? e = some i) (ao : Option Addr) (n cap : Nat) (hle : n ≤ cap) (ax : Option Addr) (c : Nat) (ty : TypeId) (w : World) :
    (Builtin.append_ #[t, t] ty #[.slice ao n cap, .slice ax 0 c]).run P w = .ok (.slice ao n cap) w := by
  cases ax with
  | none => cases ao <;> simp [Builtin.append_, run_underlying h1, Go.sizeOf, typeInfo, h2, Builtin.lenOf, Builtin.firstCells, hle, storeCells]
  | some ad =>
    have hf := run_firstCells_some (P := P) w i.size 0 ad 0 c [] (by simp) (by simp)
    cases ao <;> simp [Builtin.append_, run_underlying h1, Go.sizeOf, typeInfo, h2, Builtin.lenOf, hf, hle, storeCells]
theorem row_cell {ms : List Mem} {w : World} {b off : Nat} (hr : Row w b off ms) {j : Nat} {u : Value} (hj : (fl ms)[j]? = some u) : w.cell? ⟨b, off + j, none⟩ = some u := by
  have hjl : j < ms.length * 5 := by rw [← fl_len]; exact (List.getElem?_eq_some_iff.1 hj).1
  have h1 := fl_get ms (j / 5) (by omega) (j % 5) (by omega)
  rw [show j / 5 * 5 + j % 5 = j by omega, hj] at h1
  obtain ⟨c0, c1, c2, c3, c4⟩ := hr (j / 5) (by omega)
  have hcs : j % 5 = 0 ∨ j % 5 = 1 ∨ j % 5 = 2 ∨ j % 5 = 3 ∨ j % 5 = 4 := by omega
  rcases hcs with e | e | e | e | e
  · rw [show off + j = off + j / 5 * 5 by omega, c0]; rw [e] at h1; simpa [Mem.cs] using h1.symm
  · rw [show off + j = off + j / 5 * 5 + 1 by omega, c1]; rw [e] at h1; simpa [Mem.cs] using h1.symm
  · rw [show off + j = off + j / 5 * 5 + 2 by omega, c2]; rw [e] at h1; simpa [Mem.cs] using h1.symm
  · rw [show off + j = off + j / 5 * 5 + 3 by omega, c3]; rw [e] at h1; simpa [Mem.cs] using h1.symm
  · rw [show off + j = off + j / 5 * 5 + 4 by omega, c4]; rw [e] at h1; simpa [Mem.cs] using h1.symm
def room : Mem := ⟨⟨#[114, 111, 111, 109]⟩, 0, 0, 0, false⟩

set_option maxHeartbeats 800000 in
set_option maxRecDepth 1000000 in
theorem rl3 {u1 u2 u3 u4 u5 u6 u7 u8 u9 u10 u11 u12 u13 u14 u15 u16 u17 u18 u19 u20 u21 u22 u23 u24 u25 u26 u27 u28 u29 u30 u31 u32 u33 u34 u35 u36 u37 u38 u39 u40 u41 u42 u43 u44 u45 u46 u47 u48 u49 u50 u51 u52 u53 u54 u55 u56 u57 u58 u59 u60 u61 u62 u63 u64 u65 u66 u67 u68 u69 u70 u71 u72 u73 u74 u75 u76 u77 u78 u79 u80 u81 u82 u83 u84 u85 u86 u87 u88 u89 u90 u91 u92 u93 u94 u95 u96 u97 u98 u99 u100 u101 u102 u103 u104 u105 u106 u107 u108 u109 u110 u111 u112 u113 u114 u115 u116 u117 u118 u119 u120 u121 u122 u123 u124 u125 u126 u127 u128 u129 u130 u131 u132 u133 u134 u135 u136 u137 u138 u139 u140 u141 u142 u143 u144 u145 u146 u147 u148 u149 u150 u151 u152 u153 u154 u155 u156 u157 u158 u159 u160 u161 u162 u163 u164 u165 u166 u167 u168 u169 u170 u171 : Value} (w : World) (ms : List Mem) (pa : Option Addr) (ca : Nat) (hl : Sl w (.slice pa ms.length ca) ms) (hn : ms.length ≤ 2000000) (Q : Exit → Act → World → Prop)
    (hN : ∀ (y40 y41 y42 y43 y44 y45 : Value) (p : Option Addr) (c : Nat) (wx : World), Hid (Own w.heap.size wx (.slice p (ms.length + 1) c) (ms ++ [room])) → Hid (Below w.heap.size w wx) → Q .normal ⟨#[.slice pa ms.length ca, u1, u2, u3, u4, u5, u6, u7, u8, .slice p (ms.length + 1) c, u10, u11, u12, u13, u14, u15, u16, u17, u18, u19, u20, u21, u22, u23, u24, u25, u26, u27, u28, u29, u30, u31, u32, u33, u34, u35, u36, u37, u38, u39, y40, y41, y42, y43, y44, y45, u46, u47, u48, u49, u50, u51, u52, u53, u54, u55, u56, u57, u58, u59, u60, u61, u62, u63, u64, u65, u66, u67, u68, u69, u70, u71, u72, u73, u74, u75, u76, u77, u78, u79, u80, u81, u82, u83, u84, u85, u86, u87, u88, u89, u90, u91, u92, u93, u94, u95, u96, u97, u98, u99, u100, u101, u102, u103, u104, u105, u106, u107, u108, u109, u110, u111, u112, u113, u114, u115, u116, u117, u118, u119, u120, u121, u122, u123, u124, u125, u126, u127, u128, u129, u130, u131, u132, u133, u134, u135, u136, u137, u138, u139, u140, u141, u142, u143, u144, u145, u146, u147, u148, u149, u150, u151, u152, u153, u154, u155, u156, u157, u158, u159, u160, u161, u162, u163, u164, u165, u166, u167, u168, u169, u170, u171], []⟩ wx) :
    Code.wp Tryz.prog ((Tryz.f3.body.bind (regIn 3)).getD .skip) Q ⟨#[.slice pa ms.length ca, u1, u2, u3, u4, u5, u6, u7, u8, u9, u10, u11, u12, u13, u14, u15, u16, u17, u18, u19, u20, u21, u22, u23, u24, u25, u26, u27, u28, u29, u30, u31, u32, u33, u34, u35, u36, u37, u38, u39, u40, u41, u42, u43, u44, u45, u46, u47, u48, u49, u50, u51, u52, u53, u54, u55, u56, u57, u58, u59, u60, u61, u62, u63, u64, u65, u66, u67, u68, u69, u70, u71, u72, u73, u74, u75, u76, u77, u78, u79, u80, u81, u82, u83, u84, u85, u86, u87, u88, u89, u90, u91, u92, u93, u94, u95, u96, u97, u98, u99, u100, u101, u102, u103, u104, u105, u106, u107, u108, u109, u110, u111, u112, u113, u114, u115, u116, u117, u118, u119, u120, u121, u122, u123, u124, u125, u126, u127, u128, u129, u130, u131, u132, u133, u134, u135, u136, u137, u138, u139, u140, u141, u142, u143, u144, u145, u146, u147, u148, u149, u150, u151, u152, u153, u154, u155, u156, u157, u158, u159, u160, u161, u162, u163, u164, u165, u166, u167, u168, u169, u170, u171], []⟩ w := by
  conv => arg 2; whnf
  have HQN : Hid _ := hN
  clear hN
  obtain ⟨i0, hi0, hz0, hzs, hzb⟩ := info_parts Tryz.info24
  have HO : Hid ((w.alloc (.cells #[] 24)).ownsRow w.heap.size 24 5 (.slice (some ⟨w.heap.size, 0, none⟩) 0 0) 0 []) := World.ownsRow_made w #[] 0 (Nat.le_refl _) (by unfold maxLen; omega) rfl
  have HB0 : Hid (Below w.heap.size w (w.alloc (.cells #[] 24))) := (Below.refl _ _).alloc (Nat.le_refl _) _
  obtain ⟨pa', ca', he, hs, h⟩ := hl
  simp only [Value.slice.injEq, true_and] at he
  obtain ⟨rfl, rfl⟩ := he
  cases pa with
  | none =>
    have hms : ms = [] := by
      rcases h with h | ⟨b, off, h, _⟩
      · exact h
      · cases h
    subst hms
    have hrz : ∀ W, (Builtin.append_ #[22, 22] 22 #[.slice (some ⟨w.heap.size, 0, none⟩) 0 0, .slice none 0 ca]).run Tryz.prog W = .ok (.slice (some ⟨w.heap.size, 0, none⟩) 0 0) W := fun W => append_none_run (P := Tryz.prog) 22 24 i0 Tryz.underlying22 hi0 (some ⟨w.heap.size, 0, none⟩) 0 0 (by omega) none ca _ W
    clear hs h
    have HO1 : Hid (((w.alloc (.cells #[] 24)).alloc (.cells #[.string ⟨#[114, 111, 111, 109]⟩, .int .i64 0, .int .i64 0, .int .i64 0, .bool false] 24)).ownsRow w.heap.size 24 5 (.slice (some ⟨w.heap.size, 0, none⟩) 0 0) 0 []) := World.ownsRow.alloc HO.out _
    have HB1 : Hid (Below w.heap.size w ((w.alloc (.cells #[] 24)).alloc (.cells #[.string ⟨#[114, 111, 111, 109]⟩, .int .i64 0, .int .i64 0, .int .i64 0, .bool false] 24))) := HB0.out.alloc (by simp) _
    have HNW : Hid (∀ j u, room.cs[j]? = some u → ((w.alloc (.cells #[] 24)).alloc (.cells #[.string ⟨#[114, 111, 111, 109]⟩, .int .i64 0, .int .i64 0, .int .i64 0, .bool false] 24)).cell? ((⟨w.heap.size + 1, 0, none⟩ : Addr).add j) = some u) := (show ∀ _ _, _ from fun j u hj => by
      have := World.news_of_block (cs := #[.string ⟨#[114, 111, 111, 109]⟩, .int .i64 0, .int .i64 0, .int .i64 0, .bool false]) (t := 24) (fr := (0, 0)) (heap_alloc_new (w.alloc (.cells #[] 24)) _) j u hj
      simpa using this)
    simp only [List.length_nil] at *
    go_wp2_with (at_builtin; refine wpList_append_own _ rfl _ _ 22 rfl w.heap.size 24 i0 _ 5 48 Tryz.underlying22 hi0 hz0 hzs hzb rfl (by omega) _ 0 [] rfl HO1.out ⟨w.heap.size + 1, 0, none⟩ 1 1 room.cs rfl rfl HNW.out (cs_one room) (by unfold maxLen; omega) (by omega) (by first | omega | (simp; omega)) ?_)
    intro v2 w2 r1 r2 r3
    have HO2 : Hid (Own w.heap.size w2 v2 ([] ++ [room])) := (show Own _ _ _ _ from own_snoc (L := []) (m := room) r1)
    have HB2 : Hid (Below w.heap.size w w2) := (show Below _ _ _ from below_grown (ms := []) HB1.out HO1.out r2 HB1.out.size)
    obtain ⟨p2, c2, hv2⟩ := HO2.out.slice
    subst hv2
    clear r1 r2 r3
    go_wp2_with fail
    exact HQN.out _ _ _ _ _ _ _ _ _ HO2 HB2
  | some a =>
    have HNS : Hid (∀ j u, (fl ms)[j]? = some u → (w.alloc (.cells #[] 24)).cell? (a.add j) = some u) := (show ∀ _ _, _ from fun j u hj => by
      rcases h with h | ⟨b, off, h, hb, hr⟩
      · subst h; simp [fl] at hj
      · cases h
        rw [Addr.add_lit, World.cell?_alloc_past (w := w) _ b _ hb]
        exact row_cell hr hj)
    clear hs h
    go_wp2_with (at_builtin; refine wpList_append_own _ rfl _ _ 22 rfl w.heap.size 24 i0 _ 5 48 Tryz.underlying22 hi0 hz0 hzs hzb rfl (by omega) _ 0 [] rfl HO.out a ms.length ca (fl ms) rfl (fl_len ms) HNS.out (fl_one ms) (by unfold maxLen; omega) (by omega) (by first | omega | simp) ?_)
    intro v1 w1 r1 r2 r3
    have HO1 : Hid (Own w.heap.size w1 v1 ms) := (show Own _ _ _ _ by first | exact r1 | simpa using r1)
    have HB1 : Hid (Below w.heap.size w w1) := (show Below _ _ _ from below_grown (ms := []) HB0.out HO.out r2 HB0.out.size)
    obtain ⟨p1, c1, hv1⟩ := HO1.out.slice
    subst hv1
    clear r1 r2 r3 HNS HO HB0
    have hsz := HB1.out.size
    have HNW : Hid (∀ j u, room.cs[j]? = some u → (w1.alloc (.cells #[.string ⟨#[114, 111, 111, 109]⟩, .int .i64 0, .int .i64 0, .int .i64 0, .bool false] 24)).cell? ((⟨w1.heap.size, 0, none⟩ : Addr).add j) = some u) := World.news_of_block (cs := #[.string ⟨#[114, 111, 111, 109]⟩, .int .i64 0, .int .i64 0, .int .i64 0, .bool false]) (t := 24) (fr := (0, 0)) (heap_alloc_new w1 _)
    have HOX : Hid ((w1.alloc (.cells #[.string ⟨#[114, 111, 111, 109]⟩, .int .i64 0, .int .i64 0, .int .i64 0, .bool false] 24)).ownsRow w.heap.size 24 5 (.slice p1 ms.length c1) ms.length (fl ms)) := World.ownsRow.alloc HO1.out _
    have HBX : Hid (Below w.heap.size w (w1.alloc (.cells #[.string ⟨#[114, 111, 111, 109]⟩, .int .i64 0, .int .i64 0, .int .i64 0, .bool false] 24))) := HB1.out.alloc hsz _
    go_wp2_with (at_builtin; refine wpList_append_own _ rfl _ _ 22 rfl w.heap.size 24 i0 _ 5 48 Tryz.underlying22 hi0 hz0 hzs hzb rfl (by omega) _ ms.length (fl ms) rfl HOX.out ⟨w1.heap.size, 0, none⟩ 1 1 room.cs rfl rfl HNW.out (cs_one room) (by unfold maxLen; omega) (by omega) (by first | omega | (simp; omega)) ?_)
    intro v2 w2 r1 r2 r3
    have HO2 : Hid (Own w.heap.size w2 v2 (ms ++ [room])) := (show Own _ _ _ _ from own_snoc (L := ms) (m := room) r1)
    have HB2 : Hid (Below w.heap.size w w2) := (show Below _ _ _ from below_grown (ms := ms) HBX.out HOX.out r2 HBX.out.size)
    obtain ⟨p2, c2, hv2⟩ := HO2.out.slice
    rw [List.length_append, List.length_singleton] at hv2
    subst hv2
    clear r1 r2 r3
    go_wp2_with fail
    exact HQN.out _ _ _ _ _ _ _ _ _ HO2 HB2

set_option maxHeartbeats 800000 in
set_option maxRecDepth 1000000 in
theorem rl5 {u0 u1 u3 u4 u5 u6 u7 u8 u9 u10 u11 u12 u13 u14 u15 u16 u17 u18 u19 u20 u21 u22 u23 u24 u25 u26 u27 u28 u29 u30 u31 u32 u33 u34 u35 u36 u37 u38 u39 u40 u41 u42 u43 u44 u45 u46 u47 u48 u49 u50 u51 u52 u53 u54 u55 u56 u57 u58 u59 u60 u61 u62 u63 u64 u65 u66 u67 u68 u69 u70 u71 u72 u73 u74 u75 u76 u77 u78 u79 u80 u81 u82 u83 u84 u85 u86 u87 u88 u89 u90 u91 u92 u93 u94 u95 u96 u97 u98 u99 u100 u101 u102 u103 u104 u105 u106 u107 u108 u109 u110 u111 u112 u113 u114 u115 u116 u117 u118 u119 u120 u121 u122 u123 u124 u125 u126 u127 u128 u129 u130 u131 u132 u133 u134 u135 u136 u137 u138 u139 u140 u141 u142 u143 u144 u145 u146 u147 u148 u149 u150 u151 u152 u153 u154 u155 u156 u157 u158 u159 u160 u161 u162 u163 u164 u165 u166 u167 u168 u169 u170 u171 : Value} (w : World) (rs : List Rum) (pa : Option Addr) (ca : Nat) (hl : RSl w (.slice pa rs.length ca) rs) (hn : rs.length ≤ 2000000) (Q : Exit → Act → World → Prop)
    (hN : ∀ (y50 y51 y52 : Value) (p : Option Addr) (c : Nat) (wx : World), Hid (ROwn w.heap.size wx (.slice p rs.length c) rs) → Hid (Below w.heap.size w wx) → Q .normal ⟨#[u0, u1, .slice pa rs.length ca, u3, u4, u5, u6, u7, u8, u9, u10, .slice p rs.length c, u12, u13, u14, u15, u16, u17, u18, u19, u20, u21, u22, u23, u24, u25, u26, u27, u28, u29, u30, u31, u32, u33, u34, u35, u36, u37, u38, u39, u40, u41, u42, u43, u44, u45, u46, u47, u48, u49, y50, y51, y52, u53, u54, u55, u56, u57, u58, u59, u60, u61, u62, u63, u64, u65, u66, u67, u68, u69, u70, u71, u72, u73, u74, u75, u76, u77, u78, u79, u80, u81, u82, u83, u84, u85, u86, u87, u88, u89, u90, u91, u92, u93, u94, u95, u96, u97, u98, u99, u100, u101, u102, u103, u104, u105, u106, u107, u108, u109, u110, u111, u112, u113, u114, u115, u116, u117, u118, u119, u120, u121, u122, u123, u124, u125, u126, u127, u128, u129, u130, u131, u132, u133, u134, u135, u136, u137, u138, u139, u140, u141, u142, u143, u144, u145, u146, u147, u148, u149, u150, u151, u152, u153, u154, u155, u156, u157, u158, u159, u160, u161, u162, u163, u164, u165, u166, u167, u168, u169, u170, u171], []⟩ wx) :
    Code.wp Tryz.prog ((Tryz.f3.body.bind (regIn 5)).getD .skip) Q ⟨#[u0, u1, .slice pa rs.length ca, u3, u4, u5, u6, u7, u8, u9, u10, u11, u12, u13, u14, u15, u16, u17, u18, u19, u20, u21, u22, u23, u24, u25, u26, u27, u28, u29, u30, u31, u32, u33, u34, u35, u36, u37, u38, u39, u40, u41, u42, u43, u44, u45, u46, u47, u48, u49, u50, u51, u52, u53, u54, u55, u56, u57, u58, u59, u60, u61, u62, u63, u64, u65, u66, u67, u68, u69, u70, u71, u72, u73, u74, u75, u76, u77, u78, u79, u80, u81, u82, u83, u84, u85, u86, u87, u88, u89, u90, u91, u92, u93, u94, u95, u96, u97, u98, u99, u100, u101, u102, u103, u104, u105, u106, u107, u108, u109, u110, u111, u112, u113, u114, u115, u116, u117, u118, u119, u120, u121, u122, u123, u124, u125, u126, u127, u128, u129, u130, u131, u132, u133, u134, u135, u136, u137, u138, u139, u140, u141, u142, u143, u144, u145, u146, u147, u148, u149, u150, u151, u152, u153, u154, u155, u156, u157, u158, u159, u160, u161, u162, u163, u164, u165, u166, u167, u168, u169, u170, u171], []⟩ w := by
  conv => arg 2; whnf
  have HQN : Hid _ := hN
  clear hN
  obtain ⟨i0, hi0, hz0, hzs, hzb⟩ := info_parts Tryz.infoR
  have HO : Hid ((w.alloc (.cells #[] 57)).ownsRow w.heap.size 57 6 (.slice (some ⟨w.heap.size, 0, none⟩) 0 0) 0 []) := World.ownsRow_made w #[] 0 (Nat.le_refl _) (by unfold maxLen; omega) rfl
  have HB0 : Hid (Below w.heap.size w (w.alloc (.cells #[] 57))) := (Below.refl _ _).alloc (Nat.le_refl _) _
  obtain ⟨pa', ca', he, hs, h⟩ := hl
  simp only [Value.slice.injEq, true_and] at he
  obtain ⟨rfl, rfl⟩ := he
  cases pa with
  | none =>
    have hms : rs = [] := by
      rcases h with h | ⟨b, off, h, _⟩
      · exact h
      · cases h
    subst hms
    have hrz : ∀ W, (Builtin.append_ #[25, 25] 25 #[.slice (some ⟨w.heap.size, 0, none⟩) 0 0, .slice none 0 ca]).run Tryz.prog W = .ok (.slice (some ⟨w.heap.size, 0, none⟩) 0 0) W := fun W => append_none_run (P := Tryz.prog) 25 57 i0 Tryz.underlying25 hi0 (some ⟨w.heap.size, 0, none⟩) 0 0 (by omega) none ca _ W
    clear hs h
    simp only [List.length_nil] at *
    go_wp2_with fail
    exact HQN.out _ _ _ _ _ _ HO HB0
  | some a =>
    have HNS : Hid (∀ j u, (flR rs)[j]? = some u → (w.alloc (.cells #[] 57)).cell? (a.add j) = some u) := (show ∀ _ _, _ from fun j u hj => by
      rcases h with h | ⟨b, off, h, hb, hr⟩
      · subst h; simp [flR] at hj
      · cases h
        rw [Addr.add_lit, World.cell?_alloc_past (w := w) _ b _ hb]
        exact rrow_cell hr hj)
    clear hs h
    go_wp2_with (at_builtin; refine wpList_append_own _ rfl _ _ 25 rfl w.heap.size 57 i0 _ 6 56 Tryz.underlying25 hi0 hz0 hzs hzb rfl (by omega) _ 0 [] rfl HO.out a rs.length ca (flR rs) rfl (flR_len rs) HNS.out (flR_one rs) (by unfold maxLen; omega) (by omega) (by first | omega | simp) ?_)
    intro v1 w1 r1 r2 r3
    have HO1 : Hid (ROwn w.heap.size w1 v1 rs) := (show ROwn _ _ _ _ by first | exact r1 | simpa using r1)
    have HB1 : Hid (Below w.heap.size w w1) := HB0.out.grown r2 HB0.out.size (fun k hk => (HO.out.lt k hk).1)
    obtain ⟨p1, c1, hv1⟩ := HO1.out.slice
    subst hv1
    clear r1 r2 r3 HNS HO HB0
    go_wp2_with fail
    exact HQN.out _ _ _ _ _ _ HO1 HB1

end Go.Proofs.YtigffgjkakalfaaGreatDoor

/- Lists of records in memory. -/
namespace Go.Proofs.YtigffgjkakalfaaGreatDoor
namespace Rc
open Go.RowKit

structure Rec where
  name : ByteArray
  typ : Int
  lasts : Int
  addr : Int
  text : ByteArray
  port : Int
  target : ByteArray

def dm : Rec := ⟨ByteArray.empty, 0, 0, 0, ByteArray.empty, 0, ByteArray.empty⟩
/-- Its texts are no longer than texts may be. -/
def Rec.ok (m : Rec) : Prop := m.name.size ≤ maxLen ∧ m.text.size ≤ maxLen ∧ m.target.size ≤ maxLen
theorem dm_ok : dm.ok := by simp [Rec.ok, dm]

def Row (w : World) (b off : Nat) (ms : List Rec) : Prop := ∀ j, j < ms.length →
  w.cell? ⟨b, off + j * 7, none⟩ = some (.string (ms.getD j dm).name) ∧ w.cell? ⟨b, off + j * 7 + 1, none⟩ = some (.int .i64 (ms.getD j dm).typ) ∧ w.cell? ⟨b, off + j * 7 + 2, none⟩ = some (.int .i64 (ms.getD j dm).lasts) ∧ w.cell? ⟨b, off + j * 7 + 3, none⟩ = some (.int .i64 (ms.getD j dm).addr) ∧ w.cell? ⟨b, off + j * 7 + 4, none⟩ = some (.string (ms.getD j dm).text) ∧ w.cell? ⟨b, off + j * 7 + 5, none⟩ = some (.int .i64 (ms.getD j dm).port) ∧ w.cell? ⟨b, off + j * 7 + 6, none⟩ = some (.string (ms.getD j dm).target)

/-- A slice's value, and what it holds in a world. -/
def Sl (w : World) (v : Value) (ms : List Rec) : Prop :=
  ∃ (a : Option Addr) (cap : Nat), v = .slice a ms.length cap ∧ (∀ j, (ms.getD j dm).ok) ∧
    (ms = [] ∨ ∃ b off, a = some ⟨b, off, none⟩ ∧ b < w.heap.size ∧ Row w b off ms)

def Rec.cs (m : Rec) : List Value := [.string m.name, .int .i64 m.typ, .int .i64 m.lasts, .int .i64 m.addr, .string m.text, .int .i64 m.port, .string m.target]
def fl (ms : List Rec) : List Value := ms.flatMap Rec.cs

theorem cs_len (m : Rec) : m.cs.length = 7 := rfl
theorem fl_cons (m : Rec) (r : List Rec) : fl (m :: r) = m.cs ++ fl r := by simp [fl]
theorem fl_append (a b : List Rec) : fl (a ++ b) = fl a ++ fl b := by simp [fl]
theorem fl_len : ∀ ms : List Rec, (fl ms).length = ms.length * 7
  | [] => rfl
  | m :: r => by rw [fl_cons, List.length_append, fl_len r, cs_len, List.length_cons]; omega
theorem fl_take : ∀ (ms : List Rec) (i : Nat), (fl ms).take (i * 7) = fl (ms.take i)
  | [], i => by simp [fl]
  | m :: r, 0 => by simp [fl]
  | m :: r, i + 1 => by
    rw [fl_cons, List.take_succ_cons, fl_cons, show (i + 1) * 7 = m.cs.length + i * 7 by rw [cs_len]; omega, List.take_length_add_append, fl_take r i]
theorem fl_drop : ∀ (ms : List Rec) (i : Nat), (fl ms).drop (i * 7) = fl (ms.drop i)
  | [], i => by simp [fl]
  | m :: r, 0 => by simp
  | m :: r, i + 1 => by
    rw [fl_cons, List.drop_succ_cons, show (i + 1) * 7 = m.cs.length + i * 7 by rw [cs_len]; omega, List.drop_length_add_append, fl_drop r i]
theorem cs_one (m : Rec) : ∀ v ∈ m.cs, v.oneCell' = true := by
  intro v hv; simp [Rec.cs] at hv; rcases hv with rfl | rfl | rfl | rfl | rfl | rfl | rfl <;> rfl
theorem fl_one (ms : List Rec) : ∀ v ∈ fl ms, v.oneCell' = true := by
  intro v hv
  obtain ⟨m, _, h⟩ := List.mem_flatMap.1 hv
  exact cs_one m v h
theorem fl_get (ms : List Rec) (j : Nat) (hj : j < ms.length) (t : Nat) (ht : t < 7) : (fl ms)[j * 7 + t]? = (ms.getD j dm).cs[t]? := by
  induction ms generalizing j with
  | nil => simp at hj
  | cons m r ih =>
    rw [fl_cons]
    cases j with
    | zero => rw [List.getElem?_append_left (by rw [cs_len]; omega)]; simp
    | succ j =>
      rw [List.getElem?_append_right (by rw [cs_len]; omega), cs_len, show (j + 1) * 7 + t - 7 = j * 7 + t by omega, ih j (by simpa using hj)]
      simp
theorem fl_set (ms : List Rec) (p : Nat) (hp : p < ms.length) (m : Rec) : ((((((((fl ms).set (p * 7) (.string m.name)).set (p * 7 + 1) (.int .i64 m.typ)).set (p * 7 + 2) (.int .i64 m.lasts)).set (p * 7 + 3) (.int .i64 m.addr)).set (p * 7 + 4) (.string m.text)).set (p * 7 + 5) (.int .i64 m.port)).set (p * 7 + 6) (.string m.target)) = fl (ms.set p m) := by
  induction ms generalizing p with
  | nil => simp at hp
  | cons x r ih =>
    cases p with
    | zero => simp [fl, Rec.cs]
    | succ p =>
      have ih' := ih p (by simpa using hp)
      rw [List.set_cons_succ, fl_cons, fl_cons, ← ih']
      simp only [Nat.add_mul, Nat.one_mul]
      have e : ∀ (l : List Value) (k : Nat) (v : Value), (x.cs ++ l).set (k + 7) v = x.cs ++ l.set k v := fun l k v => by
        rw [List.set_append, if_neg (by rw [cs_len]; omega), cs_len, Nat.add_sub_cancel]
      have c : ∀ i : Nat, p * 7 + 7 + i = (p * 7 + i) + 7 := fun i => by omega
      simp only [c]
      rw [e, e, e, e, e, e, e]

abbrev Own (base : Nat) (w : World) (v : Value) (ms : List Rec) : Prop := w.ownsRow base 51 7 v ms.length (fl ms)

theorem own_of {base g G : Nat} {w : World} {cur : Array Value} {ms : List Rec} (hb : base ≤ g) (hg : w.heap[g]? = some (.cells cur 51 (0, 0))) (hs : cur.size = G * 7) (hn : ms.length ≤ G) (hG : G ≤ maxLen) (ht : cur.toList.take (ms.length * 7) = fl ms) :
    Own base w (.slice (some ⟨g, 0, none⟩) ms.length G) ms := ⟨fl_len ms, .inr ⟨g, G, cur, rfl, hb, hg, hn, hG, hs, ht⟩⟩

/-- What a call owns is a slice as any. -/
theorem Own.sl {base : Nat} {w : World} {v : Value} {ms : List Rec} (h : Own base w v ms) (hs : ∀ j, (ms.getD j dm).ok) : Sl w v ms := by
  rcases h.2 with ⟨rfl, h0⟩ | ⟨g, c, cur, rfl, hbg, hg, hnc, hcm, hcs, htake⟩
  · exact ⟨none, 0, by rw [h0], hs, .inl (List.eq_nil_of_length_eq_zero h0)⟩
  · refine ⟨_, c, rfl, hs, .inr ⟨g, 0, rfl, (Array.getElem?_eq_some_iff.1 hg).1, fun j hj => ?_⟩⟩
    have hc : ∀ t, t < 7 → w.cell? ⟨g, 0 + j * 7 + t, none⟩ = (ms.getD j dm).cs[t]? := fun t ht => by
      rw [cellsAt hg, ← fl_get ms j hj t ht, ← htake, List.getElem?_take_of_lt (by omega)]; simp
    exact ⟨hc 0 (by omega), hc 1 (by omega), hc 2 (by omega), hc 3 (by omega), hc 4 (by omega), hc 5 (by omega), hc 6 (by omega)⟩

theorem Own.below {base : Nat} {w w' : World} {v : Value} {ms : List Rec} (h : Own base w v ms) (hb : Below w.heap.size w w') : Own base w' v ms := by
  rcases h.2 with ⟨rfl, h0⟩ | ⟨g, c, cur, rfl, hbg, hg, hnc, hcm, hcs, htake⟩
  · exact ⟨h.1, .inl ⟨rfl, h0⟩⟩
  · have hlt : g < w.heap.size := (Array.getElem?_eq_some_iff.1 hg).1
    exact ⟨h.1, .inr ⟨g, c, cur, rfl, hbg, (hb.block g hlt).trans hg, hnc, hcm, hcs, htake⟩⟩

theorem Own.lt {base : Nat} {w : World} {v : Value} {ms : List Rec} (h : Own base w v ms) (k : Nat) (hk : v.ownBlock = some k) : base ≤ k ∧ k < w.heap.size := World.ownsRow.lt h k hk

theorem below_grown {base : Nat} {w w1 w2 : World} {v : Value} {ms : List Rec} (hb : Below base w w1) (h : Own base w1 v ms) (hg : w1.grownBy w2 v.ownBlock) (hbase : base ≤ w1.heap.size) : Below base w w2 :=
  hb.grown hg hbase (fun k hk => (h.lt k hk).1)

theorem own_cells {base g c : Nat} {w : World} {ms : List Rec} (h : Own base w (.slice (some ⟨g, 0, none⟩) ms.length c) ms) (j : Nat) (hj : j < ms.length) :
    w.cell? ⟨g, j * 7, none⟩ = some (.string (ms.getD j dm).name) ∧ w.cell? ⟨g, j * 7 + 1, none⟩ = some (.int .i64 (ms.getD j dm).typ) ∧ w.cell? ⟨g, j * 7 + 2, none⟩ = some (.int .i64 (ms.getD j dm).lasts) ∧ w.cell? ⟨g, j * 7 + 3, none⟩ = some (.int .i64 (ms.getD j dm).addr) ∧ w.cell? ⟨g, j * 7 + 4, none⟩ = some (.string (ms.getD j dm).text) ∧ w.cell? ⟨g, j * 7 + 5, none⟩ = some (.int .i64 (ms.getD j dm).port) ∧ w.cell? ⟨g, j * 7 + 6, none⟩ = some (.string (ms.getD j dm).target) := by
  rcases h.2 with ⟨h1, _⟩ | ⟨g', c', cur, h1, hbg, hg, hnc, hcm, hcs, htake⟩
  · cases h1
  · simp only [Value.slice.injEq, Option.some.injEq, Addr.mk.injEq] at h1
    obtain ⟨⟨rfl, _, _⟩, _, _⟩ := h1
    have hc : ∀ t, t < 7 → w.cell? ⟨g, j * 7 + t, none⟩ = (ms.getD j dm).cs[t]? := fun t ht => by
      rw [cellsAt hg, ← fl_get ms j hj t ht, ← htake, List.getElem?_take_of_lt (by omega)]; simp
    exact ⟨hc 0 (by omega), hc 1 (by omega), hc 2 (by omega), hc 3 (by omega), hc 4 (by omega), hc 5 (by omega), hc 6 (by omega)⟩

theorem own_form {base : Nat} {w : World} {v : Value} {ms : List Rec} (h : Own base w v ms) (p : Nat) (hp : p < ms.length) : ∃ g c, v = .slice (some ⟨g, 0, none⟩) ms.length c := by
  rcases h.2 with ⟨_, h0⟩ | ⟨g, c, cur, h1, _⟩
  · omega
  · exact ⟨g, c, h1⟩

theorem own_set {base g c p : Nat} {W : World} {ms : List Rec} (h : Own base W (.slice (some ⟨g, 0, none⟩) ms.length c) ms) (hp : p < ms.length) (m : Rec) :
    Own base (((((((W.setCell ⟨g, p * 7, none⟩ (.string m.name)).setCell ⟨g, p * 7 + 1, none⟩ (.int .i64 m.typ)).setCell ⟨g, p * 7 + 2, none⟩ (.int .i64 m.lasts)).setCell ⟨g, p * 7 + 3, none⟩ (.int .i64 m.addr)).setCell ⟨g, p * 7 + 4, none⟩ (.string m.text)).setCell ⟨g, p * 7 + 5, none⟩ (.int .i64 m.port)).setCell ⟨g, p * 7 + 6, none⟩ (.string m.target)) (.slice (some ⟨g, 0, none⟩) ms.length c) (ms.set p m) := by
  have h1 := World.ownsRow.stored h (p * 7) (.string m.name)
  have h2 := World.ownsRow.stored h1.1 (p * 7 + 1) (.int .i64 m.typ)
  have h3 := World.ownsRow.stored h2.1 (p * 7 + 2) (.int .i64 m.lasts)
  have h4 := World.ownsRow.stored h3.1 (p * 7 + 3) (.int .i64 m.addr)
  have h5 := World.ownsRow.stored h4.1 (p * 7 + 4) (.string m.text)
  have h6 := World.ownsRow.stored h5.1 (p * 7 + 5) (.int .i64 m.port)
  have h7 := World.ownsRow.stored h6.1 (p * 7 + 6) (.string m.target)
  have e := h7.1
  rw [fl_set ms p hp m] at e
  show World.ownsRow _ _ _ _ _ (ms.set p m).length _
  rw [List.length_set]
  exact e

theorem Sl.below {w w' : World} {v : Value} {ms : List Rec} (h : Sl w v ms) (hb : Below w.heap.size w w') : Sl w' v ms := by
  obtain ⟨a, cap, rfl, hs, h⟩ := h
  refine ⟨a, cap, rfl, hs, ?_⟩
  rcases h with h | ⟨b, off, rfl, hlt, hr⟩
  · exact .inl h
  · refine .inr ⟨b, off, rfl, Nat.lt_of_lt_of_le hlt hb.size, fun j hj => ?_⟩
    obtain ⟨hc, _⟩ := bcell hb
    obtain ⟨c0, c1, c2, c3, c4, c5, c6⟩ := hr j hj
    exact ⟨(hc _ _ hlt).trans c0, (hc _ _ hlt).trans c1, (hc _ _ hlt).trans c2, (hc _ _ hlt).trans c3, (hc _ _ hlt).trans c4, (hc _ _ hlt).trans c5, (hc _ _ hlt).trans c6⟩

theorem Row.later {w w' : World} {b off : Nat} {ms : List Rec} (hr : Row w b off ms) (hb : Below w.heap.size w w') (hlt : b < w.heap.size) : Row w' b off ms := fun j hj => by
  obtain ⟨hc, _⟩ := bcell hb
  obtain ⟨c0, c1, c2, c3, c4, c5, c6⟩ := hr j hj
  exact ⟨(hc _ _ hlt).trans c0, (hc _ _ hlt).trans c1, (hc _ _ hlt).trans c2, (hc _ _ hlt).trans c3, (hc _ _ hlt).trans c4, (hc _ _ hlt).trans c5, (hc _ _ hlt).trans c6⟩

theorem Own.mono {base base' : Nat} {w : World} {v : Value} {ms : List Rec} (h : Own base w v ms) (hb : base' ≤ base) : Own base' w v ms := by
  rcases h.2 with ⟨rfl, h0⟩ | ⟨g, c, cur, rfl, hbg, hg, hnc, hcm, hcs, htake⟩
  · exact ⟨h.1, .inl ⟨rfl, h0⟩⟩
  · exact ⟨h.1, .inr ⟨g, c, cur, rfl, Nat.le_trans hb hbg, hg, hnc, hcm, hcs, htake⟩⟩

theorem own_nil (base : Nat) (w : World) : Own base w (.slice none 0 0) [] := World.ownsRow_nil w base 51 7

theorem ns_mem {ms : List Rec} (h : ∀ j, (ms.getD j dm).ok) : ∀ m ∈ ms, (m).ok := by
  intro m hm
  obtain ⟨j, hj, rfl⟩ := List.getElem_of_mem hm
  have := h j
  simpa [List.getD, List.getElem?_eq_getElem hj] using this
theorem ns_get {ms : List Rec} (h : ∀ m ∈ ms, (m).ok) : ∀ j, (ms.getD j dm).ok := by
  intro j
  by_cases hj : j < ms.length
  · have := h ms[j] (List.getElem_mem hj)
    simpa [List.getD, List.getElem?_eq_getElem hj] using this
  · rw [List.getD, List.getElem?_eq_none (Nat.le_of_not_lt hj)]; exact dm_ok

theorem own_names {base : Nat} {w : World} {v : Value} {ms : List Rec} (h : Own base w v ms) (hs : ∀ m ∈ ms, (m).ok) : Sl w v ms := h.sl (ns_get hs)

theorem sl_one (w : World) (b cap : Nat) (m : Rec) (hm : (m).ok) (hg : w.heap[b]? = some (.cells #[.string m.name, .int .i64 m.typ, .int .i64 m.lasts, .int .i64 m.addr, .string m.text, .int .i64 m.port, .string m.target] 51 (0, 0))) : Sl w (.slice (some ⟨b, 0, none⟩) 1 cap) [m] := by
  refine ⟨_, cap, rfl, ns_get (fun x hx => by simp at hx; subst hx; exact hm), .inr ⟨b, 0, rfl, (Array.getElem?_eq_some_iff.1 hg).1, fun j hj => ?_⟩⟩
  have : j = 0 := by simpa using hj
  subst this
  exact ⟨cellsAt hg (0 + 0 * 7), cellsAt hg (0 + 0 * 7 + 1), cellsAt hg (0 + 0 * 7 + 2), cellsAt hg (0 + 0 * 7 + 3), cellsAt hg (0 + 0 * 7 + 4), cellsAt hg (0 + 0 * 7 + 5), cellsAt hg (0 + 0 * 7 + 6)⟩

theorem own_snoc {base : Nat} {w : World} {v : Value} {L : List Rec} {m : Rec} (h : w.ownsRow base 51 7 v (L.length + 1) (fl L ++ m.cs)) : Own base w v (L ++ [m]) := by
  have e : fl (L ++ [m]) = fl L ++ m.cs := by rw [fl_append, fl_cons]; simp [fl]
  show w.ownsRow base 51 7 v (L ++ [m]).length (fl (L ++ [m]))
  rw [e, List.length_append]
  exact h

end Rc
end Go.Proofs.YtigffgjkakalfaaGreatDoor

/- What is spoilt, and nothing else is changed. -/
namespace Go.Proofs.YtigffgjkakalfaaGreatDoor
open Go.RowKit

/-- Nothing but the block of a slice changed. -/
structure Chg (v : Value) (w w' : World) : Prop where
  os : w'.os = w.os
  tape : w'.tape = w.tape
  output : w'.output = w.output
  size : w'.heap.size = w.heap.size
  block : ∀ k : Nat, some k ≠ v.ownBlock → w'.heap[k]? = w.heap[k]?
theorem Chg.refl (v : Value) (w : World) : Chg v w w := ⟨rfl, rfl, rfl, rfl, fun _ _ => rfl⟩
theorem Chg.setCell {v x : Value} {w W : World} {g i : Nat} (h : Chg v w W) (hg : v.ownBlock = some g) : Chg v w (W.setCell ⟨g, i, none⟩ x) :=
  ⟨h.os, h.tape, h.output, by simpa using h.size, fun k hk => (Below.heap_setCell W _ x k (fun e => hk (by rw [hg]; simpa using e))).trans (h.block k hk)⟩
theorem Chg.below {v : Value} {B : Nat} {w0 W W' : World} (h : Chg v W W') (hb : Below B w0 W) (hv : ∀ k, v.ownBlock = some k → B ≤ k) : Below B w0 W' :=
  ⟨h.os.trans hb.os, h.tape.trans hb.tape, h.output.trans hb.output, by rw [h.size]; exact hb.size, fun k hk => (h.block k (fun e => by have := hv k e.symm; omega)).trans (hb.block k hk)⟩
theorem Chg.own {u v : Value} {B : Nat} {W W' : World} {ms : List Mem} (h : Chg v W W') (ho : Own B W u ms) (hne : ∀ k, u.ownBlock = some k → v.ownBlock ≠ some k) : Own B W' u ms := by
  rcases ho.2 with ⟨rfl, h0⟩ | ⟨g, c, cur, rfl, hbg, hg, hr⟩
  · exact ⟨ho.1, .inl ⟨rfl, h0⟩⟩
  · exact ⟨ho.1, .inr ⟨g, c, cur, rfl, hbg, (h.block g (fun e => hne g rfl e.symm)).trans hg, hr⟩⟩
theorem Chg.ownR {u v : Value} {B : Nat} {W W' : World} {ms : List Rc.Rec} (h : Chg v W W') (ho : Rc.Own B W u ms) (hne : ∀ k, u.ownBlock = some k → v.ownBlock ≠ some k) : Rc.Own B W' u ms := by
  rcases ho.2 with ⟨rfl, h0⟩ | ⟨g, c, cur, rfl, hbg, hg, hr⟩
  · exact ⟨ho.1, .inl ⟨rfl, h0⟩⟩
  · exact ⟨ho.1, .inr ⟨g, c, cur, rfl, hbg, (h.block g (fun e => hne g rfl e.symm)).trans hg, hr⟩⟩

set_option maxHeartbeats 1600000 in
set_option maxRecDepth 100000 in
theorem spoilM_chg (B : Nat) (v : Value) (ms : List Mem) (w : World) (ho : Own B w v ms) (hn : ms.length ≤ 100000) :
    Calls Tryz.prog 18 #[v] w fun e w' => e = .returned (.tuple #[]) ∧ Chg v w w' := by
  rcases ho.2 with ⟨rfl, h0⟩ | ⟨g, c, cur, rfl, hbg, _⟩
  · clear ho
    go_enter Tryz.func18, Tryz.ntmps18
    go_wp2_with fail
    go_loopw [2] (fun i wr => i = .int .i64 0 ∧ wr = w) (fun _ _ => 0)
    case atStart => exact ⟨rfl, rfl⟩
    case round =>
      obtain ⟨rfl, hw⟩ := hrel
      subst hw
      go_wp2_with fail
      simp only [bodyPost, results, Tryz.results18]
      exact ⟨trivial, .tuple #[], by simp, rfl, Chg.refl _ _⟩
  · obtain ⟨n, hN⟩ : ∃ n, ms.length = n := ⟨_, rfl⟩
    have HN : Hid (ms.length = n) := hN
    have HO : Hid (Own B w (.slice (some ⟨g, 0, none⟩) n c) ms) := (show Own _ _ _ _ by rw [← hN]; exact ho)
    have hn2 : n ≤ 100000 := by omega
    rw [hN]
    clear hN ho hn
    go_enter Tryz.func18, Tryz.ntmps18
    go_wp2_with fail
    go_loopw [2] (fun i wr => ∃ (k : Nat) (L : List Mem), k ≤ n ∧ i = .int .i64 k ∧ Hid (L.length = n) ∧ Hid (Own B wr (.slice (some ⟨g, 0, none⟩) n c) L) ∧ Hid (Chg (.slice (some ⟨g, 0, none⟩) n c) w wr)) (fun i _ => n - (intOf i).toNat)
    case atStart => exact ⟨0, ms, Nat.zero_le _, rfl, HN, HO, Chg.refl _ _⟩
    case round =>
      obtain ⟨k, L, hk, rfl, HL, HOL, HB⟩ := hrel
      by_cases hlt : k < n
      · have hd : decide ((k : Int) < (n : Int)) = true := by simp; omega
        have HOX : Hid (Own B wr (.slice (some ⟨g, 0, none⟩) L.length c) L) := (show Own _ _ _ _ by rw [HL.out]; exact HOL.out)
        obtain ⟨c0, c1, c2, c3, c4⟩ := own_cells HOX.out k (by rw [HL.out]; exact hlt)
        have z0 : wr.frozen? ⟨g, k * 5, none⟩ = false := own_free HOX.out 0
        have z1 : wr.frozen? ⟨g, k * 5 + 1, none⟩ = false := own_free HOX.out 1
        have z2 : wr.frozen? ⟨g, k * 5 + 2, none⟩ = false := own_free HOX.out 2
        have z3 : wr.frozen? ⟨g, k * 5 + 3, none⟩ = false := own_free HOX.out 3
        have z4 : wr.frozen? ⟨g, k * 5 + 4, none⟩ = false := own_free HOX.out 4
        have HS : Hid (Own B _ (.slice (some ⟨g, 0, none⟩) L.length c) (L.set k ⟨⟨#[63]⟩, 0, 0, 0, false⟩)) := own_set HOX.out (by rw [HL.out]; exact hlt) ⟨⟨#[63]⟩, 0, 0, 0, false⟩
        have hi0 : (0 : Int) ≤ (k : Int) := by omega
        have hi1 : (k : Int) < (n : Int) := by omega
        have hi2 : ((k : Int)).toNat = k := by omega
        generalize L.getD k dm = x at *
        go_wp2_with fail
        refine ⟨⟨k + 1, L.set k ⟨⟨#[63]⟩, 0, 0, 0, false⟩, by omega, by go_num, by rw [List.length_set]; exact HL, ?_, ?_⟩, by simp [intOf]; omega⟩
        · have := HS.out
          rw [HL.out] at this
          exact this
        · exact ((((HB.out.setCell rfl).setCell rfl).setCell rfl).setCell rfl).setCell rfl
      · have hd : decide ((k : Int) < (n : Int)) = false := by simp; omega
        go_wp2_with fail
        simp only [bodyPost, results, Tryz.results18]
        exact ⟨trivial, .tuple #[], by simp, rfl, HB.out⟩

theorem comb_self (x : Option Mem) : comb x x = x := by cases x <;> simp [comb, mx]
theorem joinL_self {a : List Mem} (h : Rise a) : joinL a a = a :=
  rise_ext (joinL_rise a a h) h fun n => by rw [getM_join a a h h]; exact comb_self _
theorem join_same {ms : List Mem} (h : chk ms = 0) : joinE ms ms = 0 ∧ joinL ms ms = ms := by
  obtain ⟨h1, h2, _⟩ := chk_zero h
  have h3 := joinL_self h2
  refine ⟨?_, h3⟩
  unfold joinE chkTwo
  rw [if_pos h, h3, if_pos h, if_neg (by omega)]

end Go.Proofs.YtigffgjkakalfaaGreatDoor

