/- MJ -/
import Derived.Test.YtdfkpehggecbaaaGreatDoorV15
import Derived.Laws.StructEq
/- Equal, Clone, Hear, Join. -/
namespace Go.Proofs.YtdfkpehggecbaaaGreatDoor
open Go.RowKit

def sameM (x y : Mem) : Bool := x.name.toList == y.name.toList && (x.state == y.state && (x.life == y.life && (x.addr == y.addr && x.server == y.server)))

theorem sameM_iff (x y : Mem) : sameM x y = true ↔ x = y := by
  obtain ⟨n1, s1, l1, a1, v1⟩ := x
  obtain ⟨n2, s2, l2, a2, v2⟩ := y
  simp only [sameM, Bool.and_eq_true, beq_iff_eq, Mem.mk.injEq, Lib.toList_data]
  constructor
  · rintro ⟨h1, h2, h3, h4, h5⟩; exact ⟨ba_ext h1, h2, h3, h4, h5⟩
  · rintro ⟨rfl, h2, h3, h4, h5⟩; exact ⟨rfl, h2, h3, h4, h5⟩

theorem eqIn55 (m1 m2 : Mem) (w : World) : (Op.equalIn 10000 55 (.agg #[.string m1.name, .int .i64 m1.state, .int .i64 m1.life, .int .i64 m1.addr, .bool m1.server]) (.agg #[.string m2.name, .int .i64 m2.state, .int .i64 m2.life, .int .i64 m2.addr, .bool m2.server])).run Tryz.prog w = .ok (sameM m1 m2) w := by
  have u3 := Tryz.underlying3
  have u4 := Tryz.underlying4
  have u9 := Tryz.underlying9
  have a3 := Tryz.isAgg3
  have z3 := Tryz.sizeOf3
  have a4 := Tryz.isAgg4
  have z4 := Tryz.sizeOf4
  have a9 := Tryz.isAgg9
  have z9 := Tryz.sizeOf9
  have hS : Tryz.prog.underlying 55 = some (.struct (Tryz.prog.fieldsOf 55)) := by kernel_rfl
  have hp : Tryz.prog.stoodInHeld 55 = false := by kernel_rfl
  rw [show (10000 : Nat) = 9999 + 1 from rfl, run_equalIn_agg w 9999 55 _ _ hS hp]
  simp only [Program.fieldsOf, Tryz.underlying55]
  go_simp
  unfold sameM
  by_cases h1 : m1.name.toList = m2.name.toList <;> by_cases h2 : m1.state = m2.state <;> by_cases h3 : m1.life = m2.life <;> by_cases h4 : m1.addr = m2.addr <;> by_cases h5 : m1.server = m2.server <;> simp [h1, h2, h3, h4, h5]

theorem neq55 (m1 m2 : Mem) (w : World) : Sem.run Tryz.prog (binOp .neq 55 (.agg #[.string m1.name, .int .i64 m1.state, .int .i64 m1.life, .int .i64 m1.addr, .bool m1.server]) (.agg #[.string m2.name, .int .i64 m2.state, .int .i64 m2.life, .int .i64 m2.addr, .bool m2.server])) w = .ok (.bool (!sameM m1 m2)) w := by
  rw [run_neq_struct, eqIn55]
  rfl

set_option maxHeartbeats 800000 in
theorem same_any (a b : List Mem) (va vb : Value) (w : World) (ha : Sl w va a) (hb : Sl w vb b) (hsm : a.length ≤ 1000) :
    Calls Tryz.prog 40 #[va, vb] w fun e w' => ∃ r : Bool, e = .returned (.bool r) ∧ (r = true ↔ a = b) ∧ Below w.heap.size w w' := by
  obtain ⟨pa, ca, rfl, _, ha⟩ := ha
  obtain ⟨pv, cb, rfl, _, hb⟩ := hb
  by_cases hl : a.length = b.length
  · have HA : Hid (a = [] ∨ ∃ b off, pa = some ⟨b, off, none⟩ ∧ b < w.heap.size ∧ Row w b off a) := ha
    have HB : Hid (b = [] ∨ ∃ b_1 off, pv = some ⟨b_1, off, none⟩ ∧ b_1 < w.heap.size ∧ Row w b_1 off b) := hb
    have HL : Hid (a.length = b.length) := hl
    clear ha hb
    rw [← hl]
    clear hl
    generalize hna : a.length = n at *
    have HN : Hid (a.length = n) := hna
    clear hna
    have hg55 : Tryz.prog.eqGuardType Tryz.prog.depth 55 = false := by kernel_rfl
    go_enter Tryz.func40, Tryz.ntmps40
    go_wp2_with fail
    go_loopw [5] (fun i w' => ∃ k : Nat, k ≤ n ∧ i = .int .i64 k ∧ Below w.heap.size w w' ∧ Hid (∀ j, j < k → a.getD j dm = b.getD j dm)) (fun i _ => n - (intOf i).toNat)
    case atStart => exact ⟨0, Nat.zero_le _, rfl, Below.refl _ _, fun j h => absurd h (Nat.not_lt_zero _)⟩
    case round =>
      obtain ⟨k, hk, rfl, hbl, hz⟩ := hrel
      obtain ⟨hbc, hbf⟩ := bcell hbl
      have hsz := hbl.size
      by_cases hlt : k < n
      · obtain ⟨b1, o1, hp1, hl1, hr1⟩ : ∃ b off, pa = some ⟨b, off, none⟩ ∧ b < w.heap.size ∧ Row w b off a := by
          rcases HA.out with h | h
          · have := HN.out; rw [h] at this; simp at this; omega
          · exact h
        obtain ⟨b2, o2, hp2, hl2, hr2⟩ : ∃ b_1 off, pv = some ⟨b_1, off, none⟩ ∧ b_1 < w.heap.size ∧ Row w b_1 off b := by
          rcases HB.out with h | h
          · have h2 := HN.out; have h3 := HL.out; rw [h] at h3; simp at h3; omega
          · exact h
        subst hp1
        subst hp2
        obtain ⟨c0, c1, c2, c3, c4⟩ := hr1 k (by rw [HN.out]; exact hlt)
        obtain ⟨d0, d1, d2, d3, d4⟩ := hr2 k (by have h2 := HN.out; have h3 := HL.out; omega)
        clear hr1 hr2
        have HF : Hid (a.getD k dm ≠ b.getD k dm → a ≠ b) := fun h e => h (by rw [e])
        have HZ : Hid (a.getD k dm = b.getD k dm → ∀ j, j < k + 1 → a.getD j dm = b.getD j dm) := fun h j hj => by
          rcases Nat.lt_succ_iff_lt_or_eq.1 hj with h2 | rfl
          · exact hz.out j h2
          · exact h
        have hneq := neq55 (a.getD k dm) (b.getD k dm)
        generalize a.getD k dm = m1 at *
        generalize b.getD k dm = m2 at *
        rcases hs : sameM m1 m2 with _ | _
        · rw [hs] at hneq
          have hne : Hid (a ≠ b) := HF.out (fun e => by rw [← sameM_iff, hs] at e; cases e)
          go_wp2_with fail
          go_quiet (fail)
          go_wp2_with fail
          go_ret
          exact ⟨false, rfl, ⟨fun h => (by cases h), fun h => absurd h hne.out⟩, below_drewN hbl _⟩
        · rw [hs] at hneq
          have heq : Hid (m1 = m2) := (sameM_iff m1 m2).1 hs
          go_wp2_with fail
          go_quiet (fail)
          go_wp2_with fail
          go_roundw
          case rel => exact ⟨k + 1, by omega, by go_num, below_drewN hbl _, HZ.out heq.out⟩
          case measure => simp [intOf]; omega
      · have hfin : Hid (a = b) := by
          apply List.ext_getElem (HN.out.trans HL.out)
          intro j h1 h2
          have := hz.out j (by have := HN.out; omega)
          simpa [List.getD, List.getElem?_eq_getElem h1, List.getElem?_eq_getElem h2] using this
        go_wp2_with fail
        go_ret
        exact ⟨true, rfl, ⟨fun _ => hfin.out, fun _ => rfl⟩, hbl⟩
  · have hne : ((a.length : Int) != (b.length : Int)) = true := by rw [bne_iff_ne]; omega
    have HF : Hid (a ≠ b) := fun e => hl (by rw [e])
    clear ha hb
    go_enter Tryz.func40, Tryz.ntmps40
    go_wp2_with fail
    go_ret
    exact ⟨false, rfl, ⟨fun h => (by cases h), fun h => absurd h HF.out⟩, Below.refl _ _⟩


end Go.Proofs.YtdfkpehggecbaaaGreatDoor

