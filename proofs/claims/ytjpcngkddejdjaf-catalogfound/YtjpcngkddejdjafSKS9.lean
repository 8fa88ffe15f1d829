
/- The document's own Join of services; the law CatalogJoins. -/
import Derived.Test.YtjpcngkddejdjafSKSP
import Derived.Test.YtjpcngkddejdjafSK9A
namespace Go.Proofs.Ytjpcngkddejdjaf
namespace Sv
open Go.RowKit

/-- The place of a node's id; -1: there is none. -/
def AtI (ms : List Svc) (node idn : ByteArray) (r : Int) : Prop :=
  (∃ k : Nat, k < ms.length ∧ r = k ∧ (ms.getD k dm).node = node ∧ (ms.getD k dm).idn = idn) ∨ (r = -1 ∧ ∀ j, j < ms.length → ¬ ((ms.getD j dm).node = node ∧ (ms.getD j dm).idn = idn))

set_option maxHeartbeats 800000 in
theorem refAt_any (ms : List Svc) (v : Value) (node idn : ByteArray) (w : World) (hv : Sl w v ms) (hn : ms.length ≤ 1000000) :
    Calls Try.prog 11 #[v, .string node, .string idn] w fun e w' => ∃ r : Int, e = .returned (.int .i64 r) ∧ Hid (AtI ms node idn r) ∧ w' = w := by
  obtain ⟨pa, ca, rfl, _, ha⟩ := hv
  have HA : Hid (ms = [] ∨ ∃ b off, pa = some ⟨b, off, none⟩ ∧ b < w.heap.size ∧ Row w b off ms) := ha
  clear ha
  generalize hna : ms.length = n at *
  have HN : Hid (ms.length = n) := hna
  clear hna
  go_enter Try.func11, Try.ntmps11
  go_wp2_with fail
  go_loop [7] (fun i => ∃ k : Nat, k ≤ n ∧ i = .int .i64 k ∧ Hid (∀ j, j < k → ¬ ((ms.getD j dm).node = node ∧ (ms.getD j dm).idn = idn))) (fun i => n - (intOf i).toNat)
  case atStart => exact ⟨0, Nat.zero_le _, rfl, fun j h => absurd h (Nat.not_lt_zero _)⟩
  case round =>
    obtain ⟨k, hk, rfl, hz⟩ := hrel
    by_cases hlt : k < n
    · obtain ⟨b1, o1, hp1, hl1, hr1⟩ : ∃ b off, pa = some ⟨b, off, none⟩ ∧ b < w.heap.size ∧ Row w b off ms := by
        rcases HA.out with h | h
        · have := HN.out; rw [h] at this; simp at this; omega
        · exact h
      subst hp1
      obtain ⟨c0, c1, c2, c3, c4, c5, c6, c7, c8⟩ := hr1 k (by rw [HN.out]; exact hlt)
      clear hr1
      have HF : Hid ((ms.getD k dm).node = node → (ms.getD k dm).idn = idn → AtI ms node idn (k : Int)) := fun h h2 => .inl ⟨k, by rw [HN.out]; exact hlt, rfl, h, h2⟩
      have HZ : Hid (¬ ((ms.getD k dm).node = node ∧ (ms.getD k dm).idn = idn) → ∀ j, j < k + 1 → ¬ ((ms.getD j dm).node = node ∧ (ms.getD j dm).idn = idn)) := fun h j hj => by
        rcases Nat.lt_succ_iff_lt_or_eq.1 hj with h2 | rfl
        · exact hz.out j h2
        · exact h
      generalize ms.getD k dm = m at *
      obtain ⟨mn, mi, m2, m3, m4, m5, m6, m7, m8⟩ := m
      simp only at c0 c1
      by_cases he : mn = node
      · subst he
        by_cases he2 : mi = idn
        · subst he2
          have HF2 : Hid (AtI ms mn mi (k : Int)) := HF.out rfl rfl
          clear HF HZ
          go_wp2_with fail
          go_ret
          exact ⟨k, rfl, HF2, rfl⟩
        · obtain ⟨h1, h2⟩ := beq_name he2
          have HE : Hid (¬ mi = idn) := he2
          clear he2
          go_wp2_with fail
          go_round
          case rel => exact ⟨k + 1, by omega, by go_num, HZ.out (fun h => HE.out h.2)⟩
          case measure => simp [intOf]; omega
      · obtain ⟨h1, h2⟩ := beq_name he
        have HE : Hid (¬ mn = node) := he
        clear he
        go_wp2_with fail
        go_round
        case rel => exact ⟨k + 1, by omega, by go_num, HZ.out (fun h => HE.out h.1)⟩
        case measure => simp [intOf]; omega
    · go_wp2_with fail
      go_ret
      exact ⟨-1, rfl, .inr ⟨rfl, fun j hj => hz.out j (by have := HN.out; omega)⟩, rfl⟩

theorem ord_zero {a b : Svc} : ord a b = 0 ↔ a.node = b.node ∧ a.idn = b.idn := by
  constructor
  · intro h
    obtain ⟨h1, h2⟩ := RL.lex_zero h
    exact ⟨(cmpI_eq _ _).1 h1, (cmpI_eq _ _).1 h2⟩
  · rintro ⟨h1, h2⟩
    show (if cmpI a.node b.node = 0 then cmpI a.idn b.idn else cmpI a.node b.node) = 0
    rw [if_pos ((cmpI_eq _ _).2 h1)]; exact (cmpI_eq _ _).2 h2

theorem atI_at {ms : List Svc} {t : Svc} {r : Int} {p : Nat} {f : Bool} (hi : AtI ms t.node t.idn r) (ha : At ms t p f) (hr : Rise ms) : (f = true → r = p) ∧ (f = false → r = -1) := by
  rcases hi with ⟨k, hk, rfl, hn⟩ | ⟨rfl, hn⟩
  · obtain ⟨rfl, rfl⟩ := at_uniq ha (RL.at_of ord dm keyed hr hk (ord_zero.2 hn))
    exact ⟨fun _ => rfl, fun h => by cases h⟩
  · refine ⟨fun h => ?_, fun _ => rfl⟩
    have := ha.is.1 h
    exact absurd (ord_zero.1 this.2) (hn p this.1)

def atV (p : Nat) (f : Bool) : Int := if f = true then (p : Int) else -1
theorem refAtV (ms : List Svc) (v : Value) (t : Svc) (w : World) (hv : Sl w v ms) (hn : ms.length ≤ 1000000) (hr : Rise ms) (p : Nat) (f : Bool) (ha : At ms t p f) :
    Calls Try.prog 11 #[v, .string t.node, .string t.idn] w fun e w' => e = .returned (.int .i64 (atV p f)) ∧ Below w.heap.size w w' := by
  refine (refAt_any ms v t.node t.idn w hv hn).mono ?_
  rintro e w' ⟨r, rfl, hI, rfl⟩
  have h := atI_at hI.out ha hr
  refine ⟨?_, Below.refl _ _⟩
  cases f
  · rw [h.2 rfl]; rfl
  · rw [h.1 rfl]; rfl

theorem put_hear {ms : List Svc} {m : Svc} {p : Nat} {f : Bool} (h : At ms m p f) (hn : f = true → newE m (ms.getD p dm) = true) : RL.put ms m p f = hearL ms m := (RL.hear_put ord newE dm h hn).symm
theorem hearL_old {ms : List Svc} {m : Svc} {p : Nat} (h : At ms m p true) (hn : newE m (ms.getD p dm) = false) : hearL ms m = ms := by
  rw [hearL_at ms m p true h, if_pos rfl, if_neg (by rw [hn]; exact Bool.false_ne_true)]

end Sv
end Go.Proofs.Ytjpcngkddejdjaf
