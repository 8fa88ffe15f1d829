
/- Lists of texts: Clone, and whether two are the same. -/
import Derived.Test.YtmjdeacnapoijaaPS4
import Derived.Test.YtmjdeacnapoijaaTS
namespace Go.Proofs.Ytmjdeacnapoijaa
open Go.RowKit

theorem below_drewN {B : Nat} {w w1 : World} (h : Below B w w1) (m : Nat) : Below B w (w1.drewN m) := ⟨h.os, h.tape, h.output, h.size, h.block⟩

def TRow (w : World) (b off : Nat) (ss : List ByteArray) : Prop := ∀ j, j < ss.length → w.cell? ⟨b, off + j, none⟩ = some (.string (ss.getD j ByteArray.empty))
/-- A slice's value, and the texts that it holds in a world. -/
def TSl (w : World) (v : Value) (ss : List ByteArray) : Prop :=
  ∃ (a : Option Addr) (cap : Nat), v = .slice a ss.length cap ∧ (∀ j, (ss.getD j ByteArray.empty).size ≤ maxLen) ∧ (ss = [] ∨ ∃ b off, a = some ⟨b, off, none⟩ ∧ b < w.heap.size ∧ TRow w b off ss)
theorem TSl.below {w w' : World} {v : Value} {ss : List ByteArray} (h : TSl w v ss) (hb : Below w.heap.size w w') : TSl w' v ss := by
  obtain ⟨a, c, hv, hn, h⟩ := h
  refine ⟨a, c, hv, hn, ?_⟩
  rcases h with h | ⟨b, off, ha, hlt, hr⟩
  · exact .inl h
  · exact .inr ⟨b, off, ha, Nat.lt_of_lt_of_le hlt hb.size, fun j hj => (hb.cell (p := ⟨b, off + j, none⟩) hlt).trans (hr j hj)⟩
set_option maxHeartbeats 800000 in
theorem tclone_any (ss : List ByteArray) (v : Value) (w : World) (h : TSl w v ss) (hn : ss.length ≤ 1000) :
    Calls Try.prog 35 #[v] w fun e w' => ∃ v', e = .returned v' ∧ OwnS w.heap.size w' v' ss ∧ Below w.heap.size w w' := by
  obtain ⟨a, cap, rfl, hs, h⟩ := h
  obtain ⟨i0, hi0, hz0, hzs, hzb⟩ := info_parts Try.info9
  cases a with
  | none =>
    have he : ss = [] := by
      rcases h with h | ⟨b, off, h, _⟩
      · exact h
      · cases h
    subst he
    clear h hs
    have hnil := fun (w : World) => Lib.run_eql_slice_nil (P := Try.prog) w 40 9 none 0 cap 0 0 Try.underlying40
    simp only [List.length_nil, Option.isNone_none] at hnil ⊢
    go_enter Try.func35, Try.ntmps35
    go_wp2_with fail
    go_ret
    exact ⟨_, rfl, ownS_nil _ _, Below.refl _ _⟩
  | some a =>
    have hnil := fun (w : World) => Lib.run_eql_slice_nil (P := Try.prog) w 40 9 (some a) ss.length cap 0 0 Try.underlying40
    simp only [Option.isNone_some] at hnil
    have hnews : Hid (∀ j u, (ss.map Value.string)[j]? = some u → (w.alloc (.cells #[] 9)).cell? (a.add j) = some u) := by
      intro j u hj
      rcases h with h | ⟨b, off, h, hb, hr⟩
      · subst h; simp at hj
      · cases h
        have hl : j < ss.length := by have := (List.getElem?_eq_some_iff.1 hj).1; simpa using this
        rw [Addr.add_lit, World.cell?_alloc_past (w := w) _ b _ hb, hr j hl]
        simpa [List.getD, List.getElem?_eq_getElem hl] using hj
    have HO : Hid ((w.alloc (.cells #[] 9)).ownsRow w.heap.size 9 1 (.slice (some ⟨w.heap.size, 0, none⟩) 0 0) 0 []) := World.ownsRow_made w #[] 0 (Nat.le_refl _) (by unfold maxLen; omega) rfl
    clear h hs
    go_enter Try.func35, Try.ntmps35
    go_wp2_with (at_builtin; refine wpList_append_own _ rfl _ _ 40 rfl w.heap.size 9 i0 _ 1 16 Try.underlying40 hi0 hz0 hzs hzb rfl (by omega) _ 0 [] rfl HO.out a ss.length cap (ss.map Value.string) rfl (by simp) hnews.out (strs_one ss) (by unfold maxLen; omega) (by omega) (by simp) ?_)
    intro v' w' r1 r2 r3
    go_wp2_with fail
    go_ret
    refine ⟨v', rfl, ?_, ?_⟩
    · simpa using r1
    · exact ((Below.refl _ _).alloc (Nat.le_refl _) _).grown r2 (by simp) (fun k hk => by simp [Value.ownBlock] at hk; omega)

set_option maxHeartbeats 800000 in
theorem sameTexts_any (l : List ByteArray) (v1 v2 : Value) (B1 B2 : Nat) (w : World) (h1 : OwnS B1 w v1 l) (h2 : OwnS B2 w v2 l) (hn : l.length ≤ 1000) :
    Calls Try.prog 21 #[v1, v2] w fun e w' => e = .returned (.bool true) ∧ Below w.heap.size w w' := by
  obtain ⟨p1, c1, hv1⟩ : ∃ p c, v1 = .slice p l.length c := by
    rcases h1.2 with ⟨h, h0⟩ | ⟨g, c, cur, h, _⟩
    · exact ⟨none, 0, by rw [h, h0]⟩
    · exact ⟨_, c, h⟩
  obtain ⟨p2, c2, hv2⟩ : ∃ p c, v2 = .slice p l.length c := by
    rcases h2.2 with ⟨h, h0⟩ | ⟨g, c, cur, h, _⟩
    · exact ⟨none, 0, by rw [h, h0]⟩
    · exact ⟨_, c, h⟩
  subst hv1 hv2
  have H1 : Hid (0 < l.length → ∃ g, p1 = some ⟨g, 0, none⟩ ∧ g < w.heap.size ∧ ∀ j, j < l.length → w.cell? ⟨g, j, none⟩ = some (.string (l.getD j ByteArray.empty))) := fun hpos => by
    rcases h1.2 with ⟨_, h0⟩ | ⟨g, c, cur, h, _, hg, _⟩
    · omega
    · simp only [Value.slice.injEq] at h
      obtain ⟨rfl, _, rfl⟩ := h
      refine ⟨g, rfl, (Array.getElem?_eq_some_iff.1 hg).1, fun j hj => ?_⟩
      rw [World.ownsRow.cellAt h1 j (by omega)]
      simp [List.getD, List.getElem?_eq_getElem hj]
  have H2 : Hid (0 < l.length → ∃ g, p2 = some ⟨g, 0, none⟩ ∧ g < w.heap.size ∧ ∀ j, j < l.length → w.cell? ⟨g, j, none⟩ = some (.string (l.getD j ByteArray.empty))) := fun hpos => by
    rcases h2.2 with ⟨_, h0⟩ | ⟨g, c, cur, h, _, hg, _⟩
    · omega
    · simp only [Value.slice.injEq] at h
      obtain ⟨rfl, _, rfl⟩ := h
      refine ⟨g, rfl, (Array.getElem?_eq_some_iff.1 hg).1, fun j hj => ?_⟩
      rw [World.ownsRow.cellAt h2 j (by omega)]
      simp [List.getD, List.getElem?_eq_getElem hj]
  clear h1 h2
  generalize hna : l.length = n at *
  clear hna
  go_enter Try.func21, Try.ntmps21
  go_wp2_with fail
  go_loopw [5] (fun i w' => ∃ k : Nat, k ≤ n ∧ i = .int .i64 k ∧ Below w.heap.size w w') (fun i _ => n - (intOf i).toNat)
  case atStart => exact ⟨0, Nat.zero_le _, rfl, Below.refl _ _⟩
  case round =>
    obtain ⟨k, hk, rfl, hbl⟩ := hrel
    obtain ⟨hbc, hbf⟩ := bcell hbl
    have hsz := hbl.size
    by_cases hlt : k < n
    · obtain ⟨g1, e1, hl1, hc1⟩ := H1.out (by omega)
      obtain ⟨g2, e2, hl2, hc2⟩ := H2.out (by omega)
      subst e1 e2
      have d1 := hc1 k hlt
      have d2 := hc2 k hlt
      clear hc1 hc2
      generalize l.getD k ByteArray.empty = s at *
      go_wp2_with fail
      go_quiet (fail)
      go_wp2_with fail
      go_roundw
      case rel => exact ⟨k + 1, by omega, by go_num, below_drewN hbl _⟩
      case measure => simp [intOf]; omega
    · go_wp2_with fail
      go_ret
      exact ⟨rfl, hbl⟩

end Go.Proofs.Ytmjdeacnapoijaa
