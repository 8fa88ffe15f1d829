
/- Take, step by step to the end; which of n things a raw number speaks of. -/
import Derived.Test.YtdcekfbejjjkkaaRE1
import Derived.Test.YtdcekfbejjjkkaaRU22
namespace Go.Proofs.Ytdcekfbejjjkkaa
open Go.RowKit

set_option maxHeartbeats 800000 in
theorem choose_any (c n : Int) (w : World) (hc : -9223372036854775808 ≤ c) (hc2 : c ≤ 9223372036854775807) (hn : 1 ≤ n) (hn2 : n ≤ 1000) :
    Calls Try.prog 19 #[.int .i64 c, .int .i64 n] w fun e w' => ∃ r : Int, e = .returned (.int .i64 r) ∧ 0 ≤ r ∧ r < n ∧ w' = w := by
  have hn0 : (n == 0) = false := by simp; omega
  by_cases h : c < 0
  · have h1 : IntKind.i64.wrap (c + 1) = c + 1 := by rw [IntKind.wrap_i64]; omega
    have h2 : IntKind.i64.wrap (-(c + 1)) = -(c + 1) := by rw [IntKind.wrap_i64]; omega
    have h3 : 0 ≤ (-(c + 1)).tmod n := Int.tmod_nonneg _ (by omega)
    have h4 : (-(c + 1)).tmod n < n := Int.tmod_lt_of_pos _ (by omega)
    have h5 : IntKind.i64.wrap ((-(c + 1)).tmod n) = (-(c + 1)).tmod n := by rw [IntKind.wrap_i64]; omega
    go_enter Try.func19, Try.ntmps19
    go_wp2_with fail
    go_ret
    exact ⟨_, rfl, by rw [← Int.neg_tmod]; exact h3, by rw [← Int.neg_tmod]; exact h4, rfl⟩
  · have h3 : 0 ≤ c.tmod n := Int.tmod_nonneg _ (by omega)
    have h4 : c.tmod n < n := Int.tmod_lt_of_pos _ (by omega)
    have h5 : IntKind.i64.wrap (c.tmod n) = c.tmod n := by rw [IntKind.wrap_i64]; omega
    go_enter Try.func19, Try.ntmps19
    go_wp2_with fail
    go_ret
    exact ⟨_, rfl, Int.emod_nonneg _ (by omega), Int.emod_lt_of_pos _ (by omega), rfl⟩

theorem isOrd_nil : IsOrd [] [] := ⟨by simp, fun i j _ h => by simp at h⟩

/-- One Take, of what is left of the list. -/
theorem take_step {rs : List Rum} {c ix : List Nat} {first : Bool} {most times : Int} {v : Value} {w : World} (hE : EInv rs times c ix first) (h0 : chkR (nowL rs c ix) = 0) (hv : RSl w v (nowL rs c ix)) (hm : within most 1 20 = true) (ht : within times 1 100 = true) :
    Calls Try.prog 14 #[v, .int .i64 most, .int .i64 times] w fun e w' => ∃ (v1 v2 : Value) (B : List Nat), e = .returned (.tuple #[v1, v2, .int .i64 0]) ∧ (∀ i ∈ B, i < rs.length) ∧ (B.length : Int) ≤ most ∧ (ix ≠ [] → 0 < B.length) ∧
      EInv rs times (ups c B) (nextIx rs times (ups c B) ix) false ∧ Own w.heap.size w' v1 (B.map fun i => (rs.getD i dr).m) ∧ ROwn w.heap.size w' v2 (nowL rs (ups c B) (nextIx rs times (ups c B) ix)) ∧ Below w.heap.size w w' := by
  have hm1 : 1 ≤ most ∧ most ≤ 20 := by simp [within] at hm; omega
  by_cases hl : ix = []
  · subst hl
    refine (take_none v most times w hv h0 hm ht).mono ?_
    rintro e w' ⟨v1, v2, rfl, h1, h2, h3⟩
    have hn := hE.next (ord := []) (k := 0) isOrd_nil
    exact ⟨v1, v2, [], rfl, by simp, by simp; omega, fun h => absurd rfl h, hn, h1, h2, h3⟩
  · have hpos : 0 < (nowL rs c ix).length := by rw [nowL_len]; exact List.length_pos_iff.2 hl
    have h20 := (chkR_zero h0).1
    refine (take_some _ v most times w hv h0 hm ht hpos (turns_some _ v ((nowL rs c ix).length - 1) (by omega) (by omega))).mono ?_
    rintro e w' ⟨v1, v2, ord, rfl, ho, h1, h2, h3⟩
    have hlen : (bB ix ord (min most.toNat (nowL rs c ix).length)).length = min most.toNat (nowL rs c ix).length := by
      rw [bB, List.length_map, List.length_take, ho.len]; omega
    rw [told_now hE.nd ho] at h1
    rw [bump_now hE.nd ho (fun i hi => by rw [hE.len]; exact hE.lt i hi), next_now] at h2
    exact ⟨v1, v2, _, rfl, fun i hi => hE.lt i (bB_sub hE.nd ho i hi), by rw [hlen]; omega, fun _ => by rw [hlen]; omega, hE.next ho, h1, h2, h3⟩

theorem getD_le_sum : ∀ (c : List Nat) (i : Nat), c.getD i 0 ≤ c.sum
  | [], i => by simp
  | x :: r, 0 => by simp
  | x :: r, i + 1 => by have := getD_le_sum r i; simp at this ⊢; omega
theorem ups_snoc {c B : List Nat} {k : Nat} (h : k < B.length) : ups c (B.take (k + 1)) = up (ups c (B.take k)) (B.getD k 0) := by
  rw [List.take_succ_eq_append_getElem h, ups, List.foldl_append, ← ixget h]; rfl

/-- How often each was told, in a row of numbers. -/
def ToldIn (w : World) (g n : Nat) (c : List Nat) : Prop := (∀ j, j < n → w.cell? ⟨g, j, none⟩ = some (.int .i64 (c.getD j 0 : Nat))) ∧ ∀ o, w.frozen? ⟨g, o, none⟩ = false
theorem ToldIn.below {w w' : World} {g n : Nat} {c : List Nat} (h : ToldIn w g n c) (hg : g < w.heap.size) (hb : Below w.heap.size w w') : ToldIn w' g n c := by
  obtain ⟨h1, h2⟩ := bcell hb
  exact ⟨fun j hj => (h1 g j hg).trans (h.1 j hj), fun o => (h2 g o hg).trans (h.2 o)⟩

end Go.Proofs.Ytdcekfbejjjkkaa
