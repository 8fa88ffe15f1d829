/- guess. -/
import Derived.Test.YtadllmoepoehnaaDoorQB
namespace Go.Proofs.YtadllmoepoehnaaDoor
open Go.RowKit Go.Shelf Go.Lib Go.Sort

/-- Where the first word stands, or -1. -/
def wAt (L : List ByteArray) : Int := Lib.idxBy (fun _ y => isWd y) L default
def jB (L : List ByteArray) : ByteArray := mk (jn (L.map bytes))
def qE : Qu := ⟨⟨#[]⟩, ⟨#[]⟩, ⟨#[]⟩, ⟨#[]⟩⟩
/-- What a query may be. -/
def gss (L : List ByteArray) : Qu :=
  if wAt L < 1 then qE
  else if L.getD (wAt L).toNat ByteArray.empty = bNode then ⟨⟨#[]⟩, ⟨#[]⟩, L.getD ((wAt L).toNat - 1) ByteArray.empty, jB (L.drop ((wAt L).toNat + 1))⟩
  else ⟨L.getD ((wAt L).toNat - 1) ByteArray.empty, jB (L.take ((wAt L).toNat - 1)), ⟨#[]⟩, jB (L.drop ((wAt L).toNat + 1))⟩

theorem idx_spec : ∀ (L : List ByteArray) (n : Nat), (Lib.idxByFrom (fun _ y => isWd y) (default : ByteArray) L n = -1 ∧ ∀ j, j < L.length → isWd (L.getD j ByteArray.empty) = false) ∨ ∃ i, i < L.length ∧ Lib.idxByFrom (fun _ y => isWd y) (default : ByteArray) L n = ((n + i : Nat) : Int) ∧ isWd (L.getD i ByteArray.empty) = true ∧ ∀ j, j < i → isWd (L.getD j ByteArray.empty) = false
  | [], n => .inl ⟨rfl, fun j hj => absurd hj (Nat.not_lt_zero _)⟩
  | x :: r, n => by
    unfold Lib.idxByFrom
    by_cases h : isWd x = true
    · rw [if_pos h]
      exact .inr ⟨0, by simp, rfl, h, fun j hj => absurd hj (Nat.not_lt_zero _)⟩
    · rw [if_neg h]
      have hf : isWd x = false := by simpa using h
      rcases idx_spec r (n + 1) with ⟨h1, h2⟩ | ⟨i, h1, h2, h3, h4⟩
      · refine .inl ⟨h1, fun j hj => ?_⟩
        cases j with
        | zero => exact hf
        | succ j => exact h2 j (by simpa using hj)
      · refine .inr ⟨i + 1, by simpa using h1, by rw [h2]; congr 1; omega, h3, fun j hj => ?_⟩
        cases j with
        | zero => exact hf
        | succ j => exact h4 j (by omega)
theorem wAt_spec (L : List ByteArray) : (wAt L = -1 ∧ ∀ j, j < L.length → isWd (L.getD j ByteArray.empty) = false) ∨ ∃ i : Nat, i < L.length ∧ wAt L = (i : Int) ∧ isWd (L.getD i ByteArray.empty) = true ∧ ∀ j, j < i → isWd (L.getD j ByteArray.empty) = false := by
  have h := idx_spec L 0
  rcases h with h | ⟨i, h1, h2, h3, h4⟩
  · exact .inl h
  · exact .inr ⟨i, h1, by rw [show wAt L = Lib.idxByFrom (fun _ y => isWd y) (default : ByteArray) L 0 from rfl, h2, Nat.zero_add], h3, h4⟩

theorem joinS_any (L : List ByteArray) (g o c : Nat) (W : World) (hc : ∀ j, j < L.length → W.cell? ⟨g, o + j, none⟩ = some (.string (L.getD j ByteArray.empty))) (hg : g < W.heap.size) (hL : L.length ≤ c) (hn : L.length ≤ 1000) (hz : (jn (L.map bytes)).length ≤ 100000) :
    Calls Tryd.prog 24 #[.slice (some ⟨g, o, none⟩) L.length c, .string ⟨#[46]⟩] W fun e w' => e = .returned (.string (jB L)) ∧ Below W.heap.size W w' := by
  have h3 := Tryd.strings_Join g o c L ⟨#[46]⟩ W (fun j x hj => by
    obtain ⟨hj1, hj2⟩ := List.getElem?_eq_some_iff.1 hj
    rw [hc j hj1]
    simp [List.getD, hj1, hj2]) hg (by omega) hL (by
    rw [show (ByteArray.mk #[46]).data.toList = [46] from rfl, join_jn]
    exact Nat.le_trans hz (by omega))
  rw [show (ByteArray.mk #[46]).data.toList = [46] from rfl, join_jn] at h3
  exact h3

theorem cell_alloc_old {W : World} {o : Obj} {b k : Nat} (h : b < W.heap.size) : (W.alloc o).cell? ⟨b, k, none⟩ = W.cell? ⟨b, k, none⟩ := World.cell?_alloc_past (w := W) _ b _ h
theorem qboxf {w w1 : World} {a b c d : Value} {t : TypeId} (h : Below (w.alloc (.cells #[a, b, c, d] t)).heap.size (w.alloc (.cells #[a, b, c, d] t)) w1) :
    w1.heap[w.heap.size]? = some (.cells #[a, b, c, d] t (0, 0)) ∧ ∀ j, w1.frozen? ⟨w.heap.size, j, none⟩ = false := by
  have hg : w1.heap[w.heap.size]? = some (.cells #[a, b, c, d] t (0, 0)) := (h.block _ (by simp)).trans (heap_alloc_new w _)
  exact ⟨hg, fun j => by simp [World.frozen?, hg]⟩

set_option maxHeartbeats 3200000 in
set_option maxRecDepth 100000 in
theorem guess_any (L : List ByteArray) (g c : Nat) (w : World) (hc : ∀ j, j < L.length → w.cell? ⟨g, 0 + j, none⟩ = some (.string (L.getD j ByteArray.empty))) (hg : g < w.heap.size) (hL : L.length < c) (hn : L.length ≤ 100) (hz : ∀ L', (∃ a b, L' = (L.drop a).take b) → (jn (L'.map bytes)).length ≤ 100000) :
    Calls Tryd.prog 21 #[.slice (some ⟨g, 0, none⟩) L.length c] w fun e w' => e = .returned (.agg #[.string (gss L).service, .string (gss L).tag, .string (gss L).node, .string (gss L).centre]) ∧ Below w.heap.size w w' := by
  have eg : ∀ args w, (callFunc 33 args).run Tryd.prog w = .ok (.enter 33 args) w := enters_of Tryd.func33 (by kernel_rfl) rfl
  have HIX : Hid (∀ W, Below w.heap.size w W → Calls Tryd.prog 34 #[.slice (some ⟨g, 0, none⟩) L.length c, .func (.func 33) #[] #[]] W fun e w' => e = .returned (.int .i64 (wAt L)) ∧ Below W.heap.size W w') := fun W hW => by
    have h := AnyE.slices_IndexFunc (P := Tryd.prog) (ρ := Tryd.ixS_ren) Tryd.ixS Value.string isWd 33 #[] eg g 0 L.length c L W (fun W x _ => isWd_gives x W) (Nat.le_refl _) (by omega) (fun j hj => by
      rw [(hW.cell (p := ⟨g, 0 + j, none⟩) hg).trans (hc j hj)]
      simp [List.getD, getElem!_pos, hj])
    rw [List.take_length] at h
    refine h.mono ?_
    rintro e w' ⟨rfl, q, rfl⟩
    exact ⟨rfl, belowN (Below.refl _ _) _⟩
  have HC : Hid (∀ W, Below w.heap.size w W → ∀ j, j < L.length → W.cell? ⟨g, 0 + j, none⟩ = some (.string (L.getD j ByteArray.empty))) := fun W hW j hj => (hW.cell (p := ⟨g, 0 + j, none⟩) hg).trans (hc j hj)
  have HG : Hid (gss L = if wAt L < 1 then qE
  else if L.getD (wAt L).toNat ByteArray.empty = bNode then ⟨⟨#[]⟩, ⟨#[]⟩, L.getD ((wAt L).toNat - 1) ByteArray.empty, jB (L.drop ((wAt L).toNat + 1))⟩
  else ⟨L.getD ((wAt L).toNat - 1) ByteArray.empty, jB (L.take ((wAt L).toNat - 1)), ⟨#[]⟩, jB (L.drop ((wAt L).toNat + 1))⟩) := rfl
  have HJD : Hid (∀ i W, i < L.length → Below w.heap.size w W → Calls Tryd.prog 24 #[.slice (some ⟨g, i + 1, none⟩) (L.length - (i + 1)) (c - (i + 1)), .string ⟨#[46]⟩] W fun e w' => e = .returned (.string (jB (L.drop (i + 1)))) ∧ Below W.heap.size W w') := fun i W hi hW => by
    have h := joinS_any (L.drop (i + 1)) g (i + 1) (c - (i + 1)) W (fun j hj => by
      rw [List.length_drop] at hj
      have h2 := HC.out W hW (i + 1 + j) (by omega)
      rw [Nat.zero_add] at h2
      rw [h2]
      simp [List.getD]) (Nat.lt_of_lt_of_le hg hW.size) (by rw [List.length_drop]; omega) (by rw [List.length_drop]; omega) (hz _ ⟨i + 1, L.length, by rw [List.take_of_length_le (by rw [List.length_drop]; omega)]⟩)
    rw [List.length_drop] at h
    exact h
  have HJT : Hid (∀ i W, i ≤ L.length → Below w.heap.size w W → Calls Tryd.prog 24 #[.slice (some ⟨g, 0, none⟩) i c, .string ⟨#[46]⟩] W fun e w' => e = .returned (.string (jB (L.take i))) ∧ Below W.heap.size W w') := fun i W hi hW => by
    have h := joinS_any (L.take i) g 0 c W (fun j hj => by
      rw [List.length_take] at hj
      rw [HC.out W hW j (by omega)]
      simp [List.getD, List.getElem?_take_of_lt (show j < i by omega)]) (Nat.lt_of_lt_of_le hg hW.size) (by rw [List.length_take]; omega) (by rw [List.length_take]; omega) (hz _ ⟨0, i, by simp⟩)
    rw [List.length_take, Nat.min_eq_left hi] at h
    exact h
  have hws := wAt_spec L
  clear eg hc hz
  generalize gss L = G at *
  generalize wAt L = at' at *
  rcases hws with ⟨hw, _⟩ | ⟨i, hi, hw, hwd, _⟩
  · subst hw
    have HG2 : Hid (G = qE) := HG.out
    clear HG HJD HJT HC
    go_enter Tryd.func21, Tryd.ntmps21
    go_wp2_with fail
    refine (HIX.out _ ((Below.refl _ _).alloc (Nat.le_refl _) _)).mono ?_
    rintro e w1 ⟨rfl, hb1⟩
    obtain ⟨f0, f1, f2, f3, HB1, hl1⟩ := qbox hb1
    obtain ⟨hgx, hfz⟩ := qboxf hb1
    have z0 := hfz 0
    have z1 := hfz 1
    have z2 := hfz 2
    have z3 := hfz 3
    clear hb1 hfz hgx
    go_wp2_with fail
    exact bodyPost_ret (v := .agg #[.string ⟨#[]⟩, .string ⟨#[]⟩, .string ⟨#[]⟩, .string ⟨#[]⟩]) (by simp [results, Tryd.results21, go_sem, f0, f1, f2, f3]) rfl ⟨by rw [HG2.out]; rfl, (((HB1.out.setCell (p := ⟨w.heap.size, 0, none⟩) (Nat.le_refl _) _).setCell (p := ⟨w.heap.size, 1, none⟩) (Nat.le_refl _) _).setCell (p := ⟨w.heap.size, 2, none⟩) (Nat.le_refl _) _).setCell (p := ⟨w.heap.size, 3, none⟩) (Nat.le_refl _) _⟩
  · subst hw
    have e1 : ((i : Int)).toNat = i := by omega
    by_cases h1 : (i : Int) < 1
    · have HG2 : Hid (G = qE) := (show G = qE by rw [HG.out, if_pos h1])
      have hi0 : i = 0 := by omega
      subst hi0
      clear HG HJD HJT HC
      go_enter Tryd.func21, Tryd.ntmps21
      go_wp2_with fail
      refine (HIX.out _ ((Below.refl _ _).alloc (Nat.le_refl _) _)).mono ?_
      rintro e w1 ⟨rfl, hb1⟩
      obtain ⟨f0, f1, f2, f3, HB1, hl1⟩ := qbox hb1
      obtain ⟨hgx, hfz⟩ := qboxf hb1
      have z0 := hfz 0
      have z1 := hfz 1
      have z2 := hfz 2
      have z3 := hfz 3
      clear hb1 hfz hgx
      go_wp2_with fail
      exact bodyPost_ret (v := .agg #[.string ⟨#[]⟩, .string ⟨#[]⟩, .string ⟨#[]⟩, .string ⟨#[]⟩]) (by simp [results, Tryd.results21, go_sem, f0, f1, f2, f3]) rfl ⟨by rw [HG2.out]; rfl, (((HB1.out.setCell (p := ⟨w.heap.size, 0, none⟩) (Nat.le_refl _) _).setCell (p := ⟨w.heap.size, 1, none⟩) (Nat.le_refl _) _).setCell (p := ⟨w.heap.size, 2, none⟩) (Nat.le_refl _) _).setCell (p := ⟨w.heap.size, 3, none⟩) (Nat.le_refl _) _⟩
    · have hh := HG.out
      rw [if_neg h1, e1] at hh
      go_enter Tryd.func21, Tryd.ntmps21
      go_wp2_with fail
      refine (HIX.out _ ((Below.refl _ _).alloc (Nat.le_refl _) _)).mono ?_
      rintro e w1 ⟨rfl, hb1⟩
      obtain ⟨f0, f1, f2, f3, HB1, hl1⟩ := qbox hb1
      obtain ⟨hgx, hfz⟩ := qboxf hb1
      have z0 := hfz 0
      have z1 := hfz 1
      have z2 := hfz 2
      have z3 := hfz 3
      clear hb1 hfz hgx
      go_wp2_with fail
      refine (HJD.out i _ hi HB1.out).mono ?_
      rintro e w2 ⟨rfl, hb2⟩
      have HB2 : Hid (Below w.heap.size w w2) := HB1.out.trans (hb2.mono (Nat.le_of_lt hl1))
      have HB12 : Hid (Below w1.heap.size w1 w2) := hb2
      have g0 := (hb2.cell (p := ⟨w.heap.size, 0, none⟩) hl1).trans f0
      have g1 := (hb2.cell (p := ⟨w.heap.size, 1, none⟩) hl1).trans f1
      have g2 := (hb2.cell (p := ⟨w.heap.size, 2, none⟩) hl1).trans f2
      have g3 := (hb2.cell (p := ⟨w.heap.size, 3, none⟩) hl1).trans f3
      have y0 := (hb2.frozen (p := ⟨w.heap.size, 0, none⟩) hl1).trans z0
      have y1 := (hb2.frozen (p := ⟨w.heap.size, 1, none⟩) hl1).trans z1
      have y2 := (hb2.frozen (p := ⟨w.heap.size, 2, none⟩) hl1).trans z2
      have y3 := (hb2.frozen (p := ⟨w.heap.size, 3, none⟩) hl1).trans z3
      have ci := HC.out w2 HB2.out i hi
      have cm := HC.out w2 HB2.out (i - 1) (by omega)
      rw [Nat.zero_add] at ci cm
      have hg2 : g < w2.heap.size := Nat.lt_of_lt_of_le hg HB2.out.size
      have hl2 : w.heap.size < w2.heap.size := Nat.lt_of_lt_of_le hl1 HB12.out.size
      have e0 : g ≠ w2.heap.size := by omega
      have e2 : w.heap.size ≠ w2.heap.size := by omega
      have hwm : IntKind.i64.wrap ((i : Int) - 1) = ((i - 1 : Nat) : Int) := by rw [IntKind.wrap_i64]; omega
      have him : ((i - 1 : Nat) : Int) < (L.length : Int) := by omega
      have him0 : (0 : Int) ≤ ((i - 1 : Nat) : Int) := by omega
      have hic : ((i - 1 : Nat) : Int) ≤ (c : Int) := by omega
      have HJ2 : Hid (∀ W, Below w.heap.size w W → Calls Tryd.prog 24 #[.slice (some ⟨g, 0, none⟩) (i - 1) c, .string ⟨#[46]⟩] W fun e w' => e = .returned (.string (jB (L.take (i - 1)))) ∧ Below W.heap.size W w') := fun W hW => HJT.out (i - 1) W (by omega) hW
      clear f0 f1 f2 f3 z0 z1 z2 z3 hb2 HC HJD HJT HG
      have HGG : Hid (G = if L.getD i ByteArray.empty = bNode then ⟨⟨#[]⟩, ⟨#[]⟩, L.getD (i - 1) ByteArray.empty, jB (L.drop (i + 1))⟩ else ⟨L.getD (i - 1) ByteArray.empty, jB (L.take (i - 1)), ⟨#[]⟩, jB (L.drop (i + 1))⟩) := hh
      clear hh
      generalize hli : L.getD i ByteArray.empty = li at *
      generalize L.getD (i - 1) ByteArray.empty = lm at *
      generalize jB (L.drop (i + 1)) = jd at *
      generalize jB (L.take (i - 1)) = jt at *
      clear hli
      generalize hmm : i - 1 = m at *
      clear hmm
      by_cases hnd : li = bNode
      · subst hnd
        have HG2 : Hid (G = ⟨⟨#[]⟩, ⟨#[]⟩, lm, jd⟩) := HGG.out
        clear HGG HJ2
        go_wp2_with fail
        exact bodyPost_ret (v := .agg #[.string ⟨#[]⟩, .string ⟨#[]⟩, .string lm, .string jd]) (by simp [results, Tryd.results21, go_sem, g0, g1, g2, g3, cell_alloc_old, hl2]) rfl ⟨by rw [HG2.out], ((((HB2.out.setCell (p := ⟨w.heap.size, 0, none⟩) (Nat.le_refl _) _).setCell (p := ⟨w.heap.size, 1, none⟩) (Nat.le_refl _) _).setCell (p := ⟨w.heap.size, 2, none⟩) (Nat.le_refl _) _).setCell (p := ⟨w.heap.size, 3, none⟩) (Nat.le_refl _) _).alloc (by simp; omega) _⟩
      · have HG2 : Hid (G = ⟨lm, jt, ⟨#[]⟩, jd⟩) := (show G = _ by rw [HGG.out, if_neg hnd])
        obtain ⟨b1, b2⟩ := ne_node hnd
        clear HGG hnd hwd
        go_wp2_with fail
        refine (HJ2.out _ (HB2.out.alloc (by omega) _)).mono ?_
        rintro e w3 ⟨rfl, hb3⟩
        obtain ⟨q0, q1, q2, q3, HB3, hl3⟩ := qbox hb3
        obtain ⟨_, qz⟩ := qboxf hb3
        have r0 := (HB3.out.cell (p := ⟨w.heap.size, 0, none⟩) hl2).trans g0
        have r1 := (HB3.out.cell (p := ⟨w.heap.size, 1, none⟩) hl2).trans g1
        have r2 := (HB3.out.cell (p := ⟨w.heap.size, 2, none⟩) hl2).trans g2
        have r3 := (HB3.out.cell (p := ⟨w.heap.size, 3, none⟩) hl2).trans g3
        have x0 := (HB3.out.frozen (p := ⟨w.heap.size, 0, none⟩) hl2).trans y0
        have x1 := (HB3.out.frozen (p := ⟨w.heap.size, 1, none⟩) hl2).trans y1
        have x2 := (HB3.out.frozen (p := ⟨w.heap.size, 2, none⟩) hl2).trans y2
        have x3 := (HB3.out.frozen (p := ⟨w.heap.size, 3, none⟩) hl2).trans y3
        have qz1 := qz 1
        have HBT : Hid (Below w.heap.size w w3) := HB2.out.trans (HB3.out.mono (Nat.le_of_lt hl2))
        clear g0 g1 g2 g3 y0 y1 y2 y3 hb3 ci cm HJ2 qz
        go_wp2_with fail
        exact bodyPost_ret (v := .agg #[.string lm, .string jt, .string ⟨#[]⟩, .string jd]) (by simp [results, Tryd.results21, go_sem, r0, r1, r2, r3]) rfl ⟨by rw [HG2.out], ((((HBT.out.setCell (p := ⟨w2.heap.size, 1, none⟩) (Nat.le_of_lt hl2) _).setCell (p := ⟨w.heap.size, 0, none⟩) (Nat.le_refl _) _).setCell (p := ⟨w.heap.size, 1, none⟩) (Nat.le_refl _) _).setCell (p := ⟨w.heap.size, 2, none⟩) (Nat.le_refl _) _).setCell (p := ⟨w.heap.size, 3, none⟩) (Nat.le_refl _) _⟩

end Go.Proofs.YtadllmoepoehnaaDoor
