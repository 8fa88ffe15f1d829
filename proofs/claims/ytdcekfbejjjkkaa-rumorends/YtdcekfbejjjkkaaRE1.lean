
/- Rumors come to an end: plain mathematics. -/
import Derived.Test.YtdcekfbejjjkkaaRU17
namespace Go.Proofs.Ytdcekfbejjjkkaa
open Go.RowKit

/-- A rumor of the list, told some times more. -/
def gC (l : List Rum) (c : List Nat) (i : Nat) : Rum := ⟨(l.getD i dr).m, (l.getD i dr).told + (c.getD i 0 : Nat)⟩
def nowL (l : List Rum) (c ix : List Nat) : List Rum := ix.map (gC l c)
def up (c : List Nat) (i : Nat) : List Nat := c.set i (c.getD i 0 + 1)
def ups (c B : List Nat) : List Nat := B.foldl up c
theorem up_len (c : List Nat) (i : Nat) : (up c i).length = c.length := by simp [up]
theorem ups_len : ∀ (B c : List Nat), (ups c B).length = c.length
  | [], _ => rfl
  | i :: r, c => by rw [ups, List.foldl_cons]; exact (ups_len r (up c i)).trans (up_len c i)
theorem up_same {c : List Nat} {i : Nat} (hi : i < c.length) : (up c i).getD i 0 = c.getD i 0 + 1 := by
  simp [up, List.getD, List.getElem?_set_self hi]
theorem up_other {c : List Nat} {i j : Nat} (h : j ≠ i) : (up c i).getD j 0 = c.getD j 0 := by
  simp [up, List.getD, List.getElem?_set_ne (Ne.symm h)]
theorem ups_out : ∀ (B c : List Nat) (j : Nat), j ∉ B → (ups c B).getD j 0 = c.getD j 0
  | [], _, _, _ => rfl
  | i :: r, c, j, h => by
    simp only [List.mem_cons, not_or] at h
    rw [ups, List.foldl_cons]
    exact (ups_out r (up c i) j h.2).trans (up_other h.1)
theorem ups_in : ∀ (B c : List Nat) (j : Nat), B.Nodup → j ∈ B → j < c.length → (ups c B).getD j 0 = c.getD j 0 + 1
  | [], _, _, _, h, _ => by simp at h
  | i :: r, c, j, hn, h, hl => by
    rw [List.nodup_cons] at hn
    rw [ups, List.foldl_cons]
    rcases List.mem_cons.1 h with rfl | h
    · exact (ups_out r (up c j) j hn.1).trans (up_same hl)
    · have hne : j ≠ i := fun e => hn.1 (e ▸ h)
      exact (ups_in r (up c i) j hn.2 h (by rw [up_len]; exact hl)).trans (by rw [up_other hne])
theorem up_sum : ∀ (c : List Nat) (i : Nat), i < c.length → (up c i).sum = c.sum + 1
  | [], i, h => by simp at h
  | x :: r, 0, _ => by simp [up]; omega
  | x :: r, i + 1, h => by
    have := up_sum r i (by simpa using h)
    simp only [up, List.getD_cons_succ, List.set_cons_succ, List.sum_cons] at this ⊢
    omega
theorem ups_sum : ∀ (B c : List Nat), (∀ i ∈ B, i < c.length) → (ups c B).sum = c.sum + B.length
  | [], c, _ => by simp [ups]
  | i :: r, c, h => by
    rw [ups, List.foldl_cons]
    have h1 := ups_sum r (up c i) (fun j hj => by rw [up_len]; exact h j (by simp [hj]))
    have h2 := up_sum c i (h i (by simp))
    rw [ups] at h1
    rw [h1, h2, List.length_cons]; omega
theorem sum_le12 : ∀ (c : List Nat), (∀ i, i < c.length → c.getD i 0 ≤ 12) → c.sum ≤ 12 * c.length
  | [], _ => by simp
  | x :: r, h => by
    have h0 := h 0 (by simp)
    have h1 := sum_le12 r (fun i hi => by have := h (i + 1) (by simpa using hi); simpa using this)
    simp at h0 h1 ⊢
    omega
theorem sum_lt12 : ∀ (c : List Nat), (∀ i, i < c.length → c.getD i 0 ≤ 12) → (∃ i, i < c.length ∧ c.getD i 0 < 12) → c.sum < 12 * c.length
  | [], _, h => by obtain ⟨i, h, _⟩ := h; simp at h
  | x :: r, h, ⟨i, hi, hl⟩ => by
    have h0 := h 0 (by simp)
    have h1 : ∀ i, i < r.length → r.getD i 0 ≤ 12 := fun i hi => by have := h (i + 1) (by simpa using hi); simpa using this
    cases i with
    | zero =>
      have := sum_le12 r h1
      simp at hl this ⊢
      omega
    | succ i =>
      have := sum_lt12 r h1 ⟨i, by simpa using hi, by simpa using hl⟩
      simp at h0 this ⊢
      omega

theorem foldl_in : ∀ (is : List Nat) (l : List Rum) (j : Nat), is.Nodup → j ∈ is → j < l.length → (is.foldl bumpOne l).getD j dr = ⟨(l.getD j dr).m, (l.getD j dr).told + 1⟩
  | [], _, _, _, h, _ => by simp at h
  | i :: r, l, j, hn, h, hl => by
    rw [List.nodup_cons] at hn
    rw [List.foldl_cons]
    rcases List.mem_cons.1 h with rfl | h
    · rw [foldl_other r _ j hn.1, bumpOne]
      simp [List.getD, List.getElem?_set_self hl]
    · have hne : j ≠ i := fun e => hn.1 (e ▸ h)
      rw [foldl_in r _ j hn.2 h (by rw [bumpOne, List.length_set]; exact hl), bumpOne]
      simp [List.getD, List.getElem?_set_ne (Ne.symm hne)]

/-- Which ones of the first list are told. -/
def bB (ix ord : List Nat) (k : Nat) : List Nat := (ord.take k).map (fun q => ix.getD q 0)
theorem nowL_len (l : List Rum) (c ix : List Nat) : (nowL l c ix).length = ix.length := by simp [nowL]
theorem nowL_get {l : List Rum} {c ix : List Nat} {q : Nat} (h : q < ix.length) : (nowL l c ix).getD q dr = gC l c (ix.getD q 0) := by
  simp [nowL, List.getD, List.getElem?_eq_getElem h]
theorem ixget {ix : List Nat} {q : Nat} (h : q < ix.length) : ix.getD q 0 = ix[q] := by simp [List.getD, List.getElem?_eq_getElem h]
theorem ix_inj {ix : List Nat} (hn : ix.Nodup) {a b : Nat} (ha : a < ix.length) (hb : b < ix.length) (h : ix.getD a 0 = ix.getD b 0) : a = b := by
  rw [ixget ha, ixget hb] at h
  have hp := List.pairwise_iff_getElem.1 hn
  rcases Nat.lt_trichotomy a b with hl | he | hl
  · exact absurd h (hp a b ha hb hl)
  · exact he
  · exact absurd h.symm (hp b a hb ha hl)

section
variable {l : List Rum} {c ix ord : List Nat} {k : Nat}
theorem ord_bd (_hn : ix.Nodup) (ho : IsOrd (nowL l c ix) ord) : ∀ q ∈ ord, q < ix.length := fun q hq => by have := ho.bd q hq; rwa [nowL_len] at this
theorem bB_mem (_hn : ix.Nodup) (_ho : IsOrd (nowL l c ix) ord) {i : Nat} : i ∈ bB ix ord k ↔ ∃ q ∈ ord.take k, ix.getD q 0 = i := List.mem_map
theorem bB_sub (hn : ix.Nodup) (ho : IsOrd (nowL l c ix) ord) : ∀ i ∈ bB ix ord k, i ∈ ix := fun i hi => by
  obtain ⟨q, hq, rfl⟩ := (bB_mem hn ho).1 hi
  have hl := ord_bd hn ho q (List.mem_of_mem_take hq)
  rw [ixget hl]; exact List.getElem_mem _
theorem bB_nodup (hn : ix.Nodup) (ho : IsOrd (nowL l c ix) ord) : (bB ix ord k).Nodup := by
  have h1 : (ord.take k).Nodup := ho.nodup.sublist (List.take_sublist _ _)
  unfold bB
  rw [List.Nodup, List.pairwise_map]
  refine List.Pairwise.imp_of_mem ?_ h1
  intro a b ha hb hne h
  exact hne (ix_inj hn (ord_bd hn ho a (List.mem_of_mem_take ha)) (ord_bd hn ho b (List.mem_of_mem_take hb)) h)
theorem bump_now (hn : ix.Nodup) (ho : IsOrd (nowL l c ix) ord) (hc : ∀ i ∈ ix, i < c.length) : bump (nowL l c ix) ord k = nowL l (ups c (bB ix ord k)) ix := by
  apply List.ext_getElem
  · rw [bump_len, nowL_len, nowL_len]
  intro q h1 h2
  rw [bump_len, nowL_len] at h1
  have e1 : (bump (nowL l c ix) ord k)[q]'(by rw [bump_len, nowL_len]; exact h1) = (bump (nowL l c ix) ord k).getD q dr := by
    simp [List.getD, List.getElem?_eq_getElem (show q < (bump (nowL l c ix) ord k).length by rw [bump_len, nowL_len]; exact h1)]
  have e2 : (nowL l (ups c (bB ix ord k)) ix)[q] = (nowL l (ups c (bB ix ord k)) ix).getD q dr := by
    simp [List.getD, List.getElem?_eq_getElem h2]
  rw [e1, e2, nowL_get h1]
  have hm : ix.getD q 0 ∈ ix := by rw [ixget h1]; exact List.getElem_mem _
  have h3 : (ord.take k).Nodup := ho.nodup.sublist (List.take_sublist _ _)
  by_cases hq : q ∈ ord.take k
  · rw [bump, foldl_in _ _ _ h3 hq (by rw [nowL_len]; exact h1), nowL_get h1]
    have h4 : ix.getD q 0 ∈ bB ix ord k := (bB_mem hn ho).2 ⟨q, hq, rfl⟩
    have h5 := ups_in (bB ix ord k) c _ (bB_nodup hn ho) h4 (hc _ hm)
    simp only [gC, h5]
    congr 1
    push_cast
    omega
  · rw [bump, foldl_other _ _ _ hq, nowL_get h1]
    have h4 : ix.getD q 0 ∉ bB ix ord k := fun h => by
      obtain ⟨r, hr, he⟩ := (bB_mem hn ho).1 h
      have := ix_inj hn (ord_bd hn ho r (List.mem_of_mem_take hr)) h1 he
      exact hq (this ▸ hr)
    simp only [gC, ups_out _ _ _ h4]
theorem told_now (hn : ix.Nodup) (ho : IsOrd (nowL l c ix) ord) : toldL (nowL l c ix) ord k = (bB ix ord k).map (fun i => (l.getD i dr).m) := by
  unfold toldL bB
  rw [List.map_map]
  apply List.map_congr_left
  intro q hq
  rw [nowL_get (ord_bd hn ho q (List.mem_of_mem_take hq))]
  rfl
end

/-- What holds of what is left, and of how often each was told. -/
structure EInv (l : List Rum) (times : Int) (c ix : List Nat) (first : Bool) : Prop where
  len : c.length = l.length
  ilen : ix.length ≤ l.length
  nd : ix.Nodup
  lt : ∀ i ∈ ix, i < l.length
  al : first = false → ∀ i ∈ ix, (l.getD i dr).told + (c.getD i 0 : Nat) < times
  de : ∀ i, i < l.length → i ∉ ix → times ≤ (l.getD i dr).told + (c.getD i 0 : Nat)
  c0 : first = true → ∀ i, c.getD i 0 = 0
  mx : ∀ i, i < l.length → ((c.getD i 0 : Nat) : Int) ≤ max 1 (times - (l.getD i dr).told)

def nextIx (l : List Rum) (times : Int) (c ix : List Nat) : List Nat := ix.filter fun i => keepR times (gC l c i)
theorem next_now (l : List Rum) (times : Int) (c ix : List Nat) : (nowL l c ix).filter (keepR times) = nowL l c (nextIx l times c ix) := by
  rw [nowL, List.filter_map]; rfl

theorem EInv.start (l : List Rum) (times : Int) : EInv l times (List.replicate l.length 0) (List.range l.length) true where
  len := by simp
  ilen := by simp
  nd := List.nodup_range
  lt := fun i h => by simpa using h
  al := fun h => by cases h
  de := fun i h h2 => absurd (by simpa using h) h2
  c0 := fun _ i => by simp [List.getD, List.getElem?_replicate]; split <;> rfl
  mx := fun i h => by
    have : (List.replicate l.length 0).getD i 0 = 0 := by simp [List.getD, List.getElem?_replicate]; split <;> rfl
    rw [this]; omega
theorem now_start (l : List Rum) : nowL l (List.replicate l.length 0) (List.range l.length) = l := by
  apply List.ext_getElem
  · simp [nowL]
  intro q h1 h2
  have h3 : l[q] = l.getD q dr := by simp [List.getD, List.getElem?_eq_getElem h2]
  have h4 : (List.replicate l.length 0).getD q 0 = 0 := by simp [List.getD, List.getElem?_replicate]; split <;> rfl
  rw [h3]
  simp only [nowL, List.getElem_map, List.getElem_range, gC, h4]
  simp

theorem EInv.next {l : List Rum} {times : Int} {c ix ord : List Nat} {first : Bool} {k : Nat} (h : EInv l times c ix first) (ho : IsOrd (nowL l c ix) ord) :
    EInv l times (ups c (bB ix ord k)) (nextIx l times (ups c (bB ix ord k)) ix) false where
  len := by rw [ups_len]; exact h.len
  ilen := Nat.le_trans (List.length_filter_le _ _) h.ilen
  nd := h.nd.sublist List.filter_sublist
  lt := fun i hi => h.lt i (List.mem_filter.1 hi).1
  al := fun _ i hi => by
    have := (List.mem_filter.1 hi).2
    simpa [keepR, gC] using this
  de := fun i hl hni => by
    by_cases hi : i ∈ ix
    · have h2 : ¬ keepR times (gC l (ups c (bB ix ord k)) i) = true := fun e => hni (List.mem_filter.2 ⟨hi, e⟩)
      simpa [keepR, gC] using h2
    · rw [ups_out _ _ _ (fun hb => hi (bB_sub h.nd ho i hb))]
      exact h.de i hl hi
  c0 := fun h => by cases h
  mx := fun i hl => by
    by_cases hb : i ∈ bB ix ord k
    · rw [ups_in _ _ _ (bB_nodup h.nd ho) hb (by rw [h.len]; exact hl)]
      have hi := bB_sub h.nd ho i hb
      cases first
      · have := h.al rfl i hi
        push_cast
        omega
      · rw [h.c0 rfl i]; push_cast; omega
    · rw [ups_out _ _ _ hb]; exact h.mx i hl

theorem dist_ne {l : List Rum} (hd : Distinct l) {i j : Nat} (hi : i < l.length) (hj : j < l.length) (h : (l.getD i dr).m.name = (l.getD j dr).m.name) : i = j := by
  rcases Nat.lt_trichotomy i j with hl | he | hl
  · exact absurd h (hd i j hl hj)
  · exact he
  · exact absurd h.symm (hd j i hl hi)

theorem EInv.chk {l : List Rum} {times : Int} {c ix : List Nat} (h : EInv l times c ix false) (h0 : chkR l = 0) (ht : times ≤ 100) : chkR (nowL l c ix) = 0 := by
  obtain ⟨h1, h2, h3, h4⟩ := chkR_zero h0
  have hlen := h.ilen
  refine chkR_ok (by rw [nowL_len]; omega) (fun j hj => ?_) (fun j hj => ?_) (fun i j hij hj => ?_)
  · rw [nowL_len] at hj
    rw [nowL_get hj]
    exact h2 _ (h.lt _ (by rw [ixget hj]; exact List.getElem_mem _))
  · rw [nowL_len] at hj
    rw [nowL_get hj]
    have hm : ix.getD j 0 ∈ ix := by rw [ixget hj]; exact List.getElem_mem _
    have ha := h.al rfl _ hm
    have hb := h3 _ (h.lt _ hm)
    simp only [within, Bool.and_eq_true, decide_eq_true_eq] at hb
    have h5 : 0 ≤ (l.getD (ix.getD j 0) dr).told + ((c.getD (ix.getD j 0) 0 : Nat) : Int) ∧ (l.getD (ix.getD j 0) dr).told + ((c.getD (ix.getD j 0) 0 : Nat) : Int) ≤ 100 := by omega
    show within ((l.getD (ix.getD j 0) dr).told + ((c.getD (ix.getD j 0) 0 : Nat) : Int)) 0 100 = true
    simp only [within, Bool.and_eq_true, decide_eq_true_eq]
    exact h5
  · rw [nowL_len] at hj
    rw [nowL_get hj, nowL_get (by omega)]
    intro e
    have hmi : ix.getD i 0 ∈ ix := by rw [ixget (by omega)]; exact List.getElem_mem _
    have hmj : ix.getD j 0 ∈ ix := by rw [ixget hj]; exact List.getElem_mem _
    have := ix_inj h.nd (by omega) hj (dist_ne h4 (h.lt _ hmi) (h.lt _ hmj) e)
    omega

theorem EInv.le12 {l : List Rum} {times : Int} {c ix : List Nat} {first : Bool} (h : EInv l times c ix first) (h0 : chkR l = 0) (ht : times ≤ 12) : ∀ i, i < c.length → c.getD i 0 ≤ 12 := fun i hi => by
  obtain ⟨_, _, h3, _⟩ := chkR_zero h0
  have hl : i < l.length := by rw [← h.len]; exact hi
  have h1 := h.mx i hl
  have h2 := h3 i hl
  simp only [within, Bool.and_eq_true, decide_eq_true_eq] at h2
  omega
theorem EInv.sum {l : List Rum} {times : Int} {c ix : List Nat} {first : Bool} (h : EInv l times c ix first) (h0 : chkR l = 0) (ht : times ≤ 12) : c.sum ≤ 240 := by
  obtain ⟨h1, _, _, _⟩ := chkR_zero h0
  have h2 := sum_le12 c (h.le12 h0 ht)
  have := h.len
  omega

/-- At the end each was told as often as asked for. -/
theorem EInv.fin {l : List Rum} {times : Int} {c : List Nat} {first : Bool} (h : EInv l times c [] first) {i : Nat} (hi : i < l.length) :
    ((c.getD i 0 : Nat) : Int) ≤ max 1 (times - (l.getD i dr).told) ∧ (0 < times - (l.getD i dr).told → ((c.getD i 0 : Nat) : Int) = times - (l.getD i dr).told) := by
  have h1 := h.mx i hi
  have h2 := h.de i hi (by simp)
  refine ⟨h1, fun h3 => ?_⟩
  omega

end Go.Proofs.Ytdcekfbejjjkkaa
