/- Names written. -/
import Derived.Test.YtogmkdhljifbpaaDoorF5
import Derived.Test.YtogmkdhljifbpaaDoorSP
import Derived.Test.YtogmkdhljifbpaaDoorQ7
namespace Go.Proofs.YtogmkdhljifbpaaDoor
open Go.RowKit

/-- A label behind its length. -/
def wlab (l : ByteArray) : List Value := nbs l.size 1 ++ Lib.strCells l
/-- A name as it is written. -/
def wname (s : ByteArray) : List Value := (labs s).flatMap wlab ++ nbs 0 1

theorem IsW.alloc {B b : Nat} {bs : List Value} {w : World} (h : IsW B b bs w) (o : Obj) : IsW B b bs (w.alloc o) := by
  have go : ∀ p, WAt B b p bs w → WAt B b p bs (w.alloc o) := fun p ⟨hB, v, hb, ho, hne⟩ =>
    ⟨hB, v, (Lib.alloc_old w o b (Array.getElem?_eq_some_iff.1 hb).1).trans hb, ho.alloc o, hne⟩
  rcases h with h | h
  · exact .inl (go _ h)
  · exact .inr (go _ h)
theorem IsW.lt {B b : Nat} {bs : List Value} {w : World} (h : IsW B b bs w) : b < w.heap.size := by
  rcases h with h | h
  · exact h.lt
  · exact h.lt
theorem wlab_len (l : ByteArray) : (wlab l).length = 1 + l.size := by
  unfold wlab
  rw [List.length_append, nbs_len, Lib.strCells_length]
theorem flat_len : ∀ (L : List ByteArray), (∀ x ∈ L, x.size ≤ 30) → (L.flatMap wlab).length ≤ 31 * L.length
  | [], _ => by simp
  | x :: r, h => by
    have h1 := h x List.mem_cons_self
    have h2 := flat_len r (fun y hy => h y (List.mem_cons_of_mem _ hy))
    rw [List.flatMap_cons, List.length_append, wlab_len, List.length_cons]
    omega
theorem chk_facts {s : ByteArray} (h : chkN s = 0) : (labs s).length ≤ 8 ∧ ∀ x ∈ labs s, x.size ≤ 30 := by
  rw [chkN_labs] at h
  split at h
  · omega
  · rename_i h1
    split at h
    · omega
    · rename_i h2
      refine ⟨by omega, fun x hx => ?_⟩
      have h3 : (labs s).all labB = true := by simpa using h1
      have h4 := List.all_eq_true.1 h3 x hx
      unfold labB at h4
      simp only [Bool.and_eq_true, decide_eq_true_eq] at h4
      exact h4.1.2
theorem Kp.alloc {B b : Nat} {w : World} (o : Obj) (hB : B ≤ w.heap.size) : Kp B b w (w.alloc o) := ⟨(Below.refl _ _).alloc hB _, (Lib.OthersKept.refl _ _ _).alloc _⟩

set_option maxHeartbeats 1600000 in
set_option maxRecDepth 100000 in
theorem wname_any (B b : Nat) (bs : List Value) (s : ByteArray) (w : World) (hm : ML w) (h : IsW B b bs w) (hlen : bs.length ≤ 50000) (hn : chkN s = 0) (hBw : B ≤ w.heap.size) :
    Calls Tryd.prog 67 #[.pointer (some ⟨b, 0, none⟩), .string s] w fun e w' => e = .returned (.tuple #[]) ∧ IsW B b (bs ++ wname s) w' ∧ Kp B b w w' := by
  have HI : Hid (IsW B b bs w) := h
  clear h
  by_cases h0 : s.size = 0
  · have HE : Hid (wname s = nbs 0 1) := (show wname s = nbs 0 1 by unfold wname labs; rw [if_pos h0]; rfl)
    rw [HE.out]
    have := isempty h0
    subst this
    clear HE h0 hn
    go_enter Tryd.func67, Tryd.ntmps67
    go_wp2_with fail
    refine (wnumber_any B b 1 0 bs w HI.out (by omega) (by omega) hBw).mono ?_
    rintro e w1 ⟨rfl, h1, hb1⟩
    have HW1 : Hid (IsW B b (bs ++ nbs 0 1) w1) := h1
    have HB1 : Hid (Kp B b w w1) := hb1
    clear h1 hb1
    go_wp2_with fail
    simp [bodyPost, results, Tryd.results67]
    exact ⟨HW1.out, HB1.out⟩
  · obtain ⟨n1, n2⟩ := nempty h0
    have hsz : s.size ≤ 1000 := by
      unfold chkN at hn
      rw [if_neg h0] at hn
      split at hn
      · omega
      · split at hn <;> omega
    have hl : labs s = (spl s.data.toList).map mk := if_neg h0
    have hll : (labs s).length = (spl s.data.toList).length := by rw [hl, List.length_map]
    have HSP : Hid (Calls Tryd.prog 80 #[.string s, .string ⟨#[46]⟩] w fun e w' => e = .returned (.slice (some ⟨w.heap.size, 0, none⟩) (labs s).length (labs s).length) ∧ w' = w.alloc (.cells ((labs s).map Value.string).toArray 9)) := (show Calls _ _ _ _ _ by
      have h := split_any s w hm hsz
      rw [← hl, ← hll] at h
      exact h)
    obtain ⟨hL8, hL30⟩ := chk_facts hn
    have HE : Hid (bs ++ wname s = (bs ++ (labs s).flatMap wlab) ++ nbs 0 1) := (show _ = _ by unfold wname; rw [List.append_assoc])
    rw [HE.out]
    clear HE hl hll hm hn h0
    generalize labs s = L at *
    have hbl := HI.out.lt
    go_enter Tryd.func67, Tryd.ntmps67
    go_wp2_with fail
    refine HSP.out.mono ?_
    rintro e w1 ⟨rfl, hw1⟩
    have hgl : w1.heap[w.heap.size]? = some (.cells (L.map Value.string).toArray 9 (0, 0)) := by rw [hw1]; exact heap_alloc_new w _
    have HK1 : Hid (Kp B b w w1) := (show Kp B b w w1 by rw [hw1]; exact Kp.alloc _ hBw)
    have HI1 : Hid (IsW B b bs w1) := (show IsW B b bs w1 by rw [hw1]; exact HI.out.alloc _)
    have hB1 : B ≤ w1.heap.size := Nat.le_trans hBw HK1.out.size
    have HC : Hid (∀ W, Kp B b w1 W → ∀ j, j < L.length → W.cell? ⟨w.heap.size, j, none⟩ = some (.string (L.getD j ByteArray.empty))) := fun W hW j hj => by
      have hg2 : W.heap[w.heap.size]? = some (.cells (L.map Value.string).toArray 9 (0, 0)) := hW.oth _ _ hgl (by simp; omega) (by simp)
      rw [cellsAt hg2]
      simp [List.getD, hj]
    have HL30 : Hid (∀ j, (L.getD j ByteArray.empty).size ≤ 30) := fun j => by
      by_cases hj : j < L.length
      · rw [show L.getD j ByteArray.empty = L[j] by simp [List.getD, List.getElem?_eq_getElem hj]]
        exact hL30 _ (List.getElem_mem hj)
      · rw [show L.getD j ByteArray.empty = ByteArray.empty by simp [List.getD, List.getElem?_eq_none (by omega : L.length ≤ j)]]; decide
    have HFL : Hid (∀ k, ((L.take k).flatMap wlab).length ≤ 248) := fun k => by
      refine Nat.le_trans (flat_len (L.take k) fun x hx => hL30 x (List.mem_of_mem_take hx)) ?_
      rw [List.length_take]; omega
    have HST : Hid (∀ k, k < L.length → (bs ++ (L.take k).flatMap wlab) ++ (nbs (L.getD k ByteArray.empty).size 1 ++ Lib.strCells (L.getD k ByteArray.empty)) = bs ++ (L.take (k + 1)).flatMap wlab) := fun k hk => by
      rw [List.take_succ_eq_append_getElem hk, List.flatMap_append, List.append_assoc]
      simp [wlab, List.getD, hk]
    clear hgl hw1 HSP hL30
    generalize hnn : L.length = n at *
    have HNN : Hid (L.length = n) := hnn
    clear hnn
    go_wp2_with fail
    go_loopw [11] (fun i wr => ∃ k : Nat, k ≤ n ∧ i = .int .i64 k ∧ Hid (IsW B b (bs ++ (L.take k).flatMap wlab) wr) ∧ Hid (Kp B b w1 wr)) (fun i _ => n - (intOf i).toNat)
    case atStart => exact ⟨0, Nat.zero_le _, rfl, by simpa using HI1, Kp.refl _ _ _⟩
    case round =>
      obtain ⟨k, hk, rfl, HW, HKR⟩ := hrel
      have hBr : B ≤ wr.heap.size := Nat.le_trans hB1 HKR.out.size
      by_cases hlt : k < n
      · have hc := HC.out wr HKR.out k hlt
        have hx30 := HL30.out k
        have hfl := HFL.out k
        have HS2 := HST.out k hlt
        have HS3 : Hid ((bs ++ (L.take k).flatMap wlab) ++ (nbs (L.getD k ByteArray.empty).size 1 ++ Lib.strCells (L.getD k ByteArray.empty)) = bs ++ (L.take (k + 1)).flatMap wlab) := HS2
        clear HS2
        generalize L.getD k ByteArray.empty = x at *
        go_wp2_with fail
        refine (counted_any B b _ x wr HW.out (by rw [List.length_append]; omega) (by omega) hBr).mono ?_
        rintro e w2 ⟨rfl, h2, hb2⟩
        have HW2 : Hid (IsW B b (bs ++ (L.take (k + 1)).flatMap wlab) w2) := (show IsW _ _ _ _ by rw [← HS3.out]; exact h2)
        have HK2 : Hid (Kp B b w1 w2) := HKR.out.trans hb2
        clear h2 hb2
        go_wp2_with fail
        exact ⟨⟨k + 1, by omega, by go_num, HW2, HK2⟩, by simp [intOf]; omega⟩
      · have hkn : k = n := by omega
        have HWF : Hid (IsW B b (bs ++ L.flatMap wlab) wr) := (show IsW _ _ _ _ by
          have h := HW.out
          rwa [List.take_of_length_le (by rw [HNN.out]; omega)] at h)
        have hfl := HFL.out n
        rw [List.take_of_length_le (by rw [HNN.out]; exact Nat.le_refl _)] at hfl
        go_wp2_with fail
        refine (wnumber_any B b 1 0 _ wr HWF.out (by omega) (by rw [List.length_append]; omega) hBr).mono ?_
        rintro e w2 ⟨rfl, h2, hb2⟩
        have HW2 : Hid (IsW B b ((bs ++ L.flatMap wlab) ++ nbs 0 1) w2) := h2
        have HK2 : Hid (Kp B b w w2) := (HK1.out.trans HKR.out).trans hb2
        clear h2 hb2
        go_wp2_with fail
        simp [bodyPost, results, Tryd.results67]
        exact ⟨by simpa using HW2.out, HK2.out⟩

end Go.Proofs.YtogmkdhljifbpaaDoor
