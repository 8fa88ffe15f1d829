/- SK5, LB, SK6, SK7, SK8 -/
import Derived.Test.YtignmeaeibaejaaGreatV6
import Derived.Test.YtignmeaeibaejaaGreatV2
import Derived.Laws.StructEq
import Derived.Deep.Slices
import Derived.Lib.SmallJoins
import Derived.ProofKit
/- Two lists of services, joined. -/
namespace Go.Proofs.YtignmeaeibaejaaGreat
namespace Sv
open Go.RowKit

theorem stg_len {a b : List Svc} (hla : a.length ≤ 40) (hlb : b.length ≤ 40) (k : Nat) : (stg a b k).length ≤ 80 := by
  unfold stg
  split
  · simp
  · split
    · omega
    · have := joinL_len b a; omega

/-- Of the k-th list: where it lies, and what is known behind it. -/
structure Kth (w : World) (pb : Nat) (a b : List Svc) (k : Nat) (l : List Svc) (pk : Option Addr) (ck : Nat) : Prop where
  cell : w.cell? ⟨pb, k, none⟩ = some (.slice pk l.length ck)
  row : l = [] ∨ ∃ b off, pk = some ⟨b, off, none⟩ ∧ b < w.heap.size ∧ Row w b off l
  oks : ∀ m ∈ l, (m).ok
  len : l.length ≤ 40
  len0 : (stg a b k).length ≤ 40
  rise0 : Rise (stg a b k)
  oks0 : ∀ m ∈ stg a b k, (m).ok
  step : stg a b (k + 1) = joinL (stg a b k) l

theorem kth_of {a b : List Svc} {va vb : Value} {pb : Nat} {w : World} (ha : Sl w va a) (hb : Sl w vb b) (hc0 : w.cell? ⟨pb, 0, none⟩ = some va) (hc1 : w.cell? ⟨pb, 1, none⟩ = some vb) (hla : a.length ≤ 40) (hlb : b.length ≤ 40) (ra : Rise a) (k : Nat) (hk : k < 2) :
    ∃ l pk ck, Kth w pb a b k l pk ck := by
  obtain ⟨pa, ca, rfl, nsa, ha⟩ := ha
  obtain ⟨pv, cb, rfl, nsb, hb⟩ := hb
  have hcases : k = 0 ∨ k = 1 := by omega
  rcases hcases with rfl | rfl
  · exact ⟨a, pa, ca, hc0, ha, ns_mem nsa, hla, by simp [stg], by simp [stg], by simp [stg], (joinL_nil a ra).symm⟩
  · exact ⟨b, pv, cb, hc1, hb, ns_mem nsb, hlb, hla, ra, ns_mem nsa, rfl⟩

end Sv
end Go.Proofs.YtignmeaeibaejaaGreat

/- Is each of some texts a label? -/
namespace Go.Proofs.YtignmeaeibaejaaGreat
open Go.RowKit

set_option maxHeartbeats 800000 in
theorem labels_any (ss : List ByteArray) (b cap : Nat) (w : World) (hb : ∀ j, j < ss.length → w.cell? ⟨b, j, none⟩ = some (.string (ss.getD j ByteArray.empty))) (hs : ∀ j, (ss.getD j ByteArray.empty).size ≤ maxLen) (hn : ss.length ≤ 1000) :
    Calls Tryz.prog 59 #[.slice (some ⟨b, 0, none⟩) ss.length cap] w fun e w' => e = .returned (.bool (ss.all labB)) ∧ w' = w := by
  have HB : Hid (∀ j, j < ss.length → w.cell? ⟨b, j, none⟩ = some (.string (ss.getD j ByteArray.empty))) := hb
  have HS : Hid (∀ j, (ss.getD j ByteArray.empty).size ≤ maxLen) := hs
  have H0 : Hid ((∀ j, j < ss.length → labB (ss.getD j ByteArray.empty) = true) → ss.all labB = true) := fun h => by
    rw [List.all_eq_true]
    intro x hx
    obtain ⟨j, hj, rfl⟩ := List.getElem_of_mem hx
    have := h j hj
    simpa [List.getD, List.getElem?_eq_getElem hj] using this
  have H1 : Hid (∀ j, j < ss.length → labB (ss.getD j ByteArray.empty) = false → ss.all labB = false) := fun j hj h => by
    rw [List.all_eq_false]
    refine ⟨ss[j], List.getElem_mem hj, ?_⟩
    rw [show ss.getD j ByteArray.empty = ss[j] by simp [List.getD, List.getElem?_eq_getElem hj]] at h
    simp [h]
  clear hb hs
  generalize ss.all labB = res at *
  generalize hN : ss.length = n at *
  clear hN
  go_enter Tryz.func59, Tryz.ntmps59
  go_wp2_with fail
  go_loop [7] (fun i => ∃ k : Nat, k ≤ n ∧ i = .int .i64 k ∧ Hid (∀ j, j < k → labB (ss.getD j ByteArray.empty) = true)) (fun i => n - (intOf i).toNat)
  case atStart => exact ⟨0, Nat.zero_le _, rfl, fun j h => absurd h (Nat.not_lt_zero _)⟩
  case round =>
    obtain ⟨k, hk, rfl, hz⟩ := hrel
    by_cases hlt : k < n
    · have hc := HB.out k hlt
      have hsk := HS.out k
      have HZ : Hid (labB (ss.getD k ByteArray.empty) = true → ∀ j, j < k + 1 → labB (ss.getD j ByteArray.empty) = true) := fun h j hj => by
        rcases Nat.lt_succ_iff_lt_or_eq.1 hj with h2 | rfl
        · exact hz.out j h2
        · exact h
      have HF : Hid (labB (ss.getD k ByteArray.empty) = false → res = false) := fun h => H1.out k hlt h
      generalize ss.getD k ByteArray.empty = s at *
      rcases hl : labB s with _ | _
      · have HR : Hid (res = false) := HF.out hl
        go_wp2_with (go_at_call 21; refine (label_any _ _ hsk).mono ?_; rintro e w' ⟨rfl, rfl⟩; rw [hl])
        go_ret
        exact ⟨ret_bool HR.out.symm, rfl⟩
      · go_wp2_with (go_at_call 21; refine (label_any _ _ hsk).mono ?_; rintro e w' ⟨rfl, rfl⟩; rw [hl])
        go_round
        case rel => exact ⟨k + 1, by omega, by go_num, HZ.out hl⟩
        case measure => simp [intOf]; omega
    · have HR : Hid (res = true) := H0.out fun j hj => hz.out j (by omega)
      go_wp2_with fail
      go_ret
      exact ⟨ret_bool HR.out.symm, rfl⟩

def labE (t : ByteArray) : Bool := decide (t = ByteArray.empty) || labB t

set_option maxHeartbeats 1600000 in
theorem labelsE_any (ss : List ByteArray) (b cap : Nat) (w : World) (hb : ∀ j, j < ss.length → w.cell? ⟨b, j, none⟩ = some (.string (ss.getD j ByteArray.empty))) (hs : ∀ j, (ss.getD j ByteArray.empty).size ≤ maxLen) (hn : ss.length ≤ 1000) :
    Calls Tryz.prog 34 #[.slice (some ⟨b, 0, none⟩) ss.length cap] w fun e w' => e = .returned (.bool (ss.all labE)) ∧ w' = w := by
  have HB : Hid (∀ j, j < ss.length → w.cell? ⟨b, j, none⟩ = some (.string (ss.getD j ByteArray.empty))) := hb
  have HS : Hid (∀ j, (ss.getD j ByteArray.empty).size ≤ maxLen) := hs
  have H0 : Hid ((∀ j, j < ss.length → labE (ss.getD j ByteArray.empty) = true) → ss.all labE = true) := fun h => by
    rw [List.all_eq_true]
    intro x hx
    obtain ⟨j, hj, rfl⟩ := List.getElem_of_mem hx
    have := h j hj
    simpa [List.getD, List.getElem?_eq_getElem hj] using this
  have H1 : Hid (∀ j, j < ss.length → labE (ss.getD j ByteArray.empty) = false → ss.all labE = false) := fun j hj h => by
    rw [List.all_eq_false]
    refine ⟨ss[j], List.getElem_mem hj, ?_⟩
    rw [show ss.getD j ByteArray.empty = ss[j] by simp [List.getD, List.getElem?_eq_getElem hj]] at h
    simp [h]
  clear hb hs
  generalize ss.all labE = res at *
  generalize hN : ss.length = n at *
  clear hN
  go_enter Tryz.func34, Tryz.ntmps34
  go_wp2_with fail
  go_loop [7] (fun i => ∃ k : Nat, k ≤ n ∧ i = .int .i64 k ∧ Hid (∀ j, j < k → labE (ss.getD j ByteArray.empty) = true)) (fun i => n - (intOf i).toNat)
  case atStart => exact ⟨0, Nat.zero_le _, rfl, fun j h => absurd h (Nat.not_lt_zero _)⟩
  case round =>
    obtain ⟨k, hk, rfl, hz⟩ := hrel
    by_cases hlt : k < n
    · have hc := HB.out k hlt
      have hsk := HS.out k
      have HZ : Hid (labE (ss.getD k ByteArray.empty) = true → ∀ j, j < k + 1 → labE (ss.getD j ByteArray.empty) = true) := fun h j hj => by
        rcases Nat.lt_succ_iff_lt_or_eq.1 hj with h2 | rfl
        · exact hz.out j h2
        · exact h
      have HF : Hid (labE (ss.getD k ByteArray.empty) = false → res = false) := fun h => H1.out k hlt h
      generalize ss.getD k ByteArray.empty = s at *
      by_cases hse : s = ByteArray.empty
      · subst hse
        have HZ2 : Hid (∀ j, j < k + 1 → labE (ss.getD j ByteArray.empty) = true) := HZ.out (by simp [labE])
        clear HZ HF
        go_wp2_with fail
        go_round
        case rel => exact ⟨k + 1, by omega, by go_num, HZ2.out⟩
        case measure => simp [intOf]; omega
      · have HE : Hid (labE s = labB s) := (show labE s = labB s by simp [labE, hse])
        obtain ⟨h1, h2⟩ := beq_name hse
        have h3 : ¬ s.toList = [] := fun e => h2 (by rw [e, Lib.toList_data]; rfl)
        have h4 : (s.toList == []) = false := by simpa using h3
        clear hse
        rcases hl : labB s with _ | _
        · have HR : Hid (res = false) := HF.out (by rw [HE.out, hl])
          go_wp2_with (go_at_call 21; refine (label_any _ _ hsk).mono ?_; rintro e w' ⟨rfl, rfl⟩; rw [hl])
          go_ret
          exact ⟨ret_bool HR.out.symm, rfl⟩
        · have HZ2 : Hid (∀ j, j < k + 1 → labE (ss.getD j ByteArray.empty) = true) := HZ.out (by rw [HE.out, hl])
          clear HZ HF
          go_wp2_with (go_at_call 21; refine (label_any _ _ hsk).mono ?_; rintro e w' ⟨rfl, rfl⟩; rw [hl])
          go_round
          case rel => exact ⟨k + 1, by omega, by go_num, HZ2.out⟩
          case measure => simp [intOf]; omega
    · have HR : Hid (res = true) := H0.out fun j hj => hz.out j (by omega)
      go_wp2_with fail
      go_ret
      exact ⟨ret_bool HR.out.symm, rfl⟩

theorem labE_any (t : ByteArray) (W : World) (g : Nat) (hs : t.size ≤ maxLen) (hg : W.heap[g]? = some (.cells #[.string t] 9 (0, 0))) :
    Calls Tryz.prog 34 #[.slice (some ⟨g, 0, none⟩) 1 1] W fun e w' => e = .returned (.bool (labE t)) ∧ w' = W := by
  have h := labelsE_any [t] g 1 W (fun j hj => by
    rw [cellsAt hg]
    have : j = 0 := by simp at hj; omega
    subst this; rfl) (fun j => by
    match j with
    | 0 => exact hs
    | _ + 1 => simp [List.getD]) (by simp)
  simpa using h

theorem heap_new1 (W : World) (c : Value) : (W.alloc (.cells #[c] 9)).heap[W.heap.size]? = some (.cells #[c] 9 (0, 0)) := by
  have h := heap_alloc_new W (.cells #[c] 9)
  simpa using h

end Go.Proofs.YtignmeaeibaejaaGreat

/- services: Check, one list and two; join. -/
namespace Go.Proofs.YtignmeaeibaejaaGreat
namespace Sv
open Go.RowKit



theorem tag_any (t : ByteArray) (W : World) (g : Nat) (hs : t.size ≤ maxLen) (hg : W.heap[g]? = some (.cells #[.string t] 9 (0, 0))) :
    Calls Tryz.prog 34 #[.slice (some ⟨g, 0, none⟩) 1 1] W fun e w' => e = .returned (.bool (tagB t)) ∧ w' = W := labE_any t W g hs hg

def lab3 (m : Svc) : Bool := [m.node, m.idn, m.name].all labB
theorem Svc.e_def (m : Svc) : m.e = if lab3 m = true then (if tagB m.tag = true then (if within m.addr 0 4294967295 = true then (if within m.port 0 65535 = true then (if within m.version 1 1000000 = true then 0 else 3) else 3) else 3) else 1) else 1 := by
  unfold Svc.e lab3
  simp only [List.all_cons, List.all_nil, Bool.and_true]
  cases labB m.node <;> cases labB m.idn <;> cases labB m.name <;> cases tagB m.tag <;> cases within m.addr 0 4294967295 <;> cases within m.port 0 65535 <;> cases within m.version 1 1000000 <;> rfl

theorem labels3_any (m : Svc) (hm : m.ok) (W : World) (g : Nat) (hg : W.heap[g]? = some (.cells #[.string m.node, .string m.idn, .string m.name] 9 (0, 0))) :
    Calls Tryz.prog 59 #[.slice (some ⟨g, 0, none⟩) 3 3] W fun e w' => e = .returned (.bool (lab3 m)) ∧ w' = W := by
  refine labels_any [m.node, m.idn, m.name] g 3 W (fun j hj => ?_) (fun j => ?_) (by simp)
  · rw [cellsAt hg]
    have : j = 0 ∨ j = 1 ∨ j = 2 := by simp at hj; omega
    rcases this with rfl | rfl | rfl <;> rfl
  · obtain ⟨h1, h2, h3, h4⟩ := hm
    match j with
    | 0 => exact h1
    | 1 => exact h2
    | 2 => exact h3
    | _ + 3 => simp [List.getD]

set_option maxHeartbeats 1600000 in
theorem checkOneE_any (m : Svc) (w : World) (hm : m.ok) :
    Calls Tryz.prog 38 #[.agg #[.string m.node, .string m.idn, .string m.name, .string m.tag, .int .i64 m.addr, .int .i64 m.port, .bool m.passing, .int .i64 m.version, .bool m.gone]] w fun e w' => e = .returned (.int .i64 m.e) ∧ Below w.heap.size w w' := by
  have hs : m.tag.size ≤ maxLen := hm.2.2.2
  have hB : Hid (Below w.heap.size w ((w.alloc (.cells #[.string m.node, .string m.idn, .string m.name, .string m.tag, .int .i64 m.addr, .int .i64 m.port, .bool m.passing, .int .i64 m.version, .bool m.gone] 39)).alloc (.cells #[.string m.node, .string m.idn, .string m.name] 9))) := ((Below.refl _ _).alloc (Nat.le_refl _) _).alloc (by simp) _
  have hg : ((w.alloc (.cells #[.string m.node, .string m.idn, .string m.name, .string m.tag, .int .i64 m.addr, .int .i64 m.port, .bool m.passing, .int .i64 m.version, .bool m.gone] 39)).alloc (.cells #[.string m.node, .string m.idn, .string m.name] 9)).heap[w.heap.size + 1]? = some (.cells #[.string m.node, .string m.idn, .string m.name] 9 (0, 0)) := by
    have h := heap_alloc_new (w.alloc (.cells #[.string m.node, .string m.idn, .string m.name, .string m.tag, .int .i64 m.addr, .int .i64 m.port, .bool m.passing, .int .i64 m.version, .bool m.gone] 39)) (.cells #[.string m.node, .string m.idn, .string m.name] 9)
    simpa using h
  have HL : Hid (Calls Tryz.prog 59 #[.slice (some ⟨w.heap.size + 1, 0, none⟩) 3 3] ((w.alloc (.cells #[.string m.node, .string m.idn, .string m.name, .string m.tag, .int .i64 m.addr, .int .i64 m.port, .bool m.passing, .int .i64 m.version, .bool m.gone] 39)).alloc (.cells #[.string m.node, .string m.idn, .string m.name] 9)) fun e w' => e = .returned (.bool (lab3 m)) ∧ w' = (w.alloc (.cells #[.string m.node, .string m.idn, .string m.name, .string m.tag, .int .i64 m.addr, .int .i64 m.port, .bool m.passing, .int .i64 m.version, .bool m.gone] 39)).alloc (.cells #[.string m.node, .string m.idn, .string m.name] 9)) := labels3_any m hm _ _ hg
  clear hg
  have hB3 : Hid (Below w.heap.size w (((w.alloc (.cells #[.string m.node, .string m.idn, .string m.name, .string m.tag, .int .i64 m.addr, .int .i64 m.port, .bool m.passing, .int .i64 m.version, .bool m.gone] 39)).alloc (.cells #[.string m.node, .string m.idn, .string m.name] 9)).alloc (.cells #[.string m.tag] 9))) := hB.out.alloc (by simp; omega) _
  have hg3 : (((w.alloc (.cells #[.string m.node, .string m.idn, .string m.name, .string m.tag, .int .i64 m.addr, .int .i64 m.port, .bool m.passing, .int .i64 m.version, .bool m.gone] 39)).alloc (.cells #[.string m.node, .string m.idn, .string m.name] 9)).alloc (.cells #[.string m.tag] 9)).heap[w.heap.size + 2]? = some (.cells #[.string m.tag] 9 (0, 0)) := by
    have h := heap_alloc_new ((w.alloc (.cells #[.string m.node, .string m.idn, .string m.name, .string m.tag, .int .i64 m.addr, .int .i64 m.port, .bool m.passing, .int .i64 m.version, .bool m.gone] 39)).alloc (.cells #[.string m.node, .string m.idn, .string m.name] 9)) (.cells #[.string m.tag] 9)
    simpa using h
  have HT : Hid (Calls Tryz.prog 34 #[.slice (some ⟨w.heap.size + 2, 0, none⟩) 1 1] (((w.alloc (.cells #[.string m.node, .string m.idn, .string m.name, .string m.tag, .int .i64 m.addr, .int .i64 m.port, .bool m.passing, .int .i64 m.version, .bool m.gone] 39)).alloc (.cells #[.string m.node, .string m.idn, .string m.name] 9)).alloc (.cells #[.string m.tag] 9)) fun e w' => e = .returned (.bool (tagB m.tag)) ∧ w' = (((w.alloc (.cells #[.string m.node, .string m.idn, .string m.name, .string m.tag, .int .i64 m.addr, .int .i64 m.port, .bool m.passing, .int .i64 m.version, .bool m.gone] 39)).alloc (.cells #[.string m.node, .string m.idn, .string m.name] 9)).alloc (.cells #[.string m.tag] 9))) := tag_any m.tag _ _ hs hg3
  clear hg3
  have HD : Hid (m.e = if lab3 m = true then (if tagB m.tag = true then (if within m.addr 0 4294967295 = true then (if within m.port 0 65535 = true then (if within m.version 1 1000000 = true then 0 else 3) else 3) else 3) else 1) else 1) := m.e_def
  clear hm
  rcases h1 : lab3 m with _ | _
  · go_enter Tryz.func38, Tryz.ntmps38
    go_wp2_with (go_at_call 59; refine HL.out.mono ?_; rintro e w' ⟨rfl, rfl⟩; rw [h1])
    go_ret
    exact ⟨ret_int (by rw [HD.out]; simp [h1]), hB.out⟩
  · rcases h2 : tagB m.tag with _ | _
    · go_enter Tryz.func38, Tryz.ntmps38
      go_wp2_with (first | (go_at_call 59; refine HL.out.mono ?_; rintro e w' ⟨rfl, rfl⟩; rw [h1]) | (go_at_call 34; refine HT.out.mono ?_; rintro e w' ⟨rfl, rfl⟩; rw [h2]))
      go_ret
      exact ⟨ret_int (by rw [HD.out]; simp [h1, h2]), hB3.out⟩
    · rcases h3 : within m.addr 0 4294967295 with _ | _
      · go_enter Tryz.func38, Tryz.ntmps38
        go_wp2_with (first | (go_at_call 59; refine HL.out.mono ?_; rintro e w' ⟨rfl, rfl⟩; rw [h1]) | (go_at_call 34; refine HT.out.mono ?_; rintro e w' ⟨rfl, rfl⟩; rw [h2]) | (go_at_call 60; refine (address_any _ _).mono ?_; rintro e w' ⟨rfl, rfl⟩; rw [h3]))
        go_ret
        exact ⟨ret_int (by rw [HD.out]; simp [h1, h2, h3]), hB3.out⟩
      · rcases h4 : within m.port 0 65535 with _ | _
        · go_enter Tryz.func38, Tryz.ntmps38
          go_wp2_with (first | (go_at_call 59; refine HL.out.mono ?_; rintro e w' ⟨rfl, rfl⟩; rw [h1]) | (go_at_call 34; refine HT.out.mono ?_; rintro e w' ⟨rfl, rfl⟩; rw [h2]) | (go_at_call 60; refine (address_any _ _).mono ?_; rintro e w' ⟨rfl, rfl⟩; rw [h3]) | (go_at_call 36; refine (within_any _ _ _ _).mono ?_; rintro e w' ⟨rfl, rfl⟩; rw [h4]))
          go_ret
          exact ⟨ret_int (by rw [HD.out]; simp [h1, h2, h3, h4]), hB3.out⟩
        · rcases h5 : within m.version 1 1000000 with _ | _
          all_goals
            go_enter Tryz.func38, Tryz.ntmps38
            go_wp2_with (first | (go_at_call 59; refine HL.out.mono ?_; rintro e w' ⟨rfl, rfl⟩; rw [h1]) | (go_at_call 34; refine HT.out.mono ?_; rintro e w' ⟨rfl, rfl⟩; rw [h2]) | (go_at_call 60; refine (address_any _ _).mono ?_; rintro e w' ⟨rfl, rfl⟩; rw [h3]) | (go_at_call 36; refine (within_any _ _ _ _).mono ?_; rintro e w' ⟨rfl, rfl⟩; first | rw [h4] | rw [h5]))
            go_ret
            exact ⟨ret_int (by rw [HD.out]; simp [h1, h2, h3, h4, h5]), hB3.out⟩

set_option maxHeartbeats 800000 in
theorem check_row (ms : List Svc) (b off cap : Nat) (w : World) (hr : Row w b off ms) (hb : b < w.heap.size) (hn : ms.length ≤ 40) (hs : ∀ j, (ms.getD j dm).ok) :
    Calls Tryz.prog 22 #[.slice (some ⟨b, off, none⟩) ms.length cap] w fun e w' => e = .returned (.int .i64 (chk ms)) ∧ Below w.heap.size w w' := by
  have HR : Hid (Row w b off ms) := hr
  have HE : Hid (∀ k, k < ms.length → (∀ j, j < k → (ms.getD j dm).e = 0) → (ms.getD k dm).e ≠ 0 → chk ms = (ms.getD k dm).e) := fun k h1 h2 h3 => chk_e ms k hn h1 h2 h3
  have H4 : Hid ((∀ j, j < ms.length → (ms.getD j dm).e = 0) → chk ms = if risesB ms = true then 0 else 4) := fun h1 => chk_r ms hn h1
  have HSl : Hid (∀ w', Below w.heap.size w w' → Calls Tryz.prog 39 #[.slice (some ⟨b, off, none⟩) ms.length cap, .func (.func 40) #[] #[]] w' fun e w'' => e = .returned (.bool (risesB ms)) ∧ Below w'.heap.size w' w'') := fun w' hbw => rises_row ms b off cap w' (hr.later hbw hb) (Nat.lt_of_lt_of_le hb hbw.size) hn
  clear hr
  generalize hN : ms.length = n at *
  have HN : Hid (ms.length = n) := hN
  clear hN
  have HS : Hid (∀ j, (ms.getD j dm).ok) := hs
  clear hs
  generalize hC : chk ms = res at *
  have HC : Hid (chk ms = res) := hC
  clear hC
  generalize hRB : risesB ms = rb at *
  have HRB : Hid (risesB ms = rb) := hRB
  clear hRB
  go_enter Tryz.func22, Tryz.ntmps22
  go_wp2_with fail
  go_loopw [11] (fun i w' => ∃ k : Nat, k ≤ n ∧ i = .int .i64 k ∧ Below w.heap.size w w' ∧ Hid (∀ j, j < k → (ms.getD j dm).e = 0)) (fun i _ => n - (intOf i).toNat)
  case atStart => exact ⟨0, Nat.zero_le _, rfl, Below.refl _ _, fun j h => absurd h (Nat.not_lt_zero _)⟩
  case round =>
    obtain ⟨k, hk, rfl, hbl, hz⟩ := hrel
    obtain ⟨hbc, hbf⟩ := bcell hbl
    have hsz := hbl.size
    by_cases hlt : k < n
    · obtain ⟨c0, c1, c2, c3, c4, c5, c6, c7, c8⟩ := HR.out k (by rw [HN.out]; exact hlt)
      have HSK : Hid ((ms.getD k dm).ok) := HS.out k
      have HK : Hid ((ms.getD k dm).e ≠ 0 → res = (ms.getD k dm).e) := fun h => HE.out k hlt hz.out h
      have HZ : Hid ((ms.getD k dm).e = 0 → ∀ j, j < k + 1 → (ms.getD j dm).e = 0) := fun h j hj => by
        rcases Nat.lt_succ_iff_lt_or_eq.1 hj with h2 | rfl
        · exact hz.out j h2
        · exact h
      generalize ms.getD k dm = m at *
      have HO : Hid (∀ w, Calls Tryz.prog 38 #[.agg #[.string m.node, .string m.idn, .string m.name, .string m.tag, .int .i64 m.addr, .int .i64 m.port, .bool m.passing, .int .i64 m.version, .bool m.gone]] w fun e w' => e = .returned (.int .i64 m.e) ∧ Below w.heap.size w w') := fun w => checkOneE_any m w HSK.out
      generalize m.e = me at *
      rcases he : decide (me = 0) with _ | _
      · have he' : (me != 0) = true := by simpa using he
        clear he
        go_wp2_with (go_at_call 38; refine (HO.out _).mono ?_; rintro e w' ⟨rfl, hb2⟩)
        go_ret
        have hne : me ≠ 0 := by simpa using he'
        have hres : res = me := HK.out hne
        exact ⟨ret_int hres.symm, (hbl.alloc hsz _).trans (hb2.mono (by simp; omega))⟩
      · have he' : (me != 0) = false := by simpa using he
        clear he
        go_wp2_with (go_at_call 38; refine (HO.out _).mono ?_; rintro e w' ⟨rfl, hb2⟩)
        go_roundw
        case rel =>
          have he0 : me = 0 := by simpa using he'
          exact ⟨k + 1, by omega, by go_num, (hbl.alloc hsz _).trans (hb2.mono (by simp; omega)), HZ.out he0⟩
        case measure => simp [intOf]; omega
    · have hall : Hid (∀ j, j < n → (ms.getD j dm).e = 0) := fun j hj => hz.out j (by omega)
      have HRes : Hid (res = if rb = true then 0 else 4) := H4.out hall.out
      clear hz hall H4 HE HC HRB
      cases rb
      · go_wp2_with (go_at_call 39; refine (HSl.out _ hbl).mono ?_; rintro e w' ⟨rfl, hb2⟩)
        go_ret
        exact ⟨ret_int (by rw [HRes.out]; rfl), hbl.trans (hb2.mono hsz)⟩
      · go_wp2_with (go_at_call 39; refine (HSl.out _ hbl).mono ?_; rintro e w' ⟨rfl, hb2⟩)
        go_ret
        exact ⟨ret_int (by rw [HRes.out]; rfl), hbl.trans (hb2.mono hsz)⟩

set_option maxHeartbeats 400000 in
theorem check_many (a : Option Addr) (n cap : Nat) (w : World) (hn : 40 < n) :
    Calls Tryz.prog 22 #[.slice a n cap] w fun e w' => e = .returned (.int .i64 2) ∧ w' = w := by
  go_enter Tryz.func22, Tryz.ntmps22
  go_wp2_with fail
  go_ret
  exact ⟨rfl, rfl⟩
set_option maxHeartbeats 400000 in
theorem check_none (a : Option Addr) (cap : Nat) (w : World) :
    Calls Tryz.prog 22 #[.slice a 0 cap] w fun e w' => e = .returned (.int .i64 0) ∧ w' = w := by
  go_enter Tryz.func22, Tryz.ntmps22
  go_wp2_with fail
  go_loop [11] (fun i => i = .int .i64 0) (fun _ => 0)
  case atStart => rfl
  case round =>
    subst hrel
    go_wp2_with (go_at_call 39; refine (rises_none _ _ _ _).mono ?_; rintro e w' ⟨rfl, rfl⟩)
    go_ret
    exact ⟨rfl, rfl⟩

theorem check_any (ms : List Svc) (v : Value) (w : World) (h : Sl w v ms) :
    Calls Tryz.prog 22 #[v] w fun e w' => e = .returned (.int .i64 (chk ms)) ∧ Below w.heap.size w w' := by
  obtain ⟨a, cap, rfl, hs, h⟩ := h
  by_cases hn : 40 < ms.length
  · refine (check_many a ms.length cap w hn).mono ?_
    rintro e w' ⟨rfl, rfl⟩
    exact ⟨ret_int (by rw [chk, if_pos hn]), Below.refl _ _⟩
  · rcases h with rfl | ⟨b, off, rfl, hb, hr⟩
    · refine (check_none a cap w).mono ?_
      rintro e w' ⟨rfl, rfl⟩
      exact ⟨rfl, Below.refl _ _⟩
    · exact check_row ms b off cap w hr hb (by omega) hs

end Sv
end Go.Proofs.YtignmeaeibaejaaGreat

/- services: Join; are two lists the same; what a law is handed. -/
namespace Go.Proofs.YtignmeaeibaejaaGreat
namespace Sv
open Go.RowKit

theorem joinE_bad1 {a b : List Svc} (h : chk a ≠ 0) : joinE a b = chk a := by
  have : chkTwo a b = chk a := if_neg h
  rw [joinE, this, if_neg h]
theorem joinE_bad2 {a b : List Svc} (h : chk a = 0) (h2 : chk b ≠ 0) : joinE a b = chk b := by
  have : chkTwo a b = chk b := if_pos h
  rw [joinE, this, if_neg h2]
theorem joinE_good {a b : List Svc} (h : chk a = 0) (h2 : chk b = 0) : joinE a b = if 40 < (joinL a b).length then 2 else 0 := by
  have : chkTwo a b = 0 := (if_pos h).trans h2
  rw [joinE, if_pos this]
theorem sl_nil (w : World) : Sl w (.slice none 0 0) [] := ⟨none, 0, rfl, ns_get (by simp), .inl rfl⟩

def sameM (x y : Svc) : Bool := x.node.toList == y.node.toList && (x.idn.toList == y.idn.toList && (x.name.toList == y.name.toList && (x.tag.toList == y.tag.toList && (x.addr == y.addr && (x.port == y.port && (x.passing == y.passing && (x.version == y.version && (x.gone == y.gone))))))))

theorem sameM_iff (x y : Svc) : sameM x y = true ↔ x = y := by
  obtain ⟨x_node, x_idn, x_name, x_tag, x_addr, x_port, x_passing, x_version, x_gone⟩ := x
  obtain ⟨y_node, y_idn, y_name, y_tag, y_addr, y_port, y_passing, y_version, y_gone⟩ := y
  simp only [sameM, Bool.and_eq_true, beq_iff_eq, Svc.mk.injEq, Lib.toList_data]
  constructor
  · rintro ⟨h0, h1, h2, h3, h4, h5, h6, h7, h8⟩; exact ⟨ba_ext h0, ba_ext h1, ba_ext h2, ba_ext h3, h4, h5, h6, h7, h8⟩
  · rintro ⟨h0, h1, h2, h3, h4, h5, h6, h7, h8⟩; exact ⟨by rw [h0], by rw [h1], by rw [h2], by rw [h3], h4, h5, h6, h7, h8⟩

theorem eqInE (m1 m2 : Svc) (w : World) : (Op.equalIn 10000 39 (.agg #[.string m1.node, .string m1.idn, .string m1.name, .string m1.tag, .int .i64 m1.addr, .int .i64 m1.port, .bool m1.passing, .int .i64 m1.version, .bool m1.gone]) (.agg #[.string m2.node, .string m2.idn, .string m2.name, .string m2.tag, .int .i64 m2.addr, .int .i64 m2.port, .bool m2.passing, .int .i64 m2.version, .bool m2.gone])).run Tryz.prog w = .ok (sameM m1 m2) w := by
  have u3 := Tryz.underlying3
  have u9 := Tryz.underlying9
  have a3 := Tryz.isAgg3
  have z3 := Tryz.sizeOf3
  have a9 := Tryz.isAgg9
  have z9 := Tryz.sizeOf9
  have u4 := Tryz.underlying4
  have a4 := Tryz.isAgg4
  have z4 := Tryz.sizeOf4
  have hS : Tryz.prog.underlying 39 = some (.struct (Tryz.prog.fieldsOf 39)) := by kernel_rfl
  have hp : Tryz.prog.stoodInHeld 39 = false := by kernel_rfl
  rw [show (10000 : Nat) = 9999 + 1 from rfl, run_equalIn_agg w 9999 39 _ _ hS hp]
  simp only [Program.fieldsOf, Tryz.underlying39]
  go_simp
  unfold sameM
  by_cases h0 : m1.node.toList = m2.node.toList
  case neg => simp [h0]
  by_cases h1 : m1.idn.toList = m2.idn.toList
  case neg => simp [h0, h1]
  by_cases h2 : m1.name.toList = m2.name.toList
  case neg => simp [h0, h1, h2]
  by_cases h3 : m1.tag.toList = m2.tag.toList
  case neg => simp [h0, h1, h2, h3]
  by_cases h4 : m1.addr = m2.addr
  case neg => simp [h0, h1, h2, h3, h4]
  by_cases h5 : m1.port = m2.port
  case neg => simp [h0, h1, h2, h3, h4, h5]
  by_cases h6 : m1.passing = m2.passing
  case neg => simp [h0, h1, h2, h3, h4, h5, h6]
  by_cases h7 : m1.version = m2.version
  case neg => simp [h0, h1, h2, h3, h4, h5, h6, h7]
  by_cases h8 : m1.gone = m2.gone
  case neg => simp [h0, h1, h2, h3, h4, h5, h6, h7, h8]
  simp [h0, h1, h2, h3, h4, h5, h6, h7, h8]

theorem neqE (m1 m2 : Svc) (w : World) : Sem.run Tryz.prog (binOp .neq 39 (.agg #[.string m1.node, .string m1.idn, .string m1.name, .string m1.tag, .int .i64 m1.addr, .int .i64 m1.port, .bool m1.passing, .int .i64 m1.version, .bool m1.gone]) (.agg #[.string m2.node, .string m2.idn, .string m2.name, .string m2.tag, .int .i64 m2.addr, .int .i64 m2.port, .bool m2.passing, .int .i64 m2.version, .bool m2.gone])) w = .ok (.bool (!sameM m1 m2)) w := by
  rw [run_neq_struct, eqInE]
  rfl

section
open Go.ChangeShapes Go.WideShapes Go.ChangeAt
variable {H : Type} {enc : TypeId × Value → H} {w : World} {base : Nat} {spare : Nat → Bool} {held : Bool}

theorem Tryz.cells39 : Tryz.prog.cellsOf 39 = 9 := by kernel_rfl
theorem Tryz.cells9 : Tryz.prog.cellsOf 9 = 1 := by kernel_rfl
theorem Tryz.cells3 : Tryz.prog.cellsOf 3 = 1 := by kernel_rfl
theorem Tryz.cells4 : Tryz.prog.cellsOf 4 = 1 := by kernel_rfl

set_option maxRecDepth 100000 in
theorem el_of_trod {fuel : Nat} {cs : List Value} {x : DataW H × List MemPlace} (h : DataW.trod enc Tryz.prog w base spare held fuel 39 cs = some x) :
    ∃ m : Svc, cs = [.string m.node, .string m.idn, .string m.name, .string m.tag, .int .i64 m.addr, .int .i64 m.port, .bool m.passing, .int .i64 m.version, .bool m.gone] ∧ (m).ok := by
  obtain ⟨xs, n, _, _, hl, hlen, hf⟩ := DataW.trod_struct Tryz.underlying39 h
  rw [Tryz.cells39] at hl
  match cs, hl with
  | [c0, c1, c2, c3, c4, c5, c6, c7, c8], _ =>
    match xs, hlen with
    | [y0, y1, y2, y3, y4, y5, y6, y7, y8], _ =>
      have h0 := hf 0 _ rfl
      have h1 := hf 1 _ rfl
      have h2 := hf 2 _ rfl
      have h3 := hf 3 _ rfl
      have h4 := hf 4 _ rfl
      have h5 := hf 5 _ rfl
      have h6 := hf 6 _ rfl
      have h7 := hf 7 _ rfl
      have h8 := hf 8 _ rfl
      simp [Tryz.cells9] at h0
      simp [Tryz.cells9] at h1
      simp [Tryz.cells9] at h2
      simp [Tryz.cells9] at h3
      simp [Tryz.cells3] at h4
      simp [Tryz.cells3] at h5
      simp [Tryz.cells4] at h6
      simp [Tryz.cells3] at h7
      simp [Tryz.cells4] at h8
      obtain ⟨z0, e0, _, g0⟩ := DataW.trod_string Tryz.underlying9 h0
      obtain ⟨z1, e1, _, g1⟩ := DataW.trod_string Tryz.underlying9 h1
      obtain ⟨z2, e2, _, g2⟩ := DataW.trod_string Tryz.underlying9 h2
      obtain ⟨z3, e3, _, g3⟩ := DataW.trod_string Tryz.underlying9 h3
      obtain ⟨z4, e4, _⟩ := DataW.trod_int Tryz.underlying3 h4
      obtain ⟨z5, e5, _⟩ := DataW.trod_int Tryz.underlying3 h5
      obtain ⟨z6, e6, _⟩ := DataW.trod_bool Tryz.underlying4 h6
      obtain ⟨z7, e7, _⟩ := DataW.trod_int Tryz.underlying3 h7
      obtain ⟨z8, e8, _⟩ := DataW.trod_bool Tryz.underlying4 h8
      simp only [List.cons.injEq, and_true] at e0 e1 e2 e3 e4 e5 e6 e7 e8
      subst e0 e1 e2 e3 e4 e5 e6 e7 e8
      exact ⟨⟨z0, z1, z2, z3, z4, z5, z6, z7, z8⟩, rfl, ⟨g0, g1, g2, g3⟩⟩

set_option maxRecDepth 100000 in
theorem open_el {r : Reach} {b0 : Nat} {v : Value} {d : DataW H} {p : List MemPlace} (hv : Value.okWide Tryz.prog w r b0 39 v) (h : DataW.Trod enc Tryz.prog w base spare held 39 v d p) :
    ∃ m : Svc, v = .agg #[.string m.node, .string m.idn, .string m.name, .string m.tag, .int .i64 m.addr, .int .i64 m.port, .bool m.passing, .int .i64 m.version, .bool m.gone] ∧ (m).ok := by
  obtain ⟨cs, rfl, hsz⟩ := okWide_struct Tryz.underlying39 hv
  obtain ⟨fuel, hf⟩ := h
  obtain ⟨m, hm, hs⟩ := el_of_trod hf
  refine ⟨m, ?_, hs⟩
  simp only [Value.cells] at hm
  congr 1
  apply Array.ext'
  exact hm

set_option maxRecDepth 100000 in
theorem open_els {r : Reach} {b0 : Nat} {v : Value} {d : DataW H} {p : List MemPlace} (hv : Value.okWide Tryz.prog w r b0 24 v) (h : DataW.Trod enc Tryz.prog w base spare held 24 v d p) :
    ∃ ms : List Svc, Sl w v ms ∧ ms.length ≤ maxLen := by
  obtain ⟨a, len, cap, rfl⟩ := okWide_slice Tryz.underlying24 hv
  obtain ⟨fuel, hf⟩ := h
  rcases Go.Deep.open_slice Tryz.underlying24 hf with ⟨hcs, _⟩ | ⟨x, l, c, m, n, D, Pl, hcs, hb, hl, hm, hmm, _, hx⟩
  · simp [Value.cells] at hcs
    obtain ⟨rfl, rfl, rfl⟩ := hcs
    exact ⟨[], ⟨none, 0, rfl, ns_get (by simp), .inl rfl⟩, by simp⟩
  · simp [Value.cells] at hcs
    obtain ⟨rfl, rfl, rfl⟩ := hcs
    have hlm : len ≤ m := by rw [hmm]; split <;> omega
    have hall : ∀ i, i < len → ∃ q : Svc, (∀ t, t < 9 → w.cell? (x.add (i * 9 + t)) = q.cs[t]?) ∧ (q).ok := fun i hi => by
      obtain ⟨cs', h1, h2⟩ := hx i (by omega)
      obtain ⟨q, hq, hs⟩ := el_of_trod h2
      rw [Tryz.cells39] at h1
      obtain ⟨_, _, h3⟩ := World.cells?_some h1
      refine ⟨q, fun t ht => ?_, hs⟩
      rw [← Go.Deep.add_add, h3 t ht, hq]
      rfl
    have hinh : Inhabited Svc := ⟨dm⟩
    obtain ⟨F, hF⟩ := Go.Deep.choose_lt (α := Svc) (p := fun i q => (∀ t, t < 9 → w.cell? (x.add (i * 9 + t)) = q.cs[t]?) ∧ (q).ok) hall
    have hget : ∀ j, j < len → ((List.range len).map F).getD j dm = F j := fun j hj => by simp [List.getD, hj]
    refine ⟨(List.range len).map F, ⟨some x, cap, by simp, ns_get (fun q hq => ?_), ?_⟩, by simp; omega⟩
    · obtain ⟨j, hj, rfl⟩ := List.mem_map.1 hq
      exact (hF j (List.mem_range.1 hj)).2
    · by_cases h0 : len = 0
      · left; simp [h0]
      · right
        obtain ⟨b, off, spot⟩ := x
        have hc0 := (hF 0 (by omega)).1 0 (by omega)
        have hspot : spot = none := by simpa [Addr.add] using World.cell?_spot hc0
        subst hspot
        have hcell : ∀ j, j < len → ∀ t, t < 9 → w.cell? ⟨b, off + j * 9 + t, none⟩ = (F j).cs[t]? := fun j hj t ht => by
          have := (hF j hj).1 t ht
          rwa [Go.WideShapes.add_plain, ← Nat.add_assoc] at this
        refine ⟨b, off, rfl, World.block_lt_of_cell? w ⟨b, off + 0 * 9 + 0, none⟩ (hcell 0 (by omega) 0 (by omega)), fun j hj => ?_⟩
        have hj' : j < len := by simpa using hj
        rw [hget j hj']
        exact ⟨hcell j hj' 0 (by omega), hcell j hj' 1 (by omega), hcell j hj' 2 (by omega), hcell j hj' 3 (by omega), hcell j hj' 4 (by omega), hcell j hj' 5 (by omega), hcell j hj' 6 (by omega), hcell j hj' 7 (by omega), hcell j hj' 8 (by omega)⟩

end
end Sv
end Go.Proofs.YtignmeaeibaejaaGreat

/- services: find. -/
namespace Go.Proofs.YtignmeaeibaejaaGreat
namespace Sv
open Go.RowKit

/-- What find tells. -/
def fnd (ms : List Svc) (p : Nat) (f : Bool) : Svc := if f = true then ms.getD p dm else dm

end Sv
end Go.Proofs.YtignmeaeibaejaaGreat

