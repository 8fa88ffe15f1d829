
/- Pools: checkAll and join. -/
import Derived.Test.YtonbaiaoelegaacH
namespace Go.Proofs.Ytonbaiaoelegaac
open Go.RowKit

theorem Sl.below {w w' : World} {v : Value} {ms : List Mem} (h : Sl w v ms) (hb : Below w.heap.size w w') : Sl w' v ms := by
  obtain ⟨a, cap, rfl, hs, h⟩ := h
  refine ⟨a, cap, rfl, hs, ?_⟩
  rcases h with h | ⟨b, off, rfl, hlt, hr⟩
  · exact .inl h
  · refine .inr ⟨b, off, rfl, Nat.lt_of_lt_of_le hlt hb.size, fun j hj => ?_⟩
    obtain ⟨hc, _⟩ := bcell hb
    obtain ⟨c0, c1, c2, c3, c4⟩ := hr j hj
    exact ⟨(hc _ _ hlt).trans c0, (hc _ _ hlt).trans c1, (hc _ _ hlt).trans c2, (hc _ _ hlt).trans c3, (hc _ _ hlt).trans c4⟩

theorem Own.mono {base base' : Nat} {w : World} {v : Value} {ms : List Mem} (h : Own base w v ms) (hb : base' ≤ base) : Own base' w v ms := by
  rcases h.2 with ⟨rfl, h0⟩ | ⟨g, c, cur, rfl, hbg, hg, hnc, hcm, hcs, htake⟩
  · exact ⟨h.1, .inl ⟨rfl, h0⟩⟩
  · exact ⟨h.1, .inr ⟨g, c, cur, rfl, Nat.le_trans hb hbg, hg, hnc, hcm, hcs, htake⟩⟩

theorem own_nil (base : Nat) (w : World) : Own base w (.slice none 0 0) [] := World.ownsRow_nil w base 24 5

theorem ns_mem {ms : List Mem} (h : ∀ j, (ms.getD j dm).name.size ≤ maxLen) : ∀ m ∈ ms, m.name.size ≤ maxLen := by
  intro m hm
  obtain ⟨j, hj, rfl⟩ := List.getElem_of_mem hm
  have := h j
  simpa [List.getD, List.getElem?_eq_getElem hj] using this
theorem ns_get {ms : List Mem} (h : ∀ m ∈ ms, m.name.size ≤ maxLen) : ∀ j, (ms.getD j dm).name.size ≤ maxLen := by
  intro j
  by_cases hj : j < ms.length
  · have := h ms[j] (List.getElem_mem hj)
    simpa [List.getD, List.getElem?_eq_getElem hj] using this
  · simp [List.getD, List.getElem?_eq_none (Nat.le_of_not_lt hj), dm]
theorem ns_hear {ms : List Mem} {m : Mem} (h : ∀ m ∈ ms, m.name.size ≤ maxLen) (hm : m.name.size ≤ maxLen) : ∀ x ∈ hearL ms m, x.name.size ≤ maxLen := by
  intro x hx
  rcases hearL_mem ms m x hx with rfl | hx
  · exact hm
  · exact h x hx
theorem ns_join : ∀ (b a : List Mem), (∀ m ∈ a, m.name.size ≤ maxLen) → (∀ m ∈ b, m.name.size ≤ maxLen) → ∀ x ∈ joinL a b, x.name.size ≤ maxLen
  | [], _, ha, _ => ha
  | m :: r, a, ha, hb => ns_join r (hearL a m) (ns_hear ha (hb m (by simp))) (fun x hx => hb x (by simp [hx]))

theorem joinL_take (a b : List Mem) (j : Nat) (hj : j < b.length) : joinL a (b.take (j + 1)) = hearL (joinL a (b.take j)) (b.getD j dm) := by
  have e : b.getD j dm = b[j] := by simp [List.getD, List.getElem?_eq_getElem hj]
  rw [e, List.take_succ_eq_append_getElem hj, joinL, List.foldl_append, joinL]
  rfl

theorem hearL_last : ∀ (a : List Mem) (m : Mem), (∀ x ∈ a, less x.name m.name = true) → hearL a m = a ++ [m]
  | [], _, _ => rfl
  | x :: r, m, h => by
    rw [hearL, if_pos ((cmpI_lt _ _).2 (h x (by simp))), hearL_last r m (fun y hy => h y (by simp [hy]))]
    rfl
theorem joinL_app : ∀ (b a : List Mem), Rise (a ++ b) → joinL a b = a ++ b
  | [], a, _ => by simp [joinL]
  | m :: r, a, h => by
    have h1 : hearL a m = a ++ [m] := hearL_last a m fun x hx => (List.pairwise_append.1 h).2.2 x hx m (by simp)
    have h2 := joinL_app r (a ++ [m]) (by simpa using h)
    simp only [joinL, List.foldl_cons, h1] at h2 ⊢
    rw [h2]; simp
theorem joinL_nil (b : List Mem) (h : Rise b) : joinL [] b = b := joinL_app b [] h

theorem oneE_nn (nm : ByteArray) (st lf ad : Int) : 0 ≤ oneE nm st lf ad := by unfold oneE; (repeat' split) <;> omega
theorem chk_zero {ms : List Mem} (h : chk ms = 0) : ms.length ≤ 20 ∧ Rise ms ∧ firstE ms = 0 := by
  unfold chk at h
  split at h
  · omega
  · split at h
    · rename_i h1 h2
      split at h
      · rename_i h3
        exact ⟨by omega, rise_of ms h3, h2⟩
      · omega
    · rename_i h1 h2; exact absurd h h2

def chkTwo (a b : List Mem) : Int := if chk a = 0 then chk b else chk a

set_option maxHeartbeats 400000 in
theorem alone_any (nm : ByteArray) (st lf ad : Int) (sv : Bool) (w : World) :
    Calls Try.prog 32 #[.agg #[.string nm, .int .i64 st, .int .i64 lf, .int .i64 ad, .bool sv]] w fun e w' => e = .returned (.slice (some ⟨w.heap.size + 1, 0, none⟩) 1 1) ∧ w' = (w.alloc (.cells #[.string nm, .int .i64 st, .int .i64 lf, .int .i64 ad, .bool sv] 24)).alloc (.cells #[.string nm, .int .i64 st, .int .i64 lf, .int .i64 ad, .bool sv] 24) := by
  go_enter Try.func32, Try.ntmps32
  go_wp2
  go_ret
  exact ⟨rfl, rfl⟩

set_option maxHeartbeats 800000 in
theorem checkAll_two (a b : List Mem) (va vb : Value) (pb cap : Nat) (w : World) (ha : Sl w va a) (hb : Sl w vb b) (hpb : pb < w.heap.size) (hc0 : w.cell? ⟨pb, 0, none⟩ = some va) (hc1 : w.cell? ⟨pb, 1, none⟩ = some vb) :
    Calls Try.prog 54 #[.slice (some ⟨pb, 0, none⟩) 2 cap] w fun e w' => e = .returned (.int .i64 (chkTwo a b)) ∧ Below w.heap.size w w' := by
  have HA : Hid (Sl w va a) := ha
  have HB : Hid (Sl w vb b) := hb
  clear ha hb
  go_enter Try.func54, Try.ntmps54
  go_wp2_with fail
  go_loopw [8] (fun i w' => ∃ k : Nat, k ≤ 2 ∧ i = .int .i64 k ∧ Below w.heap.size w w' ∧ Hid (0 < k → chk a = 0) ∧ Hid (1 < k → chk b = 0)) (fun i _ => 2 - (intOf i).toNat)
  case atStart => exact ⟨0, by omega, rfl, Below.refl _ _, fun h => by omega, fun h => by omega⟩
  case round =>
    obtain ⟨k, hk, rfl, hbl, hz0, hz1⟩ := hrel
    obtain ⟨hbc, hbf⟩ := bcell hbl
    have hsz := hbl.size
    have HA' : Hid (Sl wr va a) := HA.out.below hbl
    have HB' : Hid (Sl wr vb b) := HB.out.below hbl
    have hcases : k = 0 ∨ k = 1 ∨ k = 2 := by omega
    rcases hcases with rfl | rfl | rfl
    · rcases he : decide (chk a = 0) with _ | _
      · have he' : (chk a != 0) = true := by simpa using he
        clear he
        go_wp2_with (go_at_call 11; refine (check_any a _ _ HA'.out).mono ?_; rintro e w' ⟨rfl, hb2⟩)
        go_ret
        exact ⟨ret_int (by have h0 : chk a ≠ 0 := (by simpa using he'); rw [chkTwo, if_neg h0]), hbl.trans (hb2.mono hsz)⟩
      · have he' : (chk a != 0) = false := by simpa using he
        clear he
        go_wp2_with (go_at_call 11; refine (check_any a _ _ HA'.out).mono ?_; rintro e w' ⟨rfl, hb2⟩)
        go_roundw
        case rel => exact ⟨1, by omega, by go_num, hbl.trans (hb2.mono hsz), fun _ => (by simpa using he'), fun h => by omega⟩
        case measure => simp [intOf]
    · have h0 : Hid (chk a = 0) := hz0.out (by omega)
      rcases he : decide (chk b = 0) with _ | _
      · have he' : (chk b != 0) = true := by simpa using he
        clear he
        go_wp2_with (go_at_call 11; refine (check_any b _ _ HB'.out).mono ?_; rintro e w' ⟨rfl, hb2⟩)
        go_ret
        exact ⟨ret_int (by rw [chkTwo, if_pos h0.out]), hbl.trans (hb2.mono hsz)⟩
      · have he' : (chk b != 0) = false := by simpa using he
        clear he
        go_wp2_with (go_at_call 11; refine (check_any b _ _ HB'.out).mono ?_; rintro e w' ⟨rfl, hb2⟩)
        go_roundw
        case rel => exact ⟨2, by omega, by go_num, hbl.trans (hb2.mono hsz), fun _ => h0.out, fun _ => (by simpa using he')⟩
        case measure => simp [intOf]
    · go_wp2_with fail
      go_ret
      exact ⟨ret_int (by rw [chkTwo, if_pos (hz0.out (by omega)), hz1.out (by omega)]), hbl⟩

theorem Row.later {w w' : World} {b off : Nat} {ms : List Mem} (hr : Row w b off ms) (hb : Below w.heap.size w w') (hlt : b < w.heap.size) : Row w' b off ms := fun j hj => by
  obtain ⟨hc, _⟩ := bcell hb
  obtain ⟨c0, c1, c2, c3, c4⟩ := hr j hj
  exact ⟨(hc _ _ hlt).trans c0, (hc _ _ hlt).trans c1, (hc _ _ hlt).trans c2, (hc _ _ hlt).trans c3, (hc _ _ hlt).trans c4⟩

/-- What is known behind k pools. -/
def stg (a b : List Mem) (k : Nat) : List Mem := if k = 0 then [] else if k = 1 then a else joinL a b

/-- B3: Join's errno. -/
def joinE (a b : List Mem) : Int := if chkTwo a b = 0 then (if 20 < (joinL a b).length then 2 else 0) else chkTwo a b

set_option maxHeartbeats 400000 in
theorem join_bad (a b : List Mem) (va vb : Value) (pb cap : Nat) (w : World) (ha : Sl w va a) (hb : Sl w vb b) (hpb : pb < w.heap.size) (hc0 : w.cell? ⟨pb, 0, none⟩ = some va) (hc1 : w.cell? ⟨pb, 1, none⟩ = some vb) (hne : chkTwo a b ≠ 0) :
    Calls Try.prog 31 #[.slice (some ⟨pb, 0, none⟩) 2 cap] w fun e w' => e = .returned (.tuple #[.slice none 0 0, .int .i64 (joinE a b)]) ∧ Below w.heap.size w w' := by
  have he : (chkTwo a b != 0) = true := by simpa using hne
  have HE : Hid (joinE a b = chkTwo a b) := if_neg hne
  have hcon := checkAll_two a b va vb pb cap w ha hb hpb hc0 hc1
  have HC : Hid (Calls Try.prog 54 #[.slice (some ⟨pb, 0, none⟩) 2 cap] w fun e w' => e = .returned (.int .i64 (chkTwo a b)) ∧ Below w.heap.size w w') := hcon
  clear hcon ha hb hne
  go_enter Try.func31, Try.ntmps31
  go_wp2_with (go_at_call 54; refine HC.out.mono ?_; rintro e w' ⟨rfl, hb2⟩)
  go_ret2
  exact ⟨by rw [HE.out]; rfl, hb2⟩

set_option maxHeartbeats 1600000 in
set_option maxRecDepth 100000 in
theorem join_good (a b : List Mem) (va vb : Value) (pb cap : Nat) (w : World) (ha : Sl w va a) (hb : Sl w vb b) (hpb : pb < w.heap.size) (hc0 : w.cell? ⟨pb, 0, none⟩ = some va) (hc1 : w.cell? ⟨pb, 1, none⟩ = some vb) (h0 : chkTwo a b = 0) :
    Calls Try.prog 31 #[.slice (some ⟨pb, 0, none⟩) 2 cap] w fun e w' => ∃ v', e = .returned (.tuple #[v', .int .i64 (joinE a b)]) ∧ Below w.heap.size w w' ∧
      (20 < (joinL a b).length → v' = .slice none 0 0) ∧ ((joinL a b).length ≤ 20 → Own w.heap.size w' v' (joinL a b)) := by
  have he : (chkTwo a b != 0) = false := by simpa using h0
  have hca : chk a = 0 := by unfold chkTwo at h0; split at h0 <;> assumption
  have hcb : chk b = 0 := by unfold chkTwo at h0; rw [if_pos hca] at h0; exact h0
  have za := chk_zero hca
  have zb := chk_zero hcb
  have HE : Hid (joinE a b = if 20 < (joinL a b).length then 2 else 0) := if_pos h0
  have hcon := checkAll_two a b va vb pb cap w ha hb hpb hc0 hc1
  have HC : Hid (Calls Try.prog 54 #[.slice (some ⟨pb, 0, none⟩) 2 cap] w fun e w' => e = .returned (.int .i64 (chkTwo a b)) ∧ Below w.heap.size w w') := hcon
  clear hcon h0 hca hcb
  obtain ⟨pa, ca, rfl, nsa, ha⟩ := ha
  obtain ⟨pv, cb, rfl, nsb, hb⟩ := hb
  have HA : Hid (a = [] ∨ ∃ b off, pa = some ⟨b, off, none⟩ ∧ b < w.heap.size ∧ Row w b off a) := ha
  have HB : Hid (b = [] ∨ ∃ b_1 off, pv = some ⟨b_1, off, none⟩ ∧ b_1 < w.heap.size ∧ Row w b_1 off b) := hb
  have NA : Hid (∀ m ∈ a, m.name.size ≤ maxLen) := ns_mem nsa
  have NB : Hid (∀ m ∈ b, m.name.size ≤ maxLen) := ns_mem nsb
  have RA : Hid (Rise a) := za.2.1
  have RB : Hid (Rise b) := zb.2.1
  have hla := za.1
  have hlb := zb.1
  have JA : Hid (joinL [] a = a) := joinL_nil a za.2.1
  clear ha hb nsa nsb za zb
  generalize hna : a.length = na at *
  generalize hnb : b.length = nb at *
  have HNA : Hid (a.length = na) := hna
  have HNB : Hid (b.length = nb) := hnb
  clear hna hnb
  go_enter Try.func31, Try.ntmps31
  go_wp2_with (go_at_call 54; refine HC.out.mono ?_; rintro e w1 ⟨rfl, hb1⟩)
  obtain ⟨hbc1, hbf1⟩ := bcell hb1
  have hsz1 := hb1.size
  have d0 : w1.cell? ⟨pb, 0, none⟩ = some (.slice pa na ca) := (hbc1 pb 0 hpb).trans hc0
  have d1 : w1.cell? ⟨pb, 1, none⟩ = some (.slice pv nb cb) := (hbc1 pb 1 hpb).trans hc1
  have hpb1 : pb < w1.heap.size := by omega
  have HB1 : Hid (Below w.heap.size w w1) := hb1
  have HA1 : Hid (a = [] ∨ ∃ b off, pa = some ⟨b, off, none⟩ ∧ b < w1.heap.size ∧ Row w1 b off a) := by
    rcases HA.out with h | ⟨b, off, h1, h2, h3⟩
    · exact .inl h
    · exact .inr ⟨b, off, h1, by omega, h3.later hb1 h2⟩
  have HB2 : Hid (b = [] ∨ ∃ b_1 off, pv = some ⟨b_1, off, none⟩ ∧ b_1 < w1.heap.size ∧ Row w1 b_1 off b) := by
    rcases HB.out with h | ⟨b, off, h1, h2, h3⟩
    · exact .inl h
    · exact .inr ⟨b, off, h1, by omega, h3.later hb1 h2⟩
  clear hbc1 hbf1 hb1 hc0 hc1 HA HB HC he hpb
  go_loopw [5, 17] (fun kn i w' => ∃ k : Nat, k ≤ 2 ∧ i = .int .i64 k ∧ Below w1.heap.size w1 w' ∧ Hid (Own w1.heap.size w' kn (stg a b k))) (fun _ i _ => 2 - (intOf i).toNat)
  case atStart => exact ⟨0, by omega, rfl, Below.refl _ _, own_nil _ _⟩
  case round =>
    obtain ⟨k, hk, rfl, hbl, HO⟩ := hrel
    obtain ⟨hbc, hbf⟩ := bcell hbl
    have hsz := hbl.size
    have hcases : k = 0 ∨ k = 1 ∨ k = 2 := by omega
    rcases hcases with rfl | rfl | rfl
    · go_wp2_with fail
      go_loopw [5, 23] (fun kn j w' => ∃ q : Nat, q ≤ na ∧ j = .int .i64 q ∧ Below w1.heap.size w1 w' ∧ Hid (Own w1.heap.size w' kn (joinL [] (a.take q)))) (fun _ j _ => na - (intOf j).toNat)
      case atStart => exact ⟨0, Nat.zero_le _, rfl, hbl, HO⟩
      case round =>
        clear hbc hbf hsz hbl HO
        obtain ⟨q, hq, rfl, hbl, HO⟩ := hrel
        obtain ⟨hbc, hbf⟩ := bcell hbl
        have hsz := hbl.size
        by_cases hlt : q < na
        · obtain ⟨pb2, off, hptr, hpl, hrow⟩ : ∃ b_1 off, pa = some ⟨b_1, off, none⟩ ∧ b_1 < w1.heap.size ∧ Row w1 b_1 off a := by
            rcases HA1.out with h | h
            · have := HNA.out; rw [h] at this; simp at this; omega
            · exact h
          subst hptr
          obtain ⟨c0, c1, c2, c3, c4⟩ := hrow q (by rw [HNA.out]; exact hlt)
          clear hrow
          have HJ : Hid (joinL [] (a.take (q + 1)) = hearL (joinL [] (a.take q)) (a.getD q dm)) := joinL_take [] a q (by rw [HNA.out]; exact hlt)
          have HR : Hid (Rise (joinL [] (a.take q))) := joinL_rise _ _ .nil
          have HNs : Hid (∀ j, ((joinL [] (a.take q)).getD j dm).name.size ≤ maxLen) := ns_get (ns_join _ _ (by simp) (fun x hx => NA.out x (List.mem_of_mem_take hx)))
          have HL : Hid ((joinL [] (a.take q)).length ≤ 40) := by
            have h1 := joinL_len (a.take q) []
            have h2 : (a.take q).length ≤ q := List.length_take_le _ _
            have h3 := HNA.out
            try simp only [List.length_nil] at h1
            show (joinL [] (a.take q)).length ≤ 40
            omega
          generalize a.getD q dm = m at *
          generalize joinL [] (a.take q) = known at *
          have HO1 : Hid (Own w1.heap.size (wr.alloc (.cells #[.string m.name, .int .i64 m.state, .int .i64 m.life, .int .i64 m.addr, .bool m.server] 24)) u5 known) := HO.out.below ((Below.refl _ _).alloc (Nat.le_refl _) _)
          go_wp2_with (go_at_call 55; refine (learn_any w1.heap.size _ known m _ HO1.out HR.out HNs.out HL.out (by simp; omega)).mono ?_; rintro e w2 ⟨v', rfl, g1, g2⟩)
          go_roundw
          case rel =>
            have hfin : ∃ q_1 : Nat, q_1 ≤ na ∧ Value.int .i64 ((q : Int) + 1) = .int .i64 q_1 ∧ Below w1.heap.size w1 w2 ∧ Hid (Own w1.heap.size w2 v' (joinL [] (a.take q_1))) := ⟨q + 1, by omega, by go_num, (hbl.alloc hsz _).trans g2, by rw [HJ.out]; exact g1⟩
            first | exact hfin | ((repeat apply Exists.intro); exact ⟨hfin, rfl⟩)
          case measure => simp [intOf]; omega
        · have hqn : q = na := by omega
          subst hqn
          have HO3 : Hid (Own w1.heap.size wr u5 (stg a b 1)) := by
            have h := HO.out
            rw [List.take_of_length_le (by rw [HNA.out]; exact Nat.le_refl _)] at h
            rw [JA.out] at h; exact h
          go_wp2_with fail
          go_roundw
          case rel => exact ⟨1, by omega, by go_num, hbl, HO3⟩
          case measure => simp [intOf]
    · go_wp2_with fail
      go_loopw [5, 23] (fun kn j w' => ∃ q : Nat, q ≤ nb ∧ j = .int .i64 q ∧ Below w1.heap.size w1 w' ∧ Hid (Own w1.heap.size w' kn (joinL a (b.take q)))) (fun _ j _ => nb - (intOf j).toNat)
      case atStart => exact ⟨0, Nat.zero_le _, rfl, hbl, HO⟩
      case round =>
        clear hbc hbf hsz hbl HO
        obtain ⟨q, hq, rfl, hbl, HO⟩ := hrel
        obtain ⟨hbc, hbf⟩ := bcell hbl
        have hsz := hbl.size
        by_cases hlt : q < nb
        · obtain ⟨pb2, off, hptr, hpl, hrow⟩ : ∃ b_1 off, pv = some ⟨b_1, off, none⟩ ∧ b_1 < w1.heap.size ∧ Row w1 b_1 off b := by
            rcases HB2.out with h | h
            · have := HNB.out; rw [h] at this; simp at this; omega
            · exact h
          subst hptr
          obtain ⟨c0, c1, c2, c3, c4⟩ := hrow q (by rw [HNB.out]; exact hlt)
          clear hrow
          have HJ : Hid (joinL a (b.take (q + 1)) = hearL (joinL a (b.take q)) (b.getD q dm)) := joinL_take a b q (by rw [HNB.out]; exact hlt)
          have HR : Hid (Rise (joinL a (b.take q))) := joinL_rise _ _ RA.out
          have HNs : Hid (∀ j, ((joinL a (b.take q)).getD j dm).name.size ≤ maxLen) := ns_get (ns_join _ _ NA.out (fun x hx => NB.out x (List.mem_of_mem_take hx)))
          have HL : Hid ((joinL a (b.take q)).length ≤ 40) := by
            have h1 := joinL_len (b.take q) a
            have h2 : (b.take q).length ≤ q := List.length_take_le _ _
            have h3 := HNA.out
            try simp only [List.length_nil] at h1
            show (joinL a (b.take q)).length ≤ 40
            omega
          generalize b.getD q dm = m at *
          generalize joinL a (b.take q) = known at *
          have HO1 : Hid (Own w1.heap.size (wr.alloc (.cells #[.string m.name, .int .i64 m.state, .int .i64 m.life, .int .i64 m.addr, .bool m.server] 24)) u5 known) := HO.out.below ((Below.refl _ _).alloc (Nat.le_refl _) _)
          go_wp2_with (go_at_call 55; refine (learn_any w1.heap.size _ known m _ HO1.out HR.out HNs.out HL.out (by simp; omega)).mono ?_; rintro e w2 ⟨v', rfl, g1, g2⟩)
          go_roundw
          case rel =>
            have hfin : ∃ q_1 : Nat, q_1 ≤ nb ∧ Value.int .i64 ((q : Int) + 1) = .int .i64 q_1 ∧ Below w1.heap.size w1 w2 ∧ Hid (Own w1.heap.size w2 v' (joinL a (b.take q_1))) := ⟨q + 1, by omega, by go_num, (hbl.alloc hsz _).trans g2, by rw [HJ.out]; exact g1⟩
            first | exact hfin | ((repeat apply Exists.intro); exact ⟨hfin, rfl⟩)
          case measure => simp [intOf]; omega
        · have hqn : q = nb := by omega
          subst hqn
          have HO3 : Hid (Own w1.heap.size wr u5 (stg a b 2)) := by
            have h := HO.out
            rw [List.take_of_length_le (by rw [HNB.out]; exact Nat.le_refl _)] at h
            exact h
          go_wp2_with fail
          go_roundw
          case rel => exact ⟨2, by omega, by go_num, hbl, HO3⟩
          case measure => simp [intOf]
    · have hform : ∃ p c, u5 = .slice p (joinL a b).length c := by
        rcases HO.out.2 with ⟨h, h0⟩ | ⟨g, c, cur, h, _⟩
        · exact ⟨none, 0, by rw [h]; congr 1; exact h0.symm⟩
        · exact ⟨_, c, h⟩
      obtain ⟨p, c, rfl⟩ := hform
      have HO3 : Hid (Own w1.heap.size wr (.slice p (joinL a b).length c) (joinL a b)) := HO.out
      have hl40 : (joinL a b).length ≤ 40 := by have h1 := joinL_len b a; have h2 := HNA.out; have h3 := HNB.out; omega
      clear HO
      have HBx : Hid (Below w.heap.size w wr) := HB1.out.trans (hbl.mono hsz1)
      by_cases hlt : 20 < (joinL a b).length
      · go_wp2_with fail
        go_ret2
        refine ⟨_, by rw [HE.out, if_pos hlt]; rfl, HBx.out, fun _ => rfl, fun h => by omega⟩
      · go_wp2_with fail
        go_ret2
        refine ⟨.slice p (joinL a b).length c, by rw [HE.out, if_neg hlt]; rfl, HBx.out, fun h => by omega, fun _ => HO3.out.mono hsz1⟩

end Go.Proofs.Ytonbaiaoelegaac
