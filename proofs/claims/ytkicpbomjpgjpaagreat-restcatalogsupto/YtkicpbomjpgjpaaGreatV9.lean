/- GK6, GK7, GKC, GKCS, P0, Shelf -/
import Derived.Test.YtkicpbomjpgjpaaGreatV8
import Derived.Test.YtkicpbomjpgjpaaGreatV5
import Derived.Laws.StructEq
import Derived.Deep.Slices
import Derived.Lib.SmallJoins
import Derived.ProofKit
import Derived.Test.YtkicpbomjpgjpaaGreatV6
import Derived.WalkKit
import Derived.Lib.BitFns
import Derived.Lib.ItoaNum
import Derived.Shelf.Small.Bits
import Derived.Shelf.Small.Strs
import Derived.Shelf.Small.Wraps
import Derived.Shelf.Strconv.Itoa0
import Derived.Ground.SlsfProg
import Derived.Shelf.SlSortCmp.Insertion
import Derived.Shelf.SlSortCmp.SiftDown1
import Derived.Shelf.SlSortCmp.HeapSort1
import Derived.Shelf.SlSortCmp.Insertion1
import Derived.Shelf.SlSortCmp.Median1
import Derived.Shelf.SlSortCmp.Pivot1
import Derived.Shelf.SlSortCmp.ReverseRange1
import Derived.Shelf.SlSortCmp.PartialInsertion1
import Derived.Shelf.SlSortCmp.PartitionEqual1
import Derived.Shelf.SlSortCmp.Partition1
import Derived.Shelf.SlSortCmp.Pdq1
import Derived.Shelf.SlSortCmp.Whole1
import Derived.Shelf.SlSortCmp.NoneTotal
import Derived.Test.YtkicpbomjpgjpaaGreatProg
/- gateways: Check, one list and two; join. -/
namespace Go.Proofs.YtkicpbomjpgjpaaGreat
namespace Gw
open Go.RowKit


set_option maxHeartbeats 800000 in
theorem checkOneE_any (m : Gwy) (w : World) (hm : m.ok) :
    Calls Tryz.prog 64 #[.agg #[.string m.centre, .int .i64 m.addr, .int .i64 m.version]] w fun e w' => e = .returned (.int .i64 m.e) ∧ Below w.heap.size w w' := by
  have hs : m.centre.size ≤ maxLen := hm
  have hB : Hid (Below w.heap.size w (w.alloc (.cells #[.string m.centre, .int .i64 m.addr, .int .i64 m.version] 62))) := (Below.refl _ _).alloc (Nat.le_refl _) _
  clear hm
  rcases h1 : labB m.centre with _ | _
  · go_enter Tryz.func64, Tryz.ntmps64
    go_wp2_with (go_at_call 29; refine (label_any _ _ hs).mono ?_; rintro e w' ⟨rfl, rfl⟩; rw [h1])
    go_ret
    exact ⟨ret_int (by simp [Gwy.e, h1]), hB.out⟩
  · rcases h2 : within m.addr 0 4294967295 with _ | _
    · go_enter Tryz.func64, Tryz.ntmps64
      go_wp2_with (first | (go_at_call 29; refine (label_any _ _ hs).mono ?_; rintro e w' ⟨rfl, rfl⟩; rw [h1]) | (go_at_call 80; refine (address_any _ _).mono ?_; rintro e w' ⟨rfl, rfl⟩; rw [h2]))
      go_ret
      exact ⟨ret_int (by simp [Gwy.e, h1, h2]), hB.out⟩
    · rcases h3 : within m.version 1 1000000 with _ | _
      all_goals
        go_enter Tryz.func64, Tryz.ntmps64
        go_wp2_with (first | (go_at_call 29; refine (label_any _ _ hs).mono ?_; rintro e w' ⟨rfl, rfl⟩; rw [h1]) | (go_at_call 80; refine (address_any _ _).mono ?_; rintro e w' ⟨rfl, rfl⟩; rw [h2]) | (go_at_call 62; refine (within_any _ _ _ _).mono ?_; rintro e w' ⟨rfl, rfl⟩; rw [h3]))
        go_ret
        exact ⟨ret_int (by simp [Gwy.e, h1, h2, h3]), hB.out⟩





set_option maxHeartbeats 800000 in
theorem check_row (ms : List Gwy) (b off cap : Nat) (w : World) (hr : Row w b off ms) (hb : b < w.heap.size) (hn : ms.length ≤ 6) (hs : ∀ j, (ms.getD j dm).ok) :
    Calls Tryz.prog 31 #[.slice (some ⟨b, off, none⟩) ms.length cap] w fun e w' => e = .returned (.int .i64 (chk ms)) ∧ Below w.heap.size w w' := by
  have HR : Hid (Row w b off ms) := hr
  have HE : Hid (∀ k, k < ms.length → (∀ j, j < k → (ms.getD j dm).e = 0) → (ms.getD k dm).e ≠ 0 → chk ms = (ms.getD k dm).e) := fun k h1 h2 h3 => chk_e ms k hn h1 h2 h3
  have H4 : Hid ((∀ j, j < ms.length → (ms.getD j dm).e = 0) → chk ms = if risesB ms = true then 0 else 4) := fun h1 => chk_r ms hn h1
  have HSl : Hid (∀ w', Below w.heap.size w w' → Calls Tryz.prog 65 #[.slice (some ⟨b, off, none⟩) ms.length cap, .func (.func 66) #[] #[]] w' fun e w'' => e = .returned (.bool (risesB ms)) ∧ Below w'.heap.size w' w'') := fun w' hbw => rises_row ms b off cap w' (hr.later hbw hb) (Nat.lt_of_lt_of_le hb hbw.size) hn
  clear hr
  generalize hN : ms.length = n at *
  have HN : Hid (ms.length = n) := hN
  clear hN
  have HS : Hid (∀ j, (ms.getD j dm).ok) := hs
  clear hs
  generalize hC : chk ms = res at *
  have HC : Hid (chk ms = res) := hC
  clear hC
  generalize hRB : risesB ms = rb at *
  have HRB : Hid (risesB ms = rb) := hRB
  clear hRB
  go_enter Tryz.func31, Tryz.ntmps31
  go_wp2_with fail
  go_loopw [11] (fun i w' => ∃ k : Nat, k ≤ n ∧ i = .int .i64 k ∧ Below w.heap.size w w' ∧ Hid (∀ j, j < k → (ms.getD j dm).e = 0)) (fun i _ => n - (intOf i).toNat)
  case atStart => exact ⟨0, Nat.zero_le _, rfl, Below.refl _ _, fun j h => absurd h (Nat.not_lt_zero _)⟩
  case round =>
    obtain ⟨k, hk, rfl, hbl, hz⟩ := hrel
    obtain ⟨hbc, hbf⟩ := bcell hbl
    have hsz := hbl.size
    by_cases hlt : k < n
    · obtain ⟨c0, c1, c2⟩ := HR.out k (by rw [HN.out]; exact hlt)
      have HSK : Hid ((ms.getD k dm).ok) := HS.out k
      have HK : Hid ((ms.getD k dm).e ≠ 0 → res = (ms.getD k dm).e) := fun h => HE.out k hlt hz.out h
      have HZ : Hid ((ms.getD k dm).e = 0 → ∀ j, j < k + 1 → (ms.getD j dm).e = 0) := fun h j hj => by
        rcases Nat.lt_succ_iff_lt_or_eq.1 hj with h2 | rfl
        · exact hz.out j h2
        · exact h
      generalize ms.getD k dm = m at *
      have HO : Hid (∀ w, Calls Tryz.prog 64 #[.agg #[.string m.centre, .int .i64 m.addr, .int .i64 m.version]] w fun e w' => e = .returned (.int .i64 m.e) ∧ Below w.heap.size w w') := fun w => checkOneE_any m w HSK.out
      generalize m.e = me at *
      rcases he : decide (me = 0) with _ | _
      · have he' : (me != 0) = true := by simpa using he
        clear he
        go_wp2_with (go_at_call 64; refine (HO.out _).mono ?_; rintro e w' ⟨rfl, hb2⟩)
        go_ret
        have hne : me ≠ 0 := by simpa using he'
        have hres : res = me := HK.out hne
        exact ⟨ret_int hres.symm, (hbl.alloc hsz _).trans (hb2.mono (by simp; omega))⟩
      · have he' : (me != 0) = false := by simpa using he
        clear he
        go_wp2_with (go_at_call 64; refine (HO.out _).mono ?_; rintro e w' ⟨rfl, hb2⟩)
        go_roundw
        case rel =>
          have he0 : me = 0 := by simpa using he'
          exact ⟨k + 1, by omega, by go_num, (hbl.alloc hsz _).trans (hb2.mono (by simp; omega)), HZ.out he0⟩
        case measure => simp [intOf]; omega
    · have hall : Hid (∀ j, j < n → (ms.getD j dm).e = 0) := fun j hj => hz.out j (by omega)
      have HRes : Hid (res = if rb = true then 0 else 4) := H4.out hall.out
      clear hz hall H4 HE HC HRB
      cases rb
      · go_wp2_with (go_at_call 65; refine (HSl.out _ hbl).mono ?_; rintro e w' ⟨rfl, hb2⟩)
        go_ret
        exact ⟨ret_int (by rw [HRes.out]; rfl), hbl.trans (hb2.mono hsz)⟩
      · go_wp2_with (go_at_call 65; refine (HSl.out _ hbl).mono ?_; rintro e w' ⟨rfl, hb2⟩)
        go_ret
        exact ⟨ret_int (by rw [HRes.out]; rfl), hbl.trans (hb2.mono hsz)⟩

set_option maxHeartbeats 400000 in
theorem check_many (a : Option Addr) (n cap : Nat) (w : World) (hn : 6 < n) :
    Calls Tryz.prog 31 #[.slice a n cap] w fun e w' => e = .returned (.int .i64 2) ∧ w' = w := by
  go_enter Tryz.func31, Tryz.ntmps31
  go_wp2_with fail
  go_ret
  exact ⟨rfl, rfl⟩
set_option maxHeartbeats 400000 in
theorem check_none (a : Option Addr) (cap : Nat) (w : World) :
    Calls Tryz.prog 31 #[.slice a 0 cap] w fun e w' => e = .returned (.int .i64 0) ∧ w' = w := by
  go_enter Tryz.func31, Tryz.ntmps31
  go_wp2_with fail
  go_loop [11] (fun i => i = .int .i64 0) (fun _ => 0)
  case atStart => rfl
  case round =>
    subst hrel
    go_wp2_with (go_at_call 65; refine (rises_none _ _ _ _).mono ?_; rintro e w' ⟨rfl, rfl⟩)
    go_ret
    exact ⟨rfl, rfl⟩

theorem check_any (ms : List Gwy) (v : Value) (w : World) (h : Sl w v ms) :
    Calls Tryz.prog 31 #[v] w fun e w' => e = .returned (.int .i64 (chk ms)) ∧ Below w.heap.size w w' := by
  obtain ⟨a, cap, rfl, hs, h⟩ := h
  by_cases hn : 6 < ms.length
  · refine (check_many a ms.length cap w hn).mono ?_
    rintro e w' ⟨rfl, rfl⟩
    exact ⟨ret_int (by rw [chk, if_pos hn]), Below.refl _ _⟩
  · rcases h with rfl | ⟨b, off, rfl, hb, hr⟩
    · refine (check_none a cap w).mono ?_
      rintro e w' ⟨rfl, rfl⟩
      exact ⟨rfl, Below.refl _ _⟩
    · exact check_row ms b off cap w hr hb (by omega) hs

set_option maxHeartbeats 800000 in
theorem checkAll_two (a b : List Gwy) (va vb : Value) (pb cap : Nat) (w : World) (ha : Sl w va a) (hb : Sl w vb b) (hpb : pb < w.heap.size) (hc0 : w.cell? ⟨pb, 0, none⟩ = some va) (hc1 : w.cell? ⟨pb, 1, none⟩ = some vb) :
    Calls Tryz.prog 68 #[.slice (some ⟨pb, 0, none⟩) 2 cap] w fun e w' => e = .returned (.int .i64 (chkTwo a b)) ∧ Below w.heap.size w w' := by
  have HA : Hid (Sl w va a) := ha
  have HB : Hid (Sl w vb b) := hb
  clear ha hb
  go_enter Tryz.func68, Tryz.ntmps68
  go_wp2_with fail
  go_loopw [8] (fun i w' => ∃ k : Nat, k ≤ 2 ∧ i = .int .i64 k ∧ Below w.heap.size w w' ∧ Hid (0 < k → chk a = 0) ∧ Hid (1 < k → chk b = 0)) (fun i _ => 2 - (intOf i).toNat)
  case atStart => exact ⟨0, by omega, rfl, Below.refl _ _, fun h => by omega, fun h => by omega⟩
  case round =>
    obtain ⟨k, hk, rfl, hbl, hz0, hz1⟩ := hrel
    obtain ⟨hbc, hbf⟩ := bcell hbl
    have hsz := hbl.size
    have HA' : Hid (Sl wr va a) := HA.out.below hbl
    have HB' : Hid (Sl wr vb b) := HB.out.below hbl
    have hcases : k = 0 ∨ k = 1 ∨ k = 2 := by omega
    rcases hcases with rfl | rfl | rfl
    · rcases he : decide (chk a = 0) with _ | _
      · have he' : (chk a != 0) = true := by simpa using he
        clear he
        go_wp2_with (go_at_call 31; refine (check_any a _ _ HA'.out).mono ?_; rintro e w' ⟨rfl, hb2⟩)
        go_ret
        exact ⟨ret_int (by have h0 : chk a ≠ 0 := (by simpa using he'); rw [chkTwo, if_neg h0]), hbl.trans (hb2.mono hsz)⟩
      · have he' : (chk a != 0) = false := by simpa using he
        clear he
        go_wp2_with (go_at_call 31; refine (check_any a _ _ HA'.out).mono ?_; rintro e w' ⟨rfl, hb2⟩)
        go_roundw
        case rel => exact ⟨1, by omega, by go_num, hbl.trans (hb2.mono hsz), fun _ => (by simpa using he'), fun h => by omega⟩
        case measure => simp [intOf]
    · have h0 : Hid (chk a = 0) := hz0.out (by omega)
      rcases he : decide (chk b = 0) with _ | _
      · have he' : (chk b != 0) = true := by simpa using he
        clear he
        go_wp2_with (go_at_call 31; refine (check_any b _ _ HB'.out).mono ?_; rintro e w' ⟨rfl, hb2⟩)
        go_ret
        exact ⟨ret_int (by rw [chkTwo, if_pos h0.out]), hbl.trans (hb2.mono hsz)⟩
      · have he' : (chk b != 0) = false := by simpa using he
        clear he
        go_wp2_with (go_at_call 31; refine (check_any b _ _ HB'.out).mono ?_; rintro e w' ⟨rfl, hb2⟩)
        go_roundw
        case rel => exact ⟨2, by omega, by go_num, hbl.trans (hb2.mono hsz), fun _ => h0.out, fun _ => (by simpa using he')⟩
        case measure => simp [intOf]
    · go_wp2_with fail
      go_ret
      exact ⟨ret_int (by rw [chkTwo, if_pos (hz0.out (by omega)), hz1.out (by omega)]), hbl⟩

set_option maxHeartbeats 400000 in
theorem join_bad (a b : List Gwy) (va vb : Value) (pb cap : Nat) (w : World) (ha : Sl w va a) (hb : Sl w vb b) (hpb : pb < w.heap.size) (hc0 : w.cell? ⟨pb, 0, none⟩ = some va) (hc1 : w.cell? ⟨pb, 1, none⟩ = some vb) (hne : chkTwo a b ≠ 0) :
    Calls Tryz.prog 33 #[.slice (some ⟨pb, 0, none⟩) 2 cap] w fun e w' => e = .returned (.tuple #[.slice none 0 0, .int .i64 (joinE a b)]) ∧ Below w.heap.size w w' := by
  have he : (chkTwo a b != 0) = true := by simpa using hne
  have HE : Hid (joinE a b = chkTwo a b) := if_neg hne
  have hcon := checkAll_two a b va vb pb cap w ha hb hpb hc0 hc1
  have HC : Hid (Calls Tryz.prog 68 #[.slice (some ⟨pb, 0, none⟩) 2 cap] w fun e w' => e = .returned (.int .i64 (chkTwo a b)) ∧ Below w.heap.size w w') := hcon
  clear hcon ha hb hne
  go_enter Tryz.func33, Tryz.ntmps33
  go_wp2_with (go_at_call 68; refine HC.out.mono ?_; rintro e w' ⟨rfl, hb2⟩)
  go_ret2
  exact ⟨by rw [HE.out]; rfl, hb2⟩

set_option maxHeartbeats 1600000 in
set_option maxRecDepth 100000 in
theorem join_good (a b : List Gwy) (va vb : Value) (pb cap : Nat) (w : World) (ha : Sl w va a) (hb : Sl w vb b) (hpb : pb < w.heap.size) (hc0 : w.cell? ⟨pb, 0, none⟩ = some va) (hc1 : w.cell? ⟨pb, 1, none⟩ = some vb) (h0 : chkTwo a b = 0) :
    Calls Tryz.prog 33 #[.slice (some ⟨pb, 0, none⟩) 2 cap] w fun e w' => ∃ v', e = .returned (.tuple #[v', .int .i64 (joinE a b)]) ∧ Below w.heap.size w w' ∧
      (6 < (joinL a b).length → v' = .slice none 0 0) ∧ ((joinL a b).length ≤ 6 → Own w.heap.size w' v' (joinL a b)) := by
  have he : (chkTwo a b != 0) = false := by simpa using h0
  have hca : chk a = 0 := by unfold chkTwo at h0; split at h0 <;> assumption
  have hcb : chk b = 0 := by unfold chkTwo at h0; rw [if_pos hca] at h0; exact h0
  have za := chk_zero hca
  have zb := chk_zero hcb
  have HE : Hid (joinE a b = if 6 < (joinL a b).length then 2 else 0) := if_pos h0
  have HC : Hid (Calls Tryz.prog 68 #[.slice (some ⟨pb, 0, none⟩) 2 cap] w fun e w' => e = .returned (.int .i64 (chkTwo a b)) ∧ Below w.heap.size w w') := checkAll_two a b va vb pb cap w ha hb hpb hc0 hc1
  have HJ : Hid (∀ w1, Below w.heap.size w w1 → Calls Tryz.prog 69 #[.func (.func 66) #[] #[], .func (.func 70) #[] #[], .slice (some ⟨pb, 0, none⟩) 2 cap] w1 fun e w' => ∃ v', e = .returned v' ∧ Own w1.heap.size w' v' (joinL a b) ∧ Below w1.heap.size w1 w') := fun w1 hb1 =>
    rjoin_two a b va vb pb cap w1 (ha.below hb1) (hb.below hb1) (Nat.lt_of_lt_of_le hpb hb1.size) ((bcell hb1).1 pb 0 hpb |>.trans hc0) ((bcell hb1).1 pb 1 hpb |>.trans hc1) za.1 zb.1 za.2.1
  have hl40 : (joinL a b).length ≤ 12 := by have h1 := joinL_len b a; have h2 := za.1; have h3 := zb.1; omega
  clear h0 hca hcb za zb ha hb hc0 hc1
  generalize joinL a b = jl at *
  generalize hgn : jl.length = n at *
  have HGN : Hid (jl.length = n) := hgn
  clear hgn
  go_enter Tryz.func33, Tryz.ntmps33
  go_wp2_with (go_at_call 68; refine HC.out.mono ?_; rintro e w1 ⟨rfl, hb1⟩)
  refine (HJ.out w1 hb1).mono ?_
  rintro e w2 ⟨v', rfl, ho, hb2⟩
  have hform : ∃ p c, v' = .slice p n c := by
    have hn := HGN.out
    rcases ho.2 with ⟨h, h0⟩ | ⟨g, c, cur, h, _⟩
    · exact ⟨none, 0, by rw [h]; congr 1; omega⟩
    · exact ⟨_, c, by rw [h, hn]⟩
  obtain ⟨p, c, rfl⟩ := hform
  have HBx : Hid (Below w.heap.size w w2) := hb1.trans (hb2.mono hb1.size)
  have HO3 : Hid (Own w.heap.size w2 (.slice p n c) jl) := ho.mono hb1.size
  clear ho hb1 hb2 HC HJ
  by_cases hlt : 6 < n
  · go_wp2_with fail
    go_ret2
    refine ⟨_, by rw [HE.out, if_pos hlt]; rfl, HBx.out, fun _ => rfl, fun h => by omega⟩
  · go_wp2_with fail
    go_ret2
    refine ⟨.slice p n c, by rw [HE.out, if_neg hlt]; rfl, HBx.out, fun h => by omega, fun _ => HO3.out⟩

end Gw
end Go.Proofs.YtkicpbomjpgjpaaGreat

/- gateways: Join; are two lists the same; what a law is handed. -/
namespace Go.Proofs.YtkicpbomjpgjpaaGreat
namespace Gw
open Go.RowKit

theorem join_any (a b : List Gwy) (va vb : Value) (pb cap : Nat) (w : World) (ha : Sl w va a) (hb : Sl w vb b) (hpb : pb < w.heap.size) (hc0 : w.cell? ⟨pb, 0, none⟩ = some va) (hc1 : w.cell? ⟨pb, 1, none⟩ = some vb) :
    Calls Tryz.prog 33 #[.slice (some ⟨pb, 0, none⟩) 2 cap] w fun e w' => ∃ v', e = .returned (.tuple #[v', .int .i64 (joinE a b)]) ∧ Below w.heap.size w w' ∧
      (joinE a b ≠ 0 → v' = .slice none 0 0) ∧ (joinE a b = 0 → Own w.heap.size w' v' (joinL a b)) := by
  by_cases h0 : chkTwo a b = 0
  · refine (join_good a b va vb pb cap w ha hb hpb hc0 hc1 h0).mono ?_
    rintro e w' ⟨v', rfl, h1, h2, h3⟩
    have hE : joinE a b = if 6 < (joinL a b).length then 2 else 0 := if_pos h0
    refine ⟨v', rfl, h1, fun hne => h2 ?_, fun hz => h3 ?_⟩
    · rw [hE] at hne; split at hne
      · assumption
      · exact absurd rfl hne
    · rw [hE] at hz; split at hz
      · cases hz
      · omega
  · refine (join_bad a b va vb pb cap w ha hb hpb hc0 hc1 h0).mono ?_
    rintro e w' ⟨rfl, h1⟩
    have hE : joinE a b = chkTwo a b := if_neg h0
    exact ⟨_, rfl, h1, fun _ => rfl, fun hz => absurd (hE ▸ hz) h0⟩

theorem joinE_bad1 {a b : List Gwy} (h : chk a ≠ 0) : joinE a b = chk a := by
  have : chkTwo a b = chk a := if_neg h
  rw [joinE, this, if_neg h]
theorem joinE_bad2 {a b : List Gwy} (h : chk a = 0) (h2 : chk b ≠ 0) : joinE a b = chk b := by
  have : chkTwo a b = chk b := if_pos h
  rw [joinE, this, if_neg h2]
theorem joinE_good {a b : List Gwy} (h : chk a = 0) (h2 : chk b = 0) : joinE a b = if 6 < (joinL a b).length then 2 else 0 := by
  have : chkTwo a b = 0 := (if_pos h).trans h2
  rw [joinE, if_pos this]
theorem sl_nil (w : World) : Sl w (.slice none 0 0) [] := ⟨none, 0, rfl, ns_get (by simp), .inl rfl⟩

def sameM (x y : Gwy) : Bool := x.centre.toList == y.centre.toList && (x.addr == y.addr && (x.version == y.version))

theorem sameM_iff (x y : Gwy) : sameM x y = true ↔ x = y := by
  obtain ⟨x_centre, x_addr, x_version⟩ := x
  obtain ⟨y_centre, y_addr, y_version⟩ := y
  simp only [sameM, Bool.and_eq_true, beq_iff_eq, Gwy.mk.injEq, Lib.toList_data]
  constructor
  · rintro ⟨h0, h1, h2⟩; exact ⟨ba_ext h0, h1, h2⟩
  · rintro ⟨h0, h1, h2⟩; exact ⟨by rw [h0], h1, h2⟩

theorem eqInE (m1 m2 : Gwy) (w : World) : (Op.equalIn 10000 62 (.agg #[.string m1.centre, .int .i64 m1.addr, .int .i64 m1.version]) (.agg #[.string m2.centre, .int .i64 m2.addr, .int .i64 m2.version])).run Tryz.prog w = .ok (sameM m1 m2) w := by
  have u3 := Tryz.underlying3
  have u9 := Tryz.underlying9
  have a3 := Tryz.isAgg3
  have z3 := Tryz.sizeOf3
  have a9 := Tryz.isAgg9
  have z9 := Tryz.sizeOf9
  have hS : Tryz.prog.underlying 62 = some (.struct (Tryz.prog.fieldsOf 62)) := by kernel_rfl
  have hp : Tryz.prog.stoodInHeld 62 = false := by kernel_rfl
  rw [show (10000 : Nat) = 9999 + 1 from rfl, run_equalIn_agg w 9999 62 _ _ hS hp]
  simp only [Program.fieldsOf, Tryz.underlying62]
  go_simp
  unfold sameM
  by_cases h0 : m1.centre.toList = m2.centre.toList
  case neg => simp [h0]
  by_cases h1 : m1.addr = m2.addr
  case neg => simp [h0, h1]
  by_cases h2 : m1.version = m2.version
  case neg => simp [h0, h1, h2]
  simp [h0, h1, h2]

theorem neqE (m1 m2 : Gwy) (w : World) : Sem.run Tryz.prog (binOp .neq 62 (.agg #[.string m1.centre, .int .i64 m1.addr, .int .i64 m1.version]) (.agg #[.string m2.centre, .int .i64 m2.addr, .int .i64 m2.version])) w = .ok (.bool (!sameM m1 m2)) w := by
  rw [run_neq_struct, eqInE]
  rfl

set_option maxHeartbeats 800000 in
theorem same_any (a b : List Gwy) (va vb : Value) (w : World) (ha : Sl w va a) (hb : Sl w vb b) (hsm : a.length ≤ 1000) :
    Calls Tryz.prog 13 #[va, vb] w fun e w' => ∃ r : Bool, e = .returned (.bool r) ∧ (r = true ↔ a = b) ∧ Below w.heap.size w w' := by
  obtain ⟨pa, ca, rfl, _, ha⟩ := ha
  obtain ⟨pv, cb, rfl, _, hb⟩ := hb
  by_cases hl : a.length = b.length
  · have HA : Hid (a = [] ∨ ∃ b off, pa = some ⟨b, off, none⟩ ∧ b < w.heap.size ∧ Row w b off a) := ha
    have HB : Hid (b = [] ∨ ∃ b_1 off, pv = some ⟨b_1, off, none⟩ ∧ b_1 < w.heap.size ∧ Row w b_1 off b) := hb
    have HL : Hid (a.length = b.length) := hl
    clear ha hb
    rw [← hl]
    clear hl
    generalize hna : a.length = n at *
    have HN : Hid (a.length = n) := hna
    clear hna
    have hg28 : Tryz.prog.eqGuardType Tryz.prog.depth 62 = false := by kernel_rfl
    go_enter Tryz.func13, Tryz.ntmps13
    go_wp2_with fail
    go_loopw [5] (fun i w' => ∃ k : Nat, k ≤ n ∧ i = .int .i64 k ∧ Below w.heap.size w w' ∧ Hid (∀ j, j < k → a.getD j dm = b.getD j dm)) (fun i _ => n - (intOf i).toNat)
    case atStart => exact ⟨0, Nat.zero_le _, rfl, Below.refl _ _, fun j h => absurd h (Nat.not_lt_zero _)⟩
    case round =>
      obtain ⟨k, hk, rfl, hbl, hz⟩ := hrel
      obtain ⟨hbc, hbf⟩ := bcell hbl
      have hsz := hbl.size
      by_cases hlt : k < n
      · obtain ⟨b1, o1, hp1, hl1, hr1⟩ : ∃ b off, pa = some ⟨b, off, none⟩ ∧ b < w.heap.size ∧ Row w b off a := by
          rcases HA.out with h | h
          · have := HN.out; rw [h] at this; simp at this; omega
          · exact h
        obtain ⟨b2, o2, hp2, hl2, hr2⟩ : ∃ b_1 off, pv = some ⟨b_1, off, none⟩ ∧ b_1 < w.heap.size ∧ Row w b_1 off b := by
          rcases HB.out with h | h
          · have h2 := HN.out; have h3 := HL.out; rw [h] at h3; simp at h3; omega
          · exact h
        subst hp1
        subst hp2
        obtain ⟨c0, c1, c2⟩ := hr1 k (by rw [HN.out]; exact hlt)
        obtain ⟨d0, d1, d2⟩ := hr2 k (by have h2 := HN.out; have h3 := HL.out; omega)
        clear hr1 hr2
        have HF : Hid (a.getD k dm ≠ b.getD k dm → a ≠ b) := fun h e => h (by rw [e])
        have HZ : Hid (a.getD k dm = b.getD k dm → ∀ j, j < k + 1 → a.getD j dm = b.getD j dm) := fun h j hj => by
          rcases Nat.lt_succ_iff_lt_or_eq.1 hj with h2 | rfl
          · exact hz.out j h2
          · exact h
        have hneq := neqE (a.getD k dm) (b.getD k dm)
        generalize a.getD k dm = m1 at *
        generalize b.getD k dm = m2 at *
        rcases hs : sameM m1 m2 with _ | _
        · rw [hs] at hneq
          have hne : Hid (a ≠ b) := HF.out (fun e => by rw [← sameM_iff, hs] at e; cases e)
          go_wp2_with fail
          go_quiet (fail)
          go_wp2_with fail
          go_ret
          exact ⟨false, rfl, ⟨fun h => (by cases h), fun h => absurd h hne.out⟩, below_drewN hbl _⟩
        · rw [hs] at hneq
          have heq : Hid (m1 = m2) := (sameM_iff m1 m2).1 hs
          go_wp2_with fail
          go_quiet (fail)
          go_wp2_with fail
          go_roundw
          case rel => exact ⟨k + 1, by omega, by go_num, below_drewN hbl _, HZ.out heq.out⟩
          case measure => simp [intOf]; omega
      · have hfin : Hid (a = b) := by
          apply List.ext_getElem (HN.out.trans HL.out)
          intro j h1 h2
          have := hz.out j (by have := HN.out; omega)
          simpa [List.getD, List.getElem?_eq_getElem h1, List.getElem?_eq_getElem h2] using this
        go_wp2_with fail
        go_ret
        exact ⟨true, rfl, ⟨fun _ => hfin.out, fun _ => rfl⟩, hbl⟩
  · have hne : ((a.length : Int) != (b.length : Int)) = true := by rw [bne_iff_ne]; omega
    have HF : Hid (a ≠ b) := fun e => hl (by rw [e])
    clear ha hb
    go_enter Tryz.func13, Tryz.ntmps13
    go_wp2_with fail
    go_ret
    exact ⟨false, rfl, ⟨fun h => (by cases h), fun h => absurd h HF.out⟩, Below.refl _ _⟩

section
open Go.ChangeShapes Go.WideShapes Go.ChangeAt
variable {H : Type} {enc : TypeId × Value → H} {w : World} {base : Nat} {spare : Nat → Bool} {held : Bool}

theorem Tryz.cells62 : Tryz.prog.cellsOf 62 = 3 := by kernel_rfl
theorem Tryz.cells9 : Tryz.prog.cellsOf 9 = 1 := by kernel_rfl
theorem Tryz.cells3 : Tryz.prog.cellsOf 3 = 1 := by kernel_rfl

set_option maxRecDepth 100000 in
theorem el_of_trod {fuel : Nat} {cs : List Value} {x : DataW H × List MemPlace} (h : DataW.trod enc Tryz.prog w base spare held fuel 62 cs = some x) :
    ∃ m : Gwy, cs = [.string m.centre, .int .i64 m.addr, .int .i64 m.version] ∧ (m).ok := by
  obtain ⟨xs, n, _, _, hl, hlen, hf⟩ := DataW.trod_struct Tryz.underlying62 h
  rw [Tryz.cells62] at hl
  match cs, hl with
  | [c0, c1, c2], _ =>
    match xs, hlen with
    | [y0, y1, y2], _ =>
      have h0 := hf 0 _ rfl
      have h1 := hf 1 _ rfl
      have h2 := hf 2 _ rfl
      simp [Tryz.cells9] at h0
      simp [Tryz.cells3] at h1
      simp [Tryz.cells3] at h2
      obtain ⟨z0, e0, _, g0⟩ := DataW.trod_string Tryz.underlying9 h0
      obtain ⟨z1, e1, _⟩ := DataW.trod_int Tryz.underlying3 h1
      obtain ⟨z2, e2, _⟩ := DataW.trod_int Tryz.underlying3 h2
      simp only [List.cons.injEq, and_true] at e0 e1 e2
      subst e0 e1 e2
      exact ⟨⟨z0, z1, z2⟩, rfl, g0⟩

set_option maxRecDepth 100000 in
theorem open_el {r : Reach} {b0 : Nat} {v : Value} {d : DataW H} {p : List MemPlace} (hv : Value.okWide Tryz.prog w r b0 62 v) (h : DataW.Trod enc Tryz.prog w base spare held 62 v d p) :
    ∃ m : Gwy, v = .agg #[.string m.centre, .int .i64 m.addr, .int .i64 m.version] ∧ (m).ok := by
  obtain ⟨cs, rfl, hsz⟩ := okWide_struct Tryz.underlying62 hv
  obtain ⟨fuel, hf⟩ := h
  obtain ⟨m, hm, hs⟩ := el_of_trod hf
  refine ⟨m, ?_, hs⟩
  simp only [Value.cells] at hm
  congr 1
  apply Array.ext'
  exact hm

set_option maxRecDepth 100000 in
theorem open_els {r : Reach} {b0 : Nat} {v : Value} {d : DataW H} {p : List MemPlace} (hv : Value.okWide Tryz.prog w r b0 25 v) (h : DataW.Trod enc Tryz.prog w base spare held 25 v d p) :
    ∃ ms : List Gwy, Sl w v ms ∧ ms.length ≤ maxLen := by
  obtain ⟨a, len, cap, rfl⟩ := okWide_slice Tryz.underlying25 hv
  obtain ⟨fuel, hf⟩ := h
  rcases Go.Deep.open_slice Tryz.underlying25 hf with ⟨hcs, _⟩ | ⟨x, l, c, m, n, D, Pl, hcs, hb, hl, hm, hmm, _, hx⟩
  · simp [Value.cells] at hcs
    obtain ⟨rfl, rfl, rfl⟩ := hcs
    exact ⟨[], ⟨none, 0, rfl, ns_get (by simp), .inl rfl⟩, by simp⟩
  · simp [Value.cells] at hcs
    obtain ⟨rfl, rfl, rfl⟩ := hcs
    have hlm : len ≤ m := by rw [hmm]; split <;> omega
    have hall : ∀ i, i < len → ∃ q : Gwy, (∀ t, t < 3 → w.cell? (x.add (i * 3 + t)) = q.cs[t]?) ∧ (q).ok := fun i hi => by
      obtain ⟨cs', h1, h2⟩ := hx i (by omega)
      obtain ⟨q, hq, hs⟩ := el_of_trod h2
      rw [Tryz.cells62] at h1
      obtain ⟨_, _, h3⟩ := World.cells?_some h1
      refine ⟨q, fun t ht => ?_, hs⟩
      rw [← Go.Deep.add_add, h3 t ht, hq]
      rfl
    have hinh : Inhabited Gwy := ⟨dm⟩
    obtain ⟨F, hF⟩ := Go.Deep.choose_lt (α := Gwy) (p := fun i q => (∀ t, t < 3 → w.cell? (x.add (i * 3 + t)) = q.cs[t]?) ∧ (q).ok) hall
    have hget : ∀ j, j < len → ((List.range len).map F).getD j dm = F j := fun j hj => by simp [List.getD, hj]
    refine ⟨(List.range len).map F, ⟨some x, cap, by simp, ns_get (fun q hq => ?_), ?_⟩, by simp; omega⟩
    · obtain ⟨j, hj, rfl⟩ := List.mem_map.1 hq
      exact (hF j (List.mem_range.1 hj)).2
    · by_cases h0 : len = 0
      · left; simp [h0]
      · right
        obtain ⟨b, off, spot⟩ := x
        have hc0 := (hF 0 (by omega)).1 0 (by omega)
        have hspot : spot = none := by simpa [Addr.add] using World.cell?_spot hc0
        subst hspot
        have hcell : ∀ j, j < len → ∀ t, t < 3 → w.cell? ⟨b, off + j * 3 + t, none⟩ = (F j).cs[t]? := fun j hj t ht => by
          have := (hF j hj).1 t ht
          rwa [Go.WideShapes.add_plain, ← Nat.add_assoc] at this
        refine ⟨b, off, rfl, World.block_lt_of_cell? w ⟨b, off + 0 * 3 + 0, none⟩ (hcell 0 (by omega) 0 (by omega)), fun j hj => ?_⟩
        have hj' : j < len := by simpa using hj
        rw [hget j hj']
        exact ⟨hcell j hj' 0 (by omega), hcell j hj' 1 (by omega), hcell j hj' 2 (by omega)⟩

end
end Gw
end Go.Proofs.YtkicpbomjpgjpaaGreat

/- Lists of gateways: their cells in a row; what is spoilt. -/
namespace Go.Proofs.YtkicpbomjpgjpaaGreat
namespace Gw
open Go.RowKit

theorem row_cell {ms : List Gwy} {w : World} {b off : Nat} (hr : Row w b off ms) {j : Nat} {u : Value} (hj : (fl ms)[j]? = some u) : w.cell? ⟨b, off + j, none⟩ = some u := by
  have hjl : j < ms.length * 3 := by rw [← fl_len]; exact (List.getElem?_eq_some_iff.1 hj).1
  have h1 := fl_get ms (j / 3) (by omega) (j % 3) (by omega)
  rw [show j / 3 * 3 + j % 3 = j by omega, hj] at h1
  obtain ⟨c0, c1, c2⟩ := hr (j / 3) (by omega)
  have hcs : j % 3 = 0∨j % 3 = 1∨j % 3 = 2 := by omega
  rcases hcs with e | e | e
  · rw [show off + j = off + j / 3 * 3 by omega, c0]; rw [e] at h1; simpa [Gwy.cs] using h1.symm
  · rw [show off + j = off + j / 3 * 3 + 1 by omega, c1]; rw [e] at h1; simpa [Gwy.cs] using h1.symm
  · rw [show off + j = off + j / 3 * 3 + 2 by omega, c2]; rw [e] at h1; simpa [Gwy.cs] using h1.symm
/-- The cells that a copy reads. -/
theorem copied {ms : List Gwy} {w w1 : World} {pa : Option Addr} {m c : Nat} (h : Sl w (.slice pa m c) ms) (hb : Below w.heap.size w w1) (o : Obj) : (pa = none → m = 0) ∧ ∀ ad, pa = some ad → ∀ j u, (fl ms)[j]? = some u → (w1.alloc o).cell? (ad.add j) = some u := by
  obtain ⟨a, cap, he, hs, h⟩ := h
  simp only [Value.slice.injEq] at he
  obtain ⟨rfl, rfl, rfl⟩ := he
  refine ⟨fun e => ?_, fun ad e j u hj => ?_⟩
  · subst e
    rcases h with h | ⟨b, off, h, _⟩
    · rw [h]; rfl
    · cases h
  · subst e
    rcases h with h | ⟨b, off, h, hlt, hr⟩
    · subst h; simp [fl] at hj
    · cases h
      have hlt1 : b < w1.heap.size := Nat.lt_of_lt_of_le hlt hb.size
      rw [Addr.add_lit, World.cell?_alloc_past (w := w1) _ b _ hlt1, hb.cell (p := ⟨b, off + j, none⟩) hlt]
      exact row_cell hr hj
theorem own_free {B g c n k : Nat} {w : World} {ms : List Gwy} (h : w.ownsRow B 62 3 (.slice (some ⟨g, 0, none⟩) n c) n (fl ms)) (i : Nat) : w.frozen? ⟨g, k * 3 + i, none⟩ = false := by
  rcases h.2 with ⟨h1, _⟩ | ⟨g', c', cur, h1, hbg, hg, hnc, hcm, hcs, htake⟩
  · cases h1
  · simp only [Value.slice.injEq, Option.some.injEq, Addr.mk.injEq] at h1
    obtain ⟨⟨rfl, _, _⟩, _, _⟩ := h1
    simp [World.frozen?, hg]
theorem chg_own {u v : Value} {B : Nat} {W W' : World} {ms : List Gwy} (h : Chg v W W') (ho : Own B W u ms) (hne : ∀ k, u.ownBlock = some k → v.ownBlock ≠ some k) : Own B W' u ms := by
  rcases ho.2 with ⟨rfl, h0⟩ | ⟨g, c, cur, rfl, hbg, hg, hr⟩
  · exact ⟨ho.1, .inl ⟨rfl, h0⟩⟩
  · exact ⟨ho.1, .inr ⟨g, c, cur, rfl, hbg, (h.block g (fun e => hne g rfl e.symm)).trans hg, hr⟩⟩

end Gw
end Go.Proofs.YtkicpbomjpgjpaaGreat

/- Lists of gateways that are spoilt. -/
namespace Go.Proofs.YtkicpbomjpgjpaaGreat
namespace Gw
open Go.RowKit

def spoiltE : Gwy := ⟨⟨#[63]⟩, 0, 0⟩
set_option maxHeartbeats 1600000 in
set_option maxRecDepth 100000 in
theorem spoil_chg (B : Nat) (v : Value) (ms : List Gwy) (w : World) (ho : Own B w v ms) (hn : ms.length ≤ 100000) :
    Calls Tryz.prog 22 #[v] w fun e w' => e = .returned (.tuple #[]) ∧ Chg v w w' := by
  rcases ho.2 with ⟨rfl, h0⟩ | ⟨g, c, cur, rfl, hbg, _⟩
  · clear ho
    go_enter Tryz.func22, Tryz.ntmps22
    go_wp2_with fail
    go_loopw [2] (fun i wr => i = .int .i64 0 ∧ wr = w) (fun _ _ => 0)
    case atStart => exact ⟨rfl, rfl⟩
    case round =>
      obtain ⟨rfl, hw⟩ := hrel
      subst hw
      go_wp2_with fail
      simp only [bodyPost, results, Tryz.results22]
      exact ⟨trivial, .tuple #[], by simp, rfl, Chg.refl _ _⟩
  · obtain ⟨n, hN⟩ : ∃ n, ms.length = n := ⟨_, rfl⟩
    have HN : Hid (ms.length = n) := hN
    have HO : Hid (Own B w (.slice (some ⟨g, 0, none⟩) n c) ms) := (show Own _ _ _ _ by rw [← hN]; exact ho)
    have hn2 : n ≤ 100000 := by omega
    rw [hN]
    clear hN ho hn
    go_enter Tryz.func22, Tryz.ntmps22
    go_wp2_with fail
    go_loopw [2] (fun i wr => ∃ (k : Nat) (L : List Gwy), k ≤ n ∧ i = .int .i64 k ∧ Hid (L.length = n) ∧ Hid (Own B wr (.slice (some ⟨g, 0, none⟩) n c) L) ∧ Hid (Chg (.slice (some ⟨g, 0, none⟩) n c) w wr)) (fun i _ => n - (intOf i).toNat)
    case atStart => exact ⟨0, ms, Nat.zero_le _, rfl, HN, HO, Chg.refl _ _⟩
    case round =>
      obtain ⟨k, L, hk, rfl, HL, HOL, HB⟩ := hrel
      by_cases hlt : k < n
      · have hd : decide ((k : Int) < (n : Int)) = true := by simp; omega
        have HOX : Hid (Own B wr (.slice (some ⟨g, 0, none⟩) L.length c) L) := (show Own _ _ _ _ by rw [HL.out]; exact HOL.out)
        obtain ⟨c0, c1, c2⟩ := own_cells HOX.out k (by rw [HL.out]; exact hlt)
        have z0 : wr.frozen? ⟨g, k * 3, none⟩ = false := own_free HOX.out 0
        have z1 : wr.frozen? ⟨g, k * 3 + 1, none⟩ = false := own_free HOX.out 1
        have z2 : wr.frozen? ⟨g, k * 3 + 2, none⟩ = false := own_free HOX.out 2
        have HS : Hid (Own B _ (.slice (some ⟨g, 0, none⟩) L.length c) (L.set k spoiltE)) := own_set HOX.out (by rw [HL.out]; exact hlt) spoiltE
        have hi0 : (0 : Int) ≤ (k : Int) := by omega
        have hi1 : (k : Int) < (n : Int) := by omega
        have hi2 : ((k : Int)).toNat = k := by omega
        generalize L.getD k dm = x at *
        go_wp2_with fail
        refine ⟨⟨k + 1, L.set k spoiltE, by omega, by go_num, by rw [List.length_set]; exact HL, ?_, ?_⟩, by simp [intOf]; omega⟩
        · have := HS.out
          rw [HL.out] at this
          exact this
        · exact ((HB.out.setCell rfl).setCell rfl).setCell rfl
      · have hd : decide ((k : Int) < (n : Int)) = false := by simp; omega
        go_wp2_with fail
        simp only [bodyPost, results, Tryz.results22]
        exact ⟨trivial, .tuple #[], by simp, rfl, HB.out⟩

end Gw
end Go.Proofs.YtkicpbomjpgjpaaGreat

/- Roots of whole numbers: plain mathematics. -/
namespace Go.Proofs.YtkicpbomjpgjpaaGreat
open Go.RowKit

def IsRoot (n r : Int) : Prop := 0 ≤ r ∧ r * r ≤ n ∧ n < (r + 1) * (r + 1)
theorem sq_le {a b : Int} (h0 : 0 ≤ a) (h : a ≤ b) : a * a ≤ b * b := Int.mul_le_mul h h h0 (by omega)
theorem isRoot_uniq {n r s : Int} (h : IsRoot n r) (g : IsRoot n s) : r = s := by
  obtain ⟨h0, h1, h2⟩ := h
  obtain ⟨g0, g1, g2⟩ := g
  rcases Int.lt_trichotomy r s with c | c | c
  · have := sq_le (a := r + 1) (b := s) (by omega) (by omega); omega
  · exact c
  · have := sq_le (a := s + 1) (b := r) (by omega) (by omega); omega
/-- The greatest number up to k whose square is not more than n. -/
def rtN (n : Nat) : Nat → Nat
  | 0 => 0
  | k + 1 => if (k + 1) * (k + 1) ≤ n then k + 1 else rtN n k
def rt (n : Int) : Int := (rtN n.toNat n.toNat : Nat)
theorem rtN_eq {n r : Nat} (h1 : r * r ≤ n) (h2 : n < (r + 1) * (r + 1)) : ∀ k, r ≤ k → rtN n k = r
  | 0, hk => by
    have e : r = 0 := by omega
    rw [e]; rfl
  | k + 1, hk => by
    simp only [rtN]
    by_cases hc : (k + 1) * (k + 1) ≤ n
    · rw [if_pos hc]
      rcases Nat.lt_or_ge r (k + 1) with h | h
      · have := Nat.mul_le_mul (show r + 1 ≤ k + 1 by omega) (show r + 1 ≤ k + 1 by omega)
        omega
      · omega
    · rw [if_neg hc]
      have hne : r ≠ k + 1 := fun e => hc (e ▸ h1)
      exact rtN_eq h1 h2 k (by omega)
theorem rt_eq {n r : Int} (h : IsRoot n r) : rt n = r := by
  obtain ⟨h0, h1, h2⟩ := h
  obtain ⟨m, rfl⟩ := Int.eq_ofNat_of_zero_le h0
  have hn : 0 ≤ n := Int.le_trans (Int.mul_nonneg h0 h0) h1
  obtain ⟨k, rfl⟩ := Int.eq_ofNat_of_zero_le hn
  have g1 : m * m ≤ k := by exact_mod_cast h1
  have g2 : k < (m + 1) * (m + 1) := by exact_mod_cast h2
  have g3 : m ≤ k := Nat.le_trans (Nat.le_mul_self m) g1
  show ((rtN k k : Nat) : Int) = (m : Int)
  rw [rtN_eq g1 g2 k g3]

def Srch (n r b : Int) : Prop := 0 ≤ r ∧ r * r ≤ n ∧ n < (r + b) * (r + b)
theorem srch_in {n r b : Int} (h : Srch n r (2 * b)) (hb : 0 ≤ b) (hx : (r + b) * (r + b) ≤ n) : Srch n (r + b) b := by
  obtain ⟨h0, h1, h2⟩ := h
  refine ⟨by omega, hx, ?_⟩
  rw [show r + b + b = r + 2 * b by omega]; exact h2
theorem srch_out {n r b : Int} (h : Srch n r (2 * b)) (hx : ¬ (r + b) * (r + b) ≤ n) : Srch n r b :=
  ⟨h.1, h.2.1, by omega⟩
theorem srch_end {n r : Int} (h : Srch n r 1) : IsRoot n r := h
theorem srch_le {n r b : Int} (h : Srch n r b) (hn : n ≤ 9223372036854775807) : r ≤ 3037000499 := by
  apply Classical.byContradiction; intro c
  have := sq_le (a := 3037000500) (b := r) (by omega) (by omega)
  have := h.2.1
  omega
theorem quo_iff {n x : Int} (hx : 0 < x) : x ≤ n / x ↔ x * x ≤ n := Int.le_ediv_iff_mul_le hx

theorem two_pow_pos (k : Nat) : (0 : Int) < 2 ^ k := by
  have : (0 : Nat) < 2 ^ k := Nat.two_pow_pos k
  exact_mod_cast this
theorem two_pow_succ (k : Nat) : (2 : Int) ^ (k + 1) = 2 * 2 ^ k := by rw [Int.pow_succ]; omega
theorem two_pow_le {a b : Nat} (h : a ≤ b) : (2 : Int) ^ a ≤ 2 ^ b := by
  have : (2 : Nat) ^ a ≤ 2 ^ b := Nat.pow_le_pow_right (by omega) h
  exact_mod_cast this

theorem wraps_i64 (n : Int) (h₀ : 0 ≤ n) (h₁ : n < 2 ^ 63) : IntKind.i64.wrap n = n := by rw [IntKind.wrap_i64]; omega
theorem or_bit (k : Nat) (r : Int) (h0 : 0 ≤ r) (hm : r % 2 ^ (k + 1) = 0) (hr : r < 2 ^ 63) (hk : k ≤ 62) : bits BinOp.or IntKind.i64 r (2 ^ k) = r + 2 ^ k :=
  bits_join .i64 63 (by decide) wraps_i64 (k + 1) r (2 ^ k) h0 hm hr (Int.le_of_lt (two_pow_pos k)) (by rw [two_pow_succ]; have := two_pow_pos k; omega) (Int.lt_of_le_of_lt (two_pow_le hk) (by decide))
theorem mod_keep {r : Int} {k : Nat} (hm : r % 2 ^ (k + 1) = 0) : r % 2 ^ k = 0 :=
  Int.emod_eq_zero_of_dvd (Int.dvd_trans ⟨2, by rw [Int.pow_succ]⟩ (Int.dvd_of_emod_eq_zero hm))
theorem mod_add {r : Int} {k : Nat} (hm : r % 2 ^ (k + 1) = 0) : (r + 2 ^ k) % 2 ^ k = 0 := by
  rw [Int.add_emod_right]; exact mod_keep hm
theorem len_lt (n : Nat) (h : n < 2 ^ 64) : n < 2 ^ Lib.bitLen n := by
  by_cases h0 : n = 0
  · subst h0; decide
  · exact (Lib.bitLenAux_bounds 64 n h h0).2.2
theorem srch_begin {n : Int} (h0 : 0 ≤ n) (h1 : n ≤ 9223372036854775807) (j : Nat) (hj : Lib.bitLen n.toNat / 2 = j) : Srch n 0 (2 ^ (j + 1)) := by
  refine ⟨by omega, by simpa using h0, ?_⟩
  have h2 := len_lt n.toNat (by omega)
  have h3 : (2 : Nat) ^ Lib.bitLen n.toNat ≤ 2 ^ (2 * (j + 1)) := Nat.pow_le_pow_right (by omega) (by omega)
  have h4 : (2 : Nat) ^ (2 * (j + 1)) = 2 ^ (j + 1) * 2 ^ (j + 1) := by rw [← Nat.pow_add]; congr 1; omega
  have h5 : n.toNat < 2 ^ (j + 1) * 2 ^ (j + 1) := by omega
  have h6 : ((n.toNat : Nat) : Int) < ((2 ^ (j + 1) * 2 ^ (j + 1) : Nat) : Int) := by exact_mod_cast h5
  rw [Int.toNat_of_nonneg h0] at h6
  simpa using h6
end Go.Proofs.YtkicpbomjpgjpaaGreat

/- Contracts of the library, laid at this program. -/
namespace Go.Proofs
open Go.Shelf
def Tryz.lays125_ren : Go.Shelf.Ren := ⟨fun | 125 => 73 | 128 => 96 | 129 => 97 | n => n, fun | 46 => 107 | 3 => 3 | 51 => 124 | 53 => 126 | 4 => 4 | 5 => 5 | 9 => 9 | n => n, fun | n => n⟩
theorem Tryz.lays125 : Go.Proofs.Lays.n125 Tryz.prog Tryz.lays125_ren := {
  mixed := by kernel_rfl
  f125 := Tryz.func73.trans (congrArg some (by kernel_rfl))
  f128 := Tryz.func96.trans (congrArg some (by kernel_rfl))
  f129 := Tryz.func97.trans (congrArg some (by kernel_rfl))
  t3 := Tryz.underlying3
  a3 := Tryz.isAgg3
  z3 := Tryz.sizeOf3
  v3 := Tryz.zeroValue3
  t4 := Tryz.underlying4
  a4 := Tryz.isAgg4
  z4 := Tryz.sizeOf4
  v4 := Tryz.zeroValue4
  t5 := Tryz.underlying5
  a5 := Tryz.isAgg5
  z5 := Tryz.sizeOf5
  v5 := Tryz.zeroValue5
  t9 := Tryz.underlying9
  a9 := Tryz.isAgg9
  z9 := Tryz.sizeOf9
  v9 := Tryz.zeroValue9
  t46 := Tryz.underlying107
  a46 := Tryz.isAgg107
  z46 := Tryz.sizeOf107
  v46 := Tryz.zeroValue107
  t51 := Tryz.underlying124
  a51 := Tryz.isAgg124
  z51 := Tryz.sizeOf124
  v51 := Tryz.zeroValue124
  t53 := Tryz.underlying126
  a53 := Tryz.isAgg126
  z53 := Tryz.sizeOf126
  v53 := Tryz.zeroValue126 }
theorem Tryz.bits_Len (x : Int) (w : World) (h0 : 0 ≤ x) (h1 : x ≤ 18446744073709551615) :
    Calls Tryz.prog 73 #[.int .u64 x] w fun e w' => e = .returned (.int .i64 (Lib.bitLen x.toNat)) ∧ w' = w := Any.bits_Len Tryz.lays125 x w h0 h1
end Go.Proofs

