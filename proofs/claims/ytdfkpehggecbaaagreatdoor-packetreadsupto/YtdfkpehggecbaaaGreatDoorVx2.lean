/- IC, ID0, IDM, IDS, IDG, IDW, IE -/
import Derived.Test.YtdfkpehggecbaaaGreatDoorVx1
import Derived.Deep.Cut
import Derived.Test.YtdfkpehggecbaaaGreatDoorV35
import Derived.Test.YtdfkpehggecbaaaGreatDoorV51
import Derived.Deep.CutBlock
/- The document's cursor: number, text, yes, count. -/
namespace Go.Proofs.YtdfkpehggecbaaaGreatDoor
open Go.RowKit

theorem IsQ.lt {c : Nat} {s : ByteArray} {o : Option (List UInt8)} {w : World} (h : IsQ c s o w) : c < w.heap.size := by
  obtain ⟨a, _, _, hq⟩ := h
  exact (Array.getElem?_eq_some_iff.1 hq).1
theorem IsQ.keep {c g : Nat} {s : ByteArray} {o : Option (List UInt8)} {w w' : World} (h : IsQ c s o w) (hr : Rp g w w') (hg : c ≠ g) : IsQ c s o w' := by
  obtain ⟨a, h1, h2, hq⟩ := h
  exact ⟨a, h1, h2, hr.block' hg hq⟩
theorem cnum_any {c : Nat} {s : ByteArray} {o : Option (List UInt8)} {w : World} (h : IsQ c s o w) (hs : s.size ≤ 16777216) :
    Calls Tryz.prog 39 #[.pointer (some ⟨c, 0, none⟩)] w fun e w' => e = .returned (.int .i64 (cN o).1) ∧ IsQ c s (cN o).2 w' ∧ Rp c w w' := by
  obtain ⟨a, ha, hl, hq⟩ := h
  refine (cnum_walk c a s o.isNone w hq hs ha).mono ?_
  rintro e w' ⟨hr, ⟨⟨h1, h2, h3⟩, rfl, h5⟩ | ⟨h1, rfl, b, hb, h5⟩⟩
  · cases o with
    | none => cases h1
    | some l =>
      have e0 := hl l rfl
      rw [e0] at h2 h3 h5 ⊢
      have hd : cN (some l) = (val l, some (l.drop (far l + 1))) := by unfold cN; rw [Option.bind_some, dN_yes h3]
      rw [hd]
      refine ⟨rfl, ⟨a + far l + 1, ?_, ?_, h5⟩, hr⟩
      · have := congrArg List.length e0
        rw [List.length_drop] at this
        have h6 : s.data.toList.length = s.size := rfl
        omega
      · intro l' hl'
        simp only [Option.some.injEq] at hl'
        subst hl'
        rw [← e0, List.drop_drop]
        congr 1
  · cases o with
    | none => exact ⟨rfl, ⟨b, hb, fun l hl => (by cases hl), h5⟩, hr⟩
    | some l =>
      have e0 := hl l rfl
      rw [e0] at h1
      have hd : cN (some l) = (0, none) := by
        unfold cN
        rw [Option.bind_some, dN_no (fun h => h1 ⟨rfl, h⟩)]
      rw [hd]
      exact ⟨rfl, ⟨b, hb, fun l hl => (by cases hl), h5⟩, hr⟩
theorem cN_in (o : Option (List UInt8)) : In63 (cN o).1 := by
  cases hn : (cN o).2 with
  | some r => exact sm_in (cN_eq hn).2
  | none =>
    unfold cN at hn ⊢
    split
    · rename_i a ha
      rw [ha] at hn
      cases hn
    · exact ⟨by omega, by omega⟩
theorem cN_bad {o : Option (List UInt8)} (h : (cN o).2 = none) : (cN o).1 = 0 := by
  unfold cN at h ⊢
  split
  · rename_i a ha
    rw [ha] at h
    cases h
  · rfl

set_option maxHeartbeats 3200000 in
set_option maxRecDepth 100000 in
theorem cyes_any {c : Nat} {s : ByteArray} {o : Option (List UInt8)} {w : World} (h : IsQ c s o w) (hs : s.size ≤ 16777216) :
    Calls Tryz.prog 37 #[.pointer (some ⟨c, 0, none⟩)] w fun e w' => e = .returned (.bool (cY o).1) ∧ IsQ c s (cY o).2 w' ∧ Rp c w w' := by
  have HN : Hid (Calls Tryz.prog 39 #[.pointer (some ⟨c, 0, none⟩)] w fun e w' => e = .returned (.int .i64 (cN o).1) ∧ IsQ c s (cN o).2 w' ∧ Rp c w w') := cnum_any h hs
  have HY : Hid (cY o = match (cN o).2 with
    | some r => if (cN o).1 = 0 then (false, some r) else if (cN o).1 = 1 then (true, some r) else (false, none)
    | none => (false, none)) := rfl
  have HB0 : Hid ((cN o).2 = none → (cN o).1 = 0) := cN_bad
  clear h
  generalize cY o = Y at *
  generalize (cN o).1 = n at *
  generalize (cN o).2 = q at *
  obtain ⟨y, q'⟩ := Y
  simp only
  go_enter Tryz.func37, Tryz.ntmps37
  go_wp2_with fail
  refine HN.out.mono ?_
  rintro e w1 ⟨rfl, hq, hr⟩
  obtain ⟨a, ha, hl, hc⟩ := hq
  have HC : Hid (a ≤ s.size ∧ (∀ l, q = some l → s.data.toList.drop a = l) ∧ QC c s a q.isNone w1 ∧ Rp c w w1) := ⟨ha, hl, hc, hr⟩
  obtain ⟨y0, y1, y2⟩ := cells3 hc
  have z2 := free3 hc 2
  clear hl hc hr HN
  cases q with
  | none =>
    have h0 : n = 0 := HB0.out rfl
    subst h0
    have hY := HY.out
    simp only [Prod.mk.injEq] at hY
    obtain ⟨rfl, rfl⟩ := hY
    clear HY HB0
    have y2' : w1.cell? ⟨c, 2, none⟩ = some (.bool true) := y2
    clear y2
    go_wp2_with fail
    go_ret
    exact ⟨rfl, ⟨a, HC.out.1, fun l hl => (by cases hl), HC.out.2.2.1.spoil true⟩, HC.out.2.2.2.one _⟩
  | some r =>
    have y2' : w1.cell? ⟨c, 2, none⟩ = some (.bool false) := y2
    clear y2 HB0
    have hY := HY.out
    simp only at hY
    clear HY
    by_cases h0 : n = 0
    · subst h0
      rw [if_pos rfl] at hY
      simp only [Prod.mk.injEq] at hY
      obtain ⟨rfl, rfl⟩ := hY
      go_wp2_with fail
      go_ret
      exact ⟨rfl, ⟨a, HC.out.1, HC.out.2.1, HC.out.2.2.1.spoil false⟩, HC.out.2.2.2.one _⟩
    · rw [if_neg h0] at hY
      by_cases h1 : n = 1
      · subst h1
        rw [if_pos rfl] at hY
        simp only [Prod.mk.injEq] at hY
        obtain ⟨rfl, rfl⟩ := hY
        go_wp2_with fail
        go_ret
        exact ⟨rfl, ⟨a, HC.out.1, HC.out.2.1, HC.out.2.2.1.spoil false⟩, HC.out.2.2.2.one _⟩
      · rw [if_neg h1] at hY
        simp only [Prod.mk.injEq] at hY
        obtain ⟨rfl, rfl⟩ := hY
        have e1 : (n == 1) = false := by simpa using h1
        by_cases hn : n < 0
        · have d1 : decide (n < 0) = true := by simpa using hn
          go_wp2_with fail
          go_ret
          exact ⟨by first | rfl | (rw [e1]; rfl) | simp [e1], ⟨a, HC.out.1, fun l hl => (by cases hl), HC.out.2.2.1.spoil true⟩, HC.out.2.2.2.one _⟩
        · have d1 : decide (n < 0) = false := by simpa using hn
          have d2 : decide (1 < n) = true := by simp; omega
          go_wp2_with fail
          go_ret
          exact ⟨by first | rfl | (rw [e1]; rfl) | simp [e1], ⟨a, HC.out.1, fun l hl => (by cases hl), HC.out.2.2.1.spoil true⟩, HC.out.2.2.2.one _⟩

set_option maxHeartbeats 3200000 in
set_option maxRecDepth 100000 in
theorem ccount_any {c : Nat} {s : ByteArray} {o : Option (List UInt8)} {w : World} (m : Int) (h : IsQ c s o w) (hs : s.size ≤ 16777216) (hm : 0 ≤ m) :
    Calls Tryz.prog 38 #[.pointer (some ⟨c, 0, none⟩), .int .i64 m] w fun e w' => e = .returned (.int .i64 (cC m o).1) ∧ IsQ c s (cC m o).2 w' ∧ Rp c w w' := by
  have HN : Hid (Calls Tryz.prog 39 #[.pointer (some ⟨c, 0, none⟩)] w fun e w' => e = .returned (.int .i64 (cN o).1) ∧ IsQ c s (cN o).2 w' ∧ Rp c w w') := cnum_any h hs
  have HY : Hid (cC m o = match (cN o).2 with
    | some r => if 0 ≤ (cN o).1 ∧ (cN o).1 ≤ m then ((cN o).1, some r) else (0, none)
    | none => (0, none)) := rfl
  have HB0 : Hid ((cN o).2 = none → (cN o).1 = 0) := cN_bad
  clear h
  generalize cC m o = Y at *
  generalize (cN o).1 = n at *
  generalize (cN o).2 = q at *
  obtain ⟨y, q'⟩ := Y
  simp only
  go_enter Tryz.func38, Tryz.ntmps38
  go_wp2_with fail
  refine HN.out.mono ?_
  rintro e w1 ⟨rfl, hq, hr⟩
  obtain ⟨a, ha, hl, hc⟩ := hq
  have HC : Hid (a ≤ s.size ∧ (∀ l, q = some l → s.data.toList.drop a = l) ∧ QC c s a q.isNone w1 ∧ Rp c w w1) := ⟨ha, hl, hc, hr⟩
  obtain ⟨y0, y1, y2⟩ := cells3 hc
  have z2 := free3 hc 2
  clear hl hc hr HN
  cases q with
  | none =>
    have h0 : n = 0 := HB0.out rfl
    subst h0
    have hY := HY.out
    simp only [Prod.mk.injEq] at hY
    obtain ⟨rfl, rfl⟩ := hY
    clear HY HB0
    have y2' : w1.cell? ⟨c, 2, none⟩ = some (.bool true) := y2
    clear y2
    have d1 : decide (m < (0 : Int)) = false := by simp; omega
    go_wp2_with fail
    go_ret
    exact ⟨rfl, ⟨a, HC.out.1, fun l hl => (by cases hl), HC.out.2.2.1⟩, HC.out.2.2.2⟩
  | some r =>
    have y2' : w1.cell? ⟨c, 2, none⟩ = some (.bool false) := y2
    clear y2 HB0
    have hY := HY.out
    simp only at hY
    clear HY
    by_cases h0 : 0 ≤ n ∧ n ≤ m
    · rw [if_pos h0] at hY
      simp only [Prod.mk.injEq] at hY
      obtain ⟨rfl, rfl⟩ := hY
      have d1 : decide (y < 0) = false := by simp; omega
      have d2 : decide (m < y) = false := by simp; omega
      clear h0
      go_wp2_with fail
      go_ret
      exact ⟨rfl, ⟨a, HC.out.1, HC.out.2.1, HC.out.2.2.1⟩, HC.out.2.2.2⟩
    · rw [if_neg h0] at hY
      simp only [Prod.mk.injEq] at hY
      obtain ⟨rfl, rfl⟩ := hY
      have HE : Hid (IsQ c s none (w1.setCell ⟨c, 2, none⟩ (.bool true)) ∧ Rp c w (w1.setCell ⟨c, 2, none⟩ (.bool true))) := ⟨⟨a, HC.out.1, fun l hl => (by cases hl), HC.out.2.2.1.spoil true⟩, HC.out.2.2.2.one _⟩
      have c2n : (w1.setCell ⟨c, 2, none⟩ (.bool true)).cell? ⟨c, 2, none⟩ = some (.bool true) := World.cell?_setCell_same _ _ _ y2'
      by_cases hn : n < 0
      · have d1 : decide (n < 0) = true := by simpa using hn
        clear h0
        go_wp2_with fail
        go_ret
        exact ⟨rfl, HE.out⟩
      · have d1 : decide (n < 0) = false := by simpa using hn
        have d2 : decide (m < n) = true := by simp; omega
        clear h0
        go_wp2_with fail
        go_ret
        exact ⟨rfl, HE.out⟩

set_option maxHeartbeats 6400000 in
set_option maxRecDepth 100000 in
theorem ctext_any {c : Nat} {s : ByteArray} {o : Option (List UInt8)} {w : World} (h : IsQ c s o w) (hs : s.size ≤ 16777216) :
    Calls Tryz.prog 36 #[.pointer (some ⟨c, 0, none⟩)] w fun e w' => e = .returned (.string (cT o).1) ∧ IsQ c s (cT o).2 w' ∧ Rp c w w' := by
  have HN : Hid (Calls Tryz.prog 39 #[.pointer (some ⟨c, 0, none⟩)] w fun e w' => e = .returned (.int .i64 (cN o).1) ∧ IsQ c s (cN o).2 w' ∧ Rp c w w') := cnum_any h hs
  have HY : Hid (cT o = match (cN o).2 with
    | some r => if 0 ≤ (cN o).1 ∧ (cN o).1 ≤ r.length then (bstr (r.take (cN o).1.toNat), some (r.drop (cN o).1.toNat)) else (⟨#[]⟩, none)
    | none => (⟨#[]⟩, none)) := rfl
  have hin := cN_in o
  clear h
  generalize cT o = Y at *
  generalize (cN o).1 = n at *
  generalize (cN o).2 = q at *
  obtain ⟨y, q'⟩ := Y
  simp only
  go_enter Tryz.func36, Tryz.ntmps36
  go_wp2_with fail
  refine HN.out.mono ?_
  rintro e w1 ⟨rfl, hq, hr⟩
  obtain ⟨a, ha, hl, hc⟩ := hq
  have HC : Hid (a ≤ s.size ∧ (∀ l, q = some l → s.data.toList.drop a = l) ∧ QC c s a q.isNone w1 ∧ Rp c w w1) := ⟨ha, hl, hc, hr⟩
  obtain ⟨y0, y1, y2⟩ := cells3 hc
  have z1 := free3 hc 1
  have z2 := free3 hc 2
  clear hc hr HN
  cases q with
  | none =>
    have hY := HY.out
    simp only [Prod.mk.injEq] at hY
    obtain ⟨rfl, rfl⟩ := hY
    clear HY hl
    have y2' : w1.cell? ⟨c, 2, none⟩ = some (.bool true) := y2
    clear y2
    go_wp2_with fail
    go_quiet (fail)
    go_wp2_with fail
    go_ret
    exact ⟨rfl, ⟨a, HC.out.1, fun l hl => (by cases hl), (show QC c s a true (w1.drewN nq) from HC.out.2.2.1).spoil true⟩, (HC.out.2.2.2.drewN _).one _⟩
  | some r =>
    have y2' : w1.cell? ⟨c, 2, none⟩ = some (.bool false) := y2
    clear y2
    have hY := HY.out
    simp only at hY
    clear HY
    have hrl : r.length = s.size - a := by
      rw [← hl r rfl, List.length_drop]; rfl
    have HLR : Hid (s.data.toList.drop a = r) := hl r rfl
    clear hl
    have hw1 : IntKind.i64.wrap ((s.size : Int) - (a : Int)) = (s.size : Int) - (a : Int) := by rw [IntKind.wrap_i64]; omega
    by_cases h0 : 0 ≤ n ∧ n ≤ r.length
    · rw [if_pos h0] at hY
      obtain ⟨k, rfl⟩ : ∃ k : Nat, n = (k : Int) := ⟨n.toNat, by omega⟩
      rw [Int.toNat_natCast] at hY
      simp only [Prod.mk.injEq] at hY
      obtain ⟨hy, rfl⟩ := hY
      have HYY : Hid (y = bstr (r.take k)) := hy
      have hk : a + k ≤ s.size := by omega
      have d1 : decide ((k : Int) < 0) = false := by simp
      have d2 : decide ((s.size : Int) - (a : Int) < (k : Int)) = false := by simp; omega
      have hw2 : IntKind.i64.wrap ((a : Int) + (k : Int)) = ((a + k : Nat) : Int) := by rw [IntKind.wrap_i64]; omega
      have HX : Hid (s.extract a (a + k) = y) := by
        show _ = _
        rw [HYY.out, ← HLR.out, ← bstr_mk (s.extract a (a + k)), ext_take, show a + k - a = k by omega]
      have HE : Hid (∀ W, QC c s a false W → Rp c w W → IsQ c s (some (r.drop k)) (W.setCell ⟨c, 1, none⟩ (.int .i64 ((a + k : Nat) : Int))) ∧ Rp c w (W.setCell ⟨c, 1, none⟩ (.int .i64 ((a + k : Nat) : Int)))) := fun W hW hR => ⟨⟨a + k, hk, fun l hl => by
        simp only [Option.some.injEq] at hl
        subst hl
        rw [← HLR.out, List.drop_drop], hW.at (a + k)⟩, hR.one _⟩
      clear h0 hy hin hrl
      go_wp2_with fail
      go_quiet (fail)
      go_upto_region 6 with fail
      obtain ⟨W2, hW2⟩ : ∃ W2, W2 = (w1.drewN nq).setCell ⟨c, 1, none⟩ (.int .i64 ((a : Int) + (k : Int))) := ⟨_, rfl⟩
      have HE2 : Hid (IsQ c s (some (r.drop k)) W2 ∧ Rp c w W2 ∧ QC c s (a + k) false W2) := by
        rw [hW2]
        exact ⟨(HE.out (w1.drewN nq) HC.out.2.2.1 (HC.out.2.2.2.drewN _)).1, (HE.out (w1.drewN nq) HC.out.2.2.1 (HC.out.2.2.2.drewN _)).2, (show QC c s a false (w1.drewN nq) from HC.out.2.2.1).at (a + k)⟩
      rw [← hW2]
      clear hW2 y0 y1 y2' z1 z2 d1 d2 hw1 HE
      obtain ⟨y0, y1, y2⟩ := cells3 HE2.out.2.2
      have e1 : IntKind.i64.wrap (((a + k : Nat) : Int) - (k : Int)) = (a : Int) := by rw [IntKind.wrap_i64]; omega
      have e2 : (0 : Int) ≤ (a : Int) := by omega
      have e3 : (a : Int) ≤ ((a + k : Nat) : Int) := by omega
      have e4 : ((a + k : Nat) : Int) ≤ (s.size : Int) := by omega
      have e5 : ((a : Int)).toNat = a := by omega
      have e6 : (((a + k : Nat) : Int)).toNat = a + k := by omega
      generalize ((a + k : Nat) : Int) = ak at *
      go_quiet (fail)
      go_wp2_with fail
      go_ret
      exact ⟨by first | (rw [HX.out]; rfl) | (simp [HX.out]), HE2.out.1, HE2.out.2.1.drewN _⟩
    · rw [if_neg h0] at hY
      simp only [Prod.mk.injEq] at hY
      obtain ⟨rfl, rfl⟩ := hY
      by_cases hn : n < 0
      · have d1 : decide (n < 0) = true := by simpa using hn
        clear h0
        go_wp2_with fail
        go_quiet (fail)
        go_wp2_with fail
        go_ret
        exact ⟨rfl, ⟨a, HC.out.1, fun l hl => (by cases hl), (show QC c s a false (w1.drewN nq) from HC.out.2.2.1).spoil true⟩, (HC.out.2.2.2.drewN _).one _⟩
      · have d1 : decide (n < 0) = false := by simpa using hn
        have d2 : decide ((s.size : Int) - (a : Int) < n) = true := by simp; omega
        clear h0
        go_wp2_with fail
        go_quiet (fail)
        go_wp2_with fail
        go_ret
        exact ⟨rfl, ⟨a, HC.out.1, fun l hl => (by cases hl), (show QC c s a false (w1.drewN nq) from HC.out.2.2.1).spoil true⟩, (HC.out.2.2.2.drewN _).one _⟩

end Go.Proofs.YtdfkpehggecbaaaGreatDoor

/- The document's PacketOf: what its loops share. -/
namespace Go.Proofs.YtdfkpehggecbaaaGreatDoor
open Go.RowKit

/-- All that was there stays, but for two boxes. -/
structure R2 (c p : Nat) (w w' : World) : Prop where
  os : w'.os = w.os
  tape : w'.tape = w.tape
  output : w'.output = w.output
  size : w.heap.size ≤ w'.heap.size
  block : ∀ k : Nat, k < w.heap.size → k ≠ c → k ≠ p → w'.heap[k]? = w.heap[k]?
theorem R2.refl (c p : Nat) (w : World) : R2 c p w w := ⟨rfl, rfl, rfl, Nat.le_refl _, fun _ _ _ _ => rfl⟩
theorem R2.rp {c p : Nat} {w w1 w2 : World} (h : R2 c p w w1) (h2 : Rp c w1 w2) : R2 c p w w2 :=
  ⟨h2.os.trans h.os, h2.tape.trans h.tape, h2.output.trans h.output, Nat.le_trans h.size h2.size, fun k hk hc hp => (h2.block k (Nat.lt_of_lt_of_le hk h.size) hc).trans (h.block k hk hc hp)⟩
theorem R2.set {c p : Nat} {w w1 : World} (h : R2 c p w w1) (j : Nat) (v : Value) : R2 c p w (w1.setCell ⟨p, j, none⟩ v) :=
  ⟨h.os, h.tape, h.output, by simpa using h.size, fun k hk hc hp => (Below.heap_setCell _ _ _ k hp).trans (h.block k hk hc hp)⟩
theorem R2.below {c p B : Nat} {w w1 w2 : World} (h : R2 c p w w1) (h2 : Below B w1 w2) (hB : w.heap.size ≤ B) : R2 c p w w2 :=
  ⟨h2.os.trans h.os, h2.tape.trans h.tape, h2.output.trans h.output, Nat.le_trans h.size h2.size, fun k hk hc hp => (h2.block k (by omega)).trans (h.block k hk hc hp)⟩
theorem Rp.new {c b j : Nat} {w w1 : World} (h : Rp c w w1) (hb : w.heap.size ≤ b) (v : Value) : Rp c w (w1.setCell ⟨b, j, none⟩ v) :=
  ⟨h.os, h.tape, h.output, by simpa using h.size, fun k hk hc => (Below.heap_setCell _ _ _ k (by show k ≠ b; omega)).trans (h.block k hk hc)⟩
theorem IsQ.set {c b j : Nat} {s : ByteArray} {o : Option (List UInt8)} {w : World} (h : IsQ c s o w) (hb : c ≠ b) (v : Value) : IsQ c s o (w.setCell ⟨b, j, none⟩ v) := by
  obtain ⟨a, h1, h2, hq⟩ := h
  exact ⟨a, h1, h2, (Below.heap_setCell _ _ _ c hb).trans hq⟩
theorem IsQ.below {c B : Nat} {s : ByteArray} {o : Option (List UInt8)} {w w' : World} (h : IsQ c s o w) (hb : Below B w w') (hc : c < B) : IsQ c s o w' := by
  obtain ⟨a, h1, h2, hq⟩ := h
  exact ⟨a, h1, h2, (hb.block c hc).trans hq⟩
theorem IsQ.bad {c : Nat} {s : ByteArray} {o : Option (List UInt8)} {w : World} (h : IsQ c s o w) : w.cell? ⟨c, 2, none⟩ = some (.bool o.isNone) := by
  obtain ⟨a, h1, h2, hq⟩ := h
  exact cellsAt hq 2

end Go.Proofs.YtdfkpehggecbaaaGreatDoor

/- The document's PacketOf: a loop. -/
namespace Go.Proofs.YtdfkpehggecbaaaGreatDoor

open Go.RowKit

theorem cLs_end {n : Nat} {o : Option (List UInt8)} {D : List Mem} (h : n = 0 ∨ o = none) : cLs n o D = (D, o) := by
  rcases h with rfl | rfl
  · cases o <;> rfl
  · exact cLs_bad n D

set_option maxHeartbeats 100000000 in
set_option maxRecDepth 1000000 in
theorem loop_c {u0 u1 u2 u3 u8 u9 u10 u11 u12 u13 u14 u15 u16 u17 u18 u19 u20 u21 u22 u23 u24 u25 u26 u27 u28 u29 u30 u31 u32 u33 u34 u35 u36 u37 u38 u39 u40 u41 u42 u43 u44 u45 u46 u47 u48 u49 u50 u51 u52 u53 u54 u55 u56 u57 u58 u59 u60 u61 u62 u63 u64 u65 u66 u67 u68 u69 u70 u71 u72 u73 u74 u75 u76 u77 u78 u79 u80 u81 u82 u83 u84 u85 u86 u87 u88 u89 u90 u91 u92 u93 u94 u95 u96 u97 u98 u99 u100 u101 u102 u103 u104 u105 u106 u107 u108 u109 u110 u111 u112 u113 u114 u115 u116 u117 u118 u119 u120 u121 u122 u123 u124 u125 u126 u127 u128 u129 u130 u131 u132 u133 u134 u135 u136 u137 u138 u139 u140 u141 u142 u143 u144 u145 u146 u147 u148 u149 u150 u151 u152 u153 u154 u155 u156 u157 u158 u159 u160 u161 u162 u163 u164 u165 u166 u167 u168 u169 u170 u171 u172 u173 u174 u175 u176 u177 u178 u179 u180 u181 u182 u183 u184 u185 u186 u187 u188 u189 u190 u191 u192 u193 u194 u195 u196 u197 : Value} (w : World) (s : ByteArray) (c pb M : Nat) (o : Option (List UInt8)) (p0 p1 p3 p4 p5 : Value) (hs : s.size ≤ 16777216) (hM : M ≤ 20) (hq : IsQ c s o w) (hcp : c ≠ pb) (hp : w.heap[pb]? = some (.cells #[p0, p1, .slice none 0 0, p3, p4, p5] 27 (0, 0))) (Q : Exit → Act → World → Prop)
    (hN : ∀ (y7 y8 y26 y27 y28 y29 y30 y31 y32 y33 y34 y35 y36 y37 y38 y39 y40 y41 y42 y43 y44 y45 y46 y47 y48 y49 y50 y51 y52 y53 y54 y55 y56 y57 y58 : Value) (ao : Option Addr) (lo co : Nat) (W : World), Hid (IsQ c s (cLs M o []).2 W) → Hid (W.heap[pb]? = some (.cells #[p0, p1, .slice ao lo co, p3, p4, p5] 27 (0, 0))) → Hid (Own w.heap.size W (.slice ao lo co) (cLs M o []).1) → Hid (R2 c pb w W) → Q .normal ⟨#[u0, u1, u2, u3, .pointer (some ⟨c, 0, none⟩), .pointer (some ⟨pb, 0, none⟩), .int .i64 (M : Int), y7, y8, u9, u10, u11, u12, u13, u14, u15, u16, u17, u18, u19, u20, u21, u22, u23, u24, u25, y26, y27, y28, y29, y30, y31, y32, y33, y34, y35, y36, y37, y38, y39, y40, y41, y42, y43, y44, y45, y46, y47, y48, y49, y50, y51, y52, y53, y54, y55, y56, y57, y58, u59, u60, u61, u62, u63, u64, u65, u66, u67, u68, u69, u70, u71, u72, u73, u74, u75, u76, u77, u78, u79, u80, u81, u82, u83, u84, u85, u86, u87, u88, u89, u90, u91, u92, u93, u94, u95, u96, u97, u98, u99, u100, u101, u102, u103, u104, u105, u106, u107, u108, u109, u110, u111, u112, u113, u114, u115, u116, u117, u118, u119, u120, u121, u122, u123, u124, u125, u126, u127, u128, u129, u130, u131, u132, u133, u134, u135, u136, u137, u138, u139, u140, u141, u142, u143, u144, u145, u146, u147, u148, u149, u150, u151, u152, u153, u154, u155, u156, u157, u158, u159, u160, u161, u162, u163, u164, u165, u166, u167, u168, u169, u170, u171, u172, u173, u174, u175, u176, u177, u178, u179, u180, u181, u182, u183, u184, u185, u186, u187, u188, u189, u190, u191, u192, u193, u194, u195, u196, u197], []⟩ W) :
    Code.wp Tryz.prog ((Tryz.f13.body.bind (blkIn 0)).getD .skip) Q ⟨#[u0, u1, u2, u3, .pointer (some ⟨c, 0, none⟩), .pointer (some ⟨pb, 0, none⟩), .int .i64 (M : Int), .int .i64 0, u8, u9, u10, u11, u12, u13, u14, u15, u16, u17, u18, u19, u20, u21, u22, u23, u24, u25, u26, u27, u28, u29, u30, u31, u32, u33, u34, u35, u36, u37, u38, u39, u40, u41, u42, u43, u44, u45, u46, u47, u48, u49, u50, u51, u52, u53, u54, u55, u56, u57, u58, u59, u60, u61, u62, u63, u64, u65, u66, u67, u68, u69, u70, u71, u72, u73, u74, u75, u76, u77, u78, u79, u80, u81, u82, u83, u84, u85, u86, u87, u88, u89, u90, u91, u92, u93, u94, u95, u96, u97, u98, u99, u100, u101, u102, u103, u104, u105, u106, u107, u108, u109, u110, u111, u112, u113, u114, u115, u116, u117, u118, u119, u120, u121, u122, u123, u124, u125, u126, u127, u128, u129, u130, u131, u132, u133, u134, u135, u136, u137, u138, u139, u140, u141, u142, u143, u144, u145, u146, u147, u148, u149, u150, u151, u152, u153, u154, u155, u156, u157, u158, u159, u160, u161, u162, u163, u164, u165, u166, u167, u168, u169, u170, u171, u172, u173, u174, u175, u176, u177, u178, u179, u180, u181, u182, u183, u184, u185, u186, u187, u188, u189, u190, u191, u192, u193, u194, u195, u196, u197], []⟩ w := by
  obtain ⟨i0, hi0, hz0, hzs, hzb⟩ := info_parts Tryz.info55
  conv => arg 2; whnf
  have HQN : Hid _ := hN
  clear hN
  obtain ⟨RS, hRS⟩ : ∃ RS, RS = cLs M o [] := ⟨_, rfl⟩
  rw [← hRS] at HQN
  have HRS0 : Hid (cLs (M - 0) o [] = RS) := hRS.symm
  have hcl := hq.lt
  have hpl : pb < w.heap.size := (Array.getElem?_eq_some_iff.1 hp).1
  have HQ0 : Hid (IsQ c s o w ∧ w.heap[pb]? = some (.cells #[p0, p1, .slice none 0 0, p3, p4, p5] 27 (0, 0)) ∧ R2 c pb w w) := ⟨hq, hp, R2.refl _ _ _⟩
  clear hRS hq hp
  go_wp2_with fail
  go_loopw [7] (fun i wr => ∃ (k : Nat) (D : List Mem) (o : Option (List UInt8)) (ao : Option Addr) (lo co : Nat), k ≤ M ∧ D.length = k ∧ i = .int .i64 k ∧ Hid (cLs (M - k) o D = RS) ∧ Hid (IsQ c s o wr ∧ wr.heap[pb]? = some (.cells #[p0, p1, .slice ao lo co, p3, p4, p5] 27 (0, 0)) ∧ R2 c pb w wr) ∧ Hid (Own w.heap.size wr (.slice ao lo co) D)) (fun i _ => M - (intOf i).toNat)
  case atStart => exact ⟨0, [], o, none, 0, 0, Nat.zero_le _, rfl, rfl, HRS0, HQ0, own_nil _ _⟩
  case round =>
    obtain ⟨k, D, o, ao, lo, co, hk, hDk0, rfl, HRS, HS, HO⟩ := hrel
    have HDK : Hid (D.length = k) := hDk0
    have hDl : D.length ≤ 40 := by omega
    clear hDk0
    have y2 := HS.out.1.bad
    by_cases hlt : k < M
    · have hd : decide ((k : Int) < (M : Int)) = true := by simp; omega
      cases o with
      | none =>
        have y2' : wr.cell? ⟨c, 2, none⟩ = some (.bool true) := y2
        clear y2
        have HFN : Hid (RS = (D, none)) := (show _ = _ by rw [← HRS.out, cLs_end (.inr rfl)])
        clear HRS
        go_wp2_with fail
        refine HQN.out _ _ _ _ _ _ _ _ _ _ _ _ _ _ _ _ _ _ _ _ _ _ _ _ _ _ _ _ _ _ _ _ _ _ _ ao lo co wr ?_ HS.out.2.1 ?_ HS.out.2.2
        · show IsQ _ _ _ _
          rw [HFN.out]; exact HS.out.1
        · show Own _ _ _ _
          rw [HFN.out]; exact HO.out
      | some l =>
        have y2' : wr.cell? ⟨c, 2, none⟩ = some (.bool false) := y2
        clear y2
        obtain ⟨x0, o1, hx0⟩ : ∃ x o', cT (some l) = (x, o') := ⟨_, _, rfl⟩
        obtain ⟨x1, o2, hx1⟩ : ∃ x o', cN o1 = (x, o') := ⟨_, _, rfl⟩
        obtain ⟨x2, o3, hx2⟩ : ∃ x o', cN o2 = (x, o') := ⟨_, _, rfl⟩
        obtain ⟨x3, o4, hx3⟩ : ∃ x o', cN o3 = (x, o') := ⟨_, _, rfl⟩
        obtain ⟨x4, o5, hx4⟩ : ∃ x o', cY o4 = (x, o') := ⟨_, _, rfl⟩
        have hel : cEl (some l) = (⟨x0, x1, x2, x3, x4⟩, o5) := by simp only [cEl, hx0, hx1, hx2, hx3, hx4]
        have HRS2 : Hid (cLs (M - (k + 1)) o5 (D ++ [⟨x0, x1, x2, x3, x4⟩]) = RS) := (show _ = _ by
          rw [← HRS.out, cLs_go (by omega), hel, show M - (k + 1) = M - k - 1 by omega])
        clear hel HRS
        obtain ⟨W0, hW0⟩ : ∃ W0, W0 = wr.alloc (.cells #[.string ⟨#[]⟩, .int .i64 0, .int .i64 0, .int .i64 0, .bool false] 55) := ⟨_, rfl⟩
        have hb0 : Below wr.heap.size wr W0 := by rw [hW0]; exact (Below.refl _ _).alloc (Nat.le_refl _) _
        have hsz := HS.out.2.2.size
        have hcw : c < wr.heap.size := HS.out.1.lt
        have hpw : pb < wr.heap.size := (Array.getElem?_eq_some_iff.1 HS.out.2.1).1
        have HE0 : Hid (IsQ c s (some l) W0 ∧ Rp c wr W0 ∧ W0.heap[wr.heap.size]? = some (.cells #[.string ⟨#[]⟩, .int .i64 0, .int .i64 0, .int .i64 0, .bool false] 55 (0, 0))) := ⟨HS.out.1.below hb0 hcw, Rp.of_below hb0 (Nat.le_refl _), by rw [hW0]; exact heap_alloc_new wr _⟩
        have HC0 : Hid (∀ W, IsQ c s (some l) W → Calls Tryz.prog 36 #[.pointer (some ⟨c, 0, none⟩)] W fun e w' => e = .returned (.string x0) ∧ IsQ c s o1 w' ∧ Rp c W w') := fun W hW => by
          have h := ctext_any hW hs
          rw [hx0] at h
          exact h
        have HC1 : Hid (∀ W, IsQ c s o1 W → Calls Tryz.prog 39 #[.pointer (some ⟨c, 0, none⟩)] W fun e w' => e = .returned (.int .i64 x1) ∧ IsQ c s o2 w' ∧ Rp c W w') := fun W hW => by
          have h := cnum_any hW hs
          rw [hx1] at h
          exact h
        have HC2 : Hid (∀ W, IsQ c s o2 W → Calls Tryz.prog 39 #[.pointer (some ⟨c, 0, none⟩)] W fun e w' => e = .returned (.int .i64 x2) ∧ IsQ c s o3 w' ∧ Rp c W w') := fun W hW => by
          have h := cnum_any hW hs
          rw [hx2] at h
          exact h
        have HC3 : Hid (∀ W, IsQ c s o3 W → Calls Tryz.prog 39 #[.pointer (some ⟨c, 0, none⟩)] W fun e w' => e = .returned (.int .i64 x3) ∧ IsQ c s o4 w' ∧ Rp c W w') := fun W hW => by
          have h := cnum_any hW hs
          rw [hx3] at h
          exact h
        have HC4 : Hid (∀ W, IsQ c s o4 W → Calls Tryz.prog 37 #[.pointer (some ⟨c, 0, none⟩)] W fun e w' => e = .returned (.bool x4) ∧ IsQ c s o5 w' ∧ Rp c W w') := fun W hW => by
          have h := cyes_any hW hs
          rw [hx4] at h
          exact h
        clear hb0 hx0 hx1 hx2 hx3 hx4
        go_wp2_with fail
        rw [← hW0]
        clear hW0 y2'
        refine (HC0.out W0 HE0.out.1).mono ?_
        rintro e W1 ⟨rfl, h1, h2⟩
        have hm0 : W1.heap[wr.heap.size]? = some (.cells #[.string ⟨#[]⟩, .int .i64 0, .int .i64 0, .int .i64 0, .bool false] 55 (0, 0)) := h2.block' (by omega) HE0.out.2.2
        have HE1 : Hid (IsQ c s o1 (W1.setCell ⟨wr.heap.size, 0, none⟩ (.string x0)) ∧ Rp c wr (W1.setCell ⟨wr.heap.size, 0, none⟩ (.string x0)) ∧ (W1.setCell ⟨wr.heap.size, 0, none⟩ (.string x0)).heap[wr.heap.size]? = some (.cells #[.string x0, .int .i64 0, .int .i64 0, .int .i64 0, .bool false] 55 (0, 0))) := ⟨h1.set (by omega) _, (HE0.out.2.1.trans h2).new (Nat.le_refl _) _, Joins.block_setCell (i := 0) hm0 _⟩
        have g0 : W1.cell? ⟨wr.heap.size, 0, none⟩ = some (.string ⟨#[]⟩) := cellsAt hm0 0
        have z0 : W1.frozen? ⟨wr.heap.size, 0, none⟩ = false := free3 hm0 0
        clear hm0 h1 h2 HC0 HE0
        go_wp2_with fail
        refine (HC1.out (W1.setCell ⟨wr.heap.size, 0, none⟩ (.string x0)) HE1.out.1).mono ?_
        rintro e W2 ⟨rfl, h1, h2⟩
        have hm1 : W2.heap[wr.heap.size]? = some (.cells #[.string x0, .int .i64 0, .int .i64 0, .int .i64 0, .bool false] 55 (0, 0)) := h2.block' (by omega) HE1.out.2.2
        have HE2 : Hid (IsQ c s o2 (W2.setCell ⟨wr.heap.size, 1, none⟩ (.int .i64 x1)) ∧ Rp c wr (W2.setCell ⟨wr.heap.size, 1, none⟩ (.int .i64 x1)) ∧ (W2.setCell ⟨wr.heap.size, 1, none⟩ (.int .i64 x1)).heap[wr.heap.size]? = some (.cells #[.string x0, .int .i64 x1, .int .i64 0, .int .i64 0, .bool false] 55 (0, 0))) := ⟨h1.set (by omega) _, (HE1.out.2.1.trans h2).new (Nat.le_refl _) _, Joins.block_setCell (i := 1) hm1 _⟩
        have g1 : W2.cell? ⟨wr.heap.size, 1, none⟩ = some (.int .i64 0) := cellsAt hm1 1
        have z1 : W2.frozen? ⟨wr.heap.size, 1, none⟩ = false := free3 hm1 1
        clear hm1 h1 h2 HC1 HE1
        go_wp2_with fail
        refine (HC2.out (W2.setCell ⟨wr.heap.size, 1, none⟩ (.int .i64 x1)) HE2.out.1).mono ?_
        rintro e W3 ⟨rfl, h1, h2⟩
        have hm2 : W3.heap[wr.heap.size]? = some (.cells #[.string x0, .int .i64 x1, .int .i64 0, .int .i64 0, .bool false] 55 (0, 0)) := h2.block' (by omega) HE2.out.2.2
        have HE3 : Hid (IsQ c s o3 (W3.setCell ⟨wr.heap.size, 2, none⟩ (.int .i64 x2)) ∧ Rp c wr (W3.setCell ⟨wr.heap.size, 2, none⟩ (.int .i64 x2)) ∧ (W3.setCell ⟨wr.heap.size, 2, none⟩ (.int .i64 x2)).heap[wr.heap.size]? = some (.cells #[.string x0, .int .i64 x1, .int .i64 x2, .int .i64 0, .bool false] 55 (0, 0))) := ⟨h1.set (by omega) _, (HE2.out.2.1.trans h2).new (Nat.le_refl _) _, Joins.block_setCell (i := 2) hm2 _⟩
        have g2 : W3.cell? ⟨wr.heap.size, 2, none⟩ = some (.int .i64 0) := cellsAt hm2 2
        have z2 : W3.frozen? ⟨wr.heap.size, 2, none⟩ = false := free3 hm2 2
        clear hm2 h1 h2 HC2 HE2
        go_wp2_with fail
        refine (HC3.out (W3.setCell ⟨wr.heap.size, 2, none⟩ (.int .i64 x2)) HE3.out.1).mono ?_
        rintro e W4 ⟨rfl, h1, h2⟩
        have hm3 : W4.heap[wr.heap.size]? = some (.cells #[.string x0, .int .i64 x1, .int .i64 x2, .int .i64 0, .bool false] 55 (0, 0)) := h2.block' (by omega) HE3.out.2.2
        have HE4 : Hid (IsQ c s o4 (W4.setCell ⟨wr.heap.size, 3, none⟩ (.int .i64 x3)) ∧ Rp c wr (W4.setCell ⟨wr.heap.size, 3, none⟩ (.int .i64 x3)) ∧ (W4.setCell ⟨wr.heap.size, 3, none⟩ (.int .i64 x3)).heap[wr.heap.size]? = some (.cells #[.string x0, .int .i64 x1, .int .i64 x2, .int .i64 x3, .bool false] 55 (0, 0))) := ⟨h1.set (by omega) _, (HE3.out.2.1.trans h2).new (Nat.le_refl _) _, Joins.block_setCell (i := 3) hm3 _⟩
        have g3 : W4.cell? ⟨wr.heap.size, 3, none⟩ = some (.int .i64 0) := cellsAt hm3 3
        have z3 : W4.frozen? ⟨wr.heap.size, 3, none⟩ = false := free3 hm3 3
        clear hm3 h1 h2 HC3 HE3
        go_wp2_with fail
        refine (HC4.out (W4.setCell ⟨wr.heap.size, 3, none⟩ (.int .i64 x3)) HE4.out.1).mono ?_
        rintro e W5 ⟨rfl, h1, h2⟩
        have hm4 : W5.heap[wr.heap.size]? = some (.cells #[.string x0, .int .i64 x1, .int .i64 x2, .int .i64 x3, .bool false] 55 (0, 0)) := h2.block' (by omega) HE4.out.2.2
        have HE5 : Hid (IsQ c s o5 (W5.setCell ⟨wr.heap.size, 4, none⟩ (.bool x4)) ∧ Rp c wr (W5.setCell ⟨wr.heap.size, 4, none⟩ (.bool x4)) ∧ (W5.setCell ⟨wr.heap.size, 4, none⟩ (.bool x4)).heap[wr.heap.size]? = some (.cells #[.string x0, .int .i64 x1, .int .i64 x2, .int .i64 x3, .bool x4] 55 (0, 0))) := ⟨h1.set (by omega) _, (HE4.out.2.1.trans h2).new (Nat.le_refl _) _, Joins.block_setCell (i := 4) hm4 _⟩
        have g4 : W5.cell? ⟨wr.heap.size, 4, none⟩ = some (.bool false) := cellsAt hm4 4
        have z4 : W5.frozen? ⟨wr.heap.size, 4, none⟩ = false := free3 hm4 4
        clear hm4 h1 h2 HC4 HE4
        go_upto_region 15 with fail
        obtain ⟨WX, hWX⟩ : ∃ WX, WX = W5.setCell ⟨wr.heap.size, 4, none⟩ (.bool x4) := ⟨_, rfl⟩
        rw [← hWX] at HE5 ⊢
        clear hWX g4 z4
        have hpx : WX.heap[pb]? = some (.cells #[p0, p1, .slice ao lo co, p3, p4, p5] 27 (0, 0)) := HE5.out.2.1.block' (by omega) HS.out.2.1
        have HOX : Hid (Own w.heap.size WX (.slice ao lo co) D) := HE5.out.2.1.row HO.out (by omega)
        have q0 : WX.cell? ⟨pb, 2, none⟩ = some (.slice ao lo co) := cellsAt hpx 2
        have HR2X : Hid (R2 c pb w WX) := HS.out.2.2.rp HE5.out.2.1
        have HPX : Hid (WX.heap[pb]? = some (.cells #[p0, p1, .slice ao lo co, p3, p4, p5] 27 (0, 0))) := hpx
        have hcx : c < WX.heap.size := HE5.out.1.lt
        have hszx : w.heap.size ≤ WX.heap.size := HR2X.out.size
        have m0 : WX.cell? ⟨wr.heap.size, 0, none⟩ = some (.string x0) := cellsAt HE5.out.2.2 0
        have m1 : WX.cell? ⟨wr.heap.size, 1, none⟩ = some (.int .i64 x1) := cellsAt HE5.out.2.2 1
        have m2 : WX.cell? ⟨wr.heap.size, 2, none⟩ = some (.int .i64 x2) := cellsAt HE5.out.2.2 2
        have m3 : WX.cell? ⟨wr.heap.size, 3, none⟩ = some (.int .i64 x3) := cellsAt HE5.out.2.2 3
        have m4 : WX.cell? ⟨wr.heap.size, 4, none⟩ = some (.bool x4) := cellsAt HE5.out.2.2 4
        clear hpx HS HO
        go_wp2_with (at_builtin; refine wpList_append_own _ rfl _ _ 22 rfl w.heap.size 55 i0 _ 5 48 Tryz.underlying22 hi0 hz0 hzs hzb rfl (by omega) _ D.length (fl D) rfl ?hown ⟨WX.heap.size, 0, none⟩ 1 1 (Mem.cs ⟨x0, x1, x2, x3, x4⟩) rfl rfl ?hnews (cs_one _) ?h63 ?hbytes ?hbase ?_)
        case hown => (refine HOX.out.below ?_; repeat (first | exact Below.refl _ _ | refine below_drewN ?_ _ | refine Below.alloc ?_ (by simp) _ | refine Below.drew ?_))
        case hnews => (intro j u hj; rw [Addr.add_lit]; exact (cellsAt (heap_alloc_new WX (.cells #[.string x0, .int .i64 x1, .int .i64 x2, .int .i64 x3, .bool x4] 55)) (0 + j)).trans (by simpa [Mem.cs] using hj))
        case h63 => (unfold maxLen; omega)
        case hbytes => omega
        case hbase => (simp; omega)
        intro v' w6 r1 r2 r3
        have hb6 : Below w.heap.size WX w6 := ((Below.refl w.heap.size WX).alloc hszx (.cells #[.string x0, .int .i64 x1, .int .i64 x2, .int .i64 x3, .bool x4] 55)).trans ((Below.refl _ _).grown (w := WX.alloc (.cells #[.string x0, .int .i64 x1, .int .i64 x2, .int .i64 x3, .bool x4] 55)) ⟨r2.os, r2.tape, r2.output, r2.size, r2.block⟩ (by simp; omega) (fun j hj => (HOX.out.lt j hj).1))
        have HO6 : Hid (Own w.heap.size w6 v' (D ++ [⟨x0, x1, x2, x3, x4⟩])) := own_snoc (by first | exact r1 | (rw [List.length_append]; exact r1))
        obtain ⟨a6, l6, c6, hv6⟩ : ∃ a l c, v' = .slice a l c := by
          rcases r1.2 with ⟨hv, _⟩ | ⟨_, _, _, hv, _⟩
          · exact ⟨_, _, _, hv⟩
          · exact ⟨_, _, _, hv⟩
        subst hv6
        have hp6 : w6.heap[pb]? = some (.cells #[p0, p1, .slice ao lo co, p3, p4, p5] 27 (0, 0)) := (hb6.block pb hpl).trans HPX.out
        have HS6 : Hid (IsQ c s o5 (w6.setCell ⟨pb, 2, none⟩ (.slice a6 l6 c6)) ∧ (w6.setCell ⟨pb, 2, none⟩ (.slice a6 l6 c6)).heap[pb]? = some (.cells #[p0, p1, .slice a6 l6 c6, p3, p4, p5] 27 (0, 0)) ∧ R2 c pb w (w6.setCell ⟨pb, 2, none⟩ (.slice a6 l6 c6))) := ⟨(HE5.out.1.below hb6 hcl).set hcp _, Joins.block_setCell (i := 2) hp6 _, (HR2X.out.below hb6 (Nat.le_refl _)).set _ _⟩
        have HO7 : Hid (Own w.heap.size (w6.setCell ⟨pb, 2, none⟩ (.slice a6 l6 c6)) (.slice a6 l6 c6) (D ++ [⟨x0, x1, x2, x3, x4⟩])) := ownsRow_setCell_below HO6.out (a := ⟨pb, 2, none⟩) hpl _
        have q6 : w6.cell? ⟨pb, 2, none⟩ = some (.slice ao lo co) := cellsAt hp6 2
        have z6 : w6.frozen? ⟨pb, 2, none⟩ = false := free3 hp6 2
        clear r1 r2 r3 hb6 HO6 HOX HE5 HR2X HPX hp6 m0 m1 m2 m3 m4 q0
        go_wp2_with fail
        exact ⟨⟨k + 1, D ++ [⟨x0, x1, x2, x3, x4⟩], o5, a6, l6, c6, by omega, by rw [List.length_append, HDK.out]; rfl, by go_num, HRS2, HS6, HO7⟩, by simp [intOf]; omega⟩
    · have hd : decide ((k : Int) < (M : Int)) = false := by simp; omega
      have HFN : Hid (RS = (D, o)) := (show _ = _ by rw [← HRS.out, cLs_end (.inl (by omega))])
      clear HRS y2
      go_wp2_with fail
      refine HQN.out _ _ _ _ _ _ _ _ _ _ _ _ _ _ _ _ _ _ _ _ _ _ _ _ _ _ _ _ _ _ _ _ _ _ _ ao lo co wr ?_ HS.out.2.1 ?_ HS.out.2.2
      · show IsQ _ _ _ _
        rw [HFN.out]; exact HS.out.1
      · show Own _ _ _ _
        rw [HFN.out]; exact HO.out


end Go.Proofs.YtdfkpehggecbaaaGreatDoor

/- The document's PacketOf: a loop. -/
namespace Go.Proofs.YtdfkpehggecbaaaGreatDoor
namespace Sv
open Go.RowKit

theorem cLs_end {n : Nat} {o : Option (List UInt8)} {D : List Svc} (h : n = 0 ∨ o = none) : cLs n o D = (D, o) := by
  rcases h with rfl | rfl
  · cases o <;> rfl
  · exact cLs_bad n D

set_option maxHeartbeats 100000000 in
set_option maxRecDepth 1000000 in
theorem loop_c {u0 u1 u2 u3 u7 u8 u10 u11 u12 u13 u14 u15 u16 u17 u18 u19 u20 u21 u22 u23 u24 u25 u26 u27 u28 u29 u30 u31 u32 u33 u34 u35 u36 u37 u38 u39 u40 u41 u42 u43 u44 u45 u46 u47 u48 u49 u50 u51 u52 u53 u54 u55 u56 u57 u58 u59 u60 u61 u62 u63 u64 u65 u66 u67 u68 u69 u70 u71 u72 u73 u74 u75 u76 u77 u78 u79 u80 u81 u82 u83 u84 u85 u86 u87 u88 u89 u90 u91 u92 u93 u94 u95 u96 u97 u98 u99 u100 u101 u102 u103 u104 u105 u106 u107 u108 u109 u110 u111 u112 u113 u114 u115 u116 u117 u118 u119 u120 u121 u122 u123 u124 u125 u126 u127 u128 u129 u130 u131 u132 u133 u134 u135 u136 u137 u138 u139 u140 u141 u142 u143 u144 u145 u146 u147 u148 u149 u150 u151 u152 u153 u154 u155 u156 u157 u158 u159 u160 u161 u162 u163 u164 u165 u166 u167 u168 u169 u170 u171 u172 u173 u174 u175 u176 u177 u178 u179 u180 u181 u182 u183 u184 u185 u186 u187 u188 u189 u190 u191 u192 u193 u194 u195 u196 u197 : Value} (w : World) (s : ByteArray) (c pb M : Nat) (o : Option (List UInt8)) (p0 p1 p2 p4 p5 : Value) (hs : s.size ≤ 16777216) (hM : M ≤ 40) (hq : IsQ c s o w) (hcp : c ≠ pb) (hp : w.heap[pb]? = some (.cells #[p0, p1, p2, .slice none 0 0, p4, p5] 27 (0, 0))) (Q : Exit → Act → World → Prop)
    (hN : ∀ (y9 y10 y61 y62 y63 y64 y65 y66 y67 y68 y69 y70 y71 y72 y73 y74 y75 y76 y77 y78 y79 y80 y81 y82 y83 y84 y85 y86 y87 y88 y89 y90 y91 y92 y93 y94 y95 y96 y97 y98 y99 y100 y101 y102 y103 y104 y105 : Value) (ao : Option Addr) (lo co : Nat) (W : World), Hid (IsQ c s (cLs M o []).2 W) → Hid (W.heap[pb]? = some (.cells #[p0, p1, p2, .slice ao lo co, p4, p5] 27 (0, 0))) → Hid (Own w.heap.size W (.slice ao lo co) (cLs M o []).1) → Hid (R2 c pb w W) → Q .normal ⟨#[u0, u1, u2, u3, .pointer (some ⟨c, 0, none⟩), .pointer (some ⟨pb, 0, none⟩), .int .i64 (M : Int), u7, u8, y9, y10, u11, u12, u13, u14, u15, u16, u17, u18, u19, u20, u21, u22, u23, u24, u25, u26, u27, u28, u29, u30, u31, u32, u33, u34, u35, u36, u37, u38, u39, u40, u41, u42, u43, u44, u45, u46, u47, u48, u49, u50, u51, u52, u53, u54, u55, u56, u57, u58, u59, u60, y61, y62, y63, y64, y65, y66, y67, y68, y69, y70, y71, y72, y73, y74, y75, y76, y77, y78, y79, y80, y81, y82, y83, y84, y85, y86, y87, y88, y89, y90, y91, y92, y93, y94, y95, y96, y97, y98, y99, y100, y101, y102, y103, y104, y105, u106, u107, u108, u109, u110, u111, u112, u113, u114, u115, u116, u117, u118, u119, u120, u121, u122, u123, u124, u125, u126, u127, u128, u129, u130, u131, u132, u133, u134, u135, u136, u137, u138, u139, u140, u141, u142, u143, u144, u145, u146, u147, u148, u149, u150, u151, u152, u153, u154, u155, u156, u157, u158, u159, u160, u161, u162, u163, u164, u165, u166, u167, u168, u169, u170, u171, u172, u173, u174, u175, u176, u177, u178, u179, u180, u181, u182, u183, u184, u185, u186, u187, u188, u189, u190, u191, u192, u193, u194, u195, u196, u197], []⟩ W) :
    Code.wp Tryz.prog ((Tryz.f13.body.bind (blkIn 2)).getD .skip) Q ⟨#[u0, u1, u2, u3, .pointer (some ⟨c, 0, none⟩), .pointer (some ⟨pb, 0, none⟩), .int .i64 (M : Int), u7, u8, .int .i64 0, u10, u11, u12, u13, u14, u15, u16, u17, u18, u19, u20, u21, u22, u23, u24, u25, u26, u27, u28, u29, u30, u31, u32, u33, u34, u35, u36, u37, u38, u39, u40, u41, u42, u43, u44, u45, u46, u47, u48, u49, u50, u51, u52, u53, u54, u55, u56, u57, u58, u59, u60, u61, u62, u63, u64, u65, u66, u67, u68, u69, u70, u71, u72, u73, u74, u75, u76, u77, u78, u79, u80, u81, u82, u83, u84, u85, u86, u87, u88, u89, u90, u91, u92, u93, u94, u95, u96, u97, u98, u99, u100, u101, u102, u103, u104, u105, u106, u107, u108, u109, u110, u111, u112, u113, u114, u115, u116, u117, u118, u119, u120, u121, u122, u123, u124, u125, u126, u127, u128, u129, u130, u131, u132, u133, u134, u135, u136, u137, u138, u139, u140, u141, u142, u143, u144, u145, u146, u147, u148, u149, u150, u151, u152, u153, u154, u155, u156, u157, u158, u159, u160, u161, u162, u163, u164, u165, u166, u167, u168, u169, u170, u171, u172, u173, u174, u175, u176, u177, u178, u179, u180, u181, u182, u183, u184, u185, u186, u187, u188, u189, u190, u191, u192, u193, u194, u195, u196, u197], []⟩ w := by
  obtain ⟨i0, hi0, hz0, hzs, hzb⟩ := info_parts Tryz.info60
  conv => arg 2; whnf
  have HQN : Hid _ := hN
  clear hN
  obtain ⟨RS, hRS⟩ : ∃ RS, RS = cLs M o [] := ⟨_, rfl⟩
  rw [← hRS] at HQN
  have HRS0 : Hid (cLs (M - 0) o [] = RS) := hRS.symm
  have hcl := hq.lt
  have hpl : pb < w.heap.size := (Array.getElem?_eq_some_iff.1 hp).1
  have HQ0 : Hid (IsQ c s o w ∧ w.heap[pb]? = some (.cells #[p0, p1, p2, .slice none 0 0, p4, p5] 27 (0, 0)) ∧ R2 c pb w w) := ⟨hq, hp, R2.refl _ _ _⟩
  clear hRS hq hp
  go_wp2_with fail
  go_loopw [9] (fun i wr => ∃ (k : Nat) (D : List Svc) (o : Option (List UInt8)) (ao : Option Addr) (lo co : Nat), k ≤ M ∧ D.length = k ∧ i = .int .i64 k ∧ Hid (cLs (M - k) o D = RS) ∧ Hid (IsQ c s o wr ∧ wr.heap[pb]? = some (.cells #[p0, p1, p2, .slice ao lo co, p4, p5] 27 (0, 0)) ∧ R2 c pb w wr) ∧ Hid (Own w.heap.size wr (.slice ao lo co) D)) (fun i _ => M - (intOf i).toNat)
  case atStart => exact ⟨0, [], o, none, 0, 0, Nat.zero_le _, rfl, rfl, HRS0, HQ0, own_nil _ _⟩
  case round =>
    obtain ⟨k, D, o, ao, lo, co, hk, hDk0, rfl, HRS, HS, HO⟩ := hrel
    have HDK : Hid (D.length = k) := hDk0
    have hDl : D.length ≤ 40 := by omega
    clear hDk0
    have y2 := HS.out.1.bad
    by_cases hlt : k < M
    · have hd : decide ((k : Int) < (M : Int)) = true := by simp; omega
      cases o with
      | none =>
        have y2' : wr.cell? ⟨c, 2, none⟩ = some (.bool true) := y2
        clear y2
        have HFN : Hid (RS = (D, none)) := (show _ = _ by rw [← HRS.out, cLs_end (.inr rfl)])
        clear HRS
        go_wp2_with fail
        refine HQN.out _ _ _ _ _ _ _ _ _ _ _ _ _ _ _ _ _ _ _ _ _ _ _ _ _ _ _ _ _ _ _ _ _ _ _ _ _ _ _ _ _ _ _ _ _ _ _ ao lo co wr ?_ HS.out.2.1 ?_ HS.out.2.2
        · show IsQ _ _ _ _
          rw [HFN.out]; exact HS.out.1
        · show Own _ _ _ _
          rw [HFN.out]; exact HO.out
      | some l =>
        have y2' : wr.cell? ⟨c, 2, none⟩ = some (.bool false) := y2
        clear y2
        obtain ⟨x0, o1, hx0⟩ : ∃ x o', cT (some l) = (x, o') := ⟨_, _, rfl⟩
        obtain ⟨x1, o2, hx1⟩ : ∃ x o', cT o1 = (x, o') := ⟨_, _, rfl⟩
        obtain ⟨x2, o3, hx2⟩ : ∃ x o', cT o2 = (x, o') := ⟨_, _, rfl⟩
        obtain ⟨x3, o4, hx3⟩ : ∃ x o', cT o3 = (x, o') := ⟨_, _, rfl⟩
        obtain ⟨x4, o5, hx4⟩ : ∃ x o', cN o4 = (x, o') := ⟨_, _, rfl⟩
        obtain ⟨x5, o6, hx5⟩ : ∃ x o', cN o5 = (x, o') := ⟨_, _, rfl⟩
        obtain ⟨x6, o7, hx6⟩ : ∃ x o', cY o6 = (x, o') := ⟨_, _, rfl⟩
        obtain ⟨x7, o8, hx7⟩ : ∃ x o', cN o7 = (x, o') := ⟨_, _, rfl⟩
        obtain ⟨x8, o9, hx8⟩ : ∃ x o', cY o8 = (x, o') := ⟨_, _, rfl⟩
        have hel : cEl (some l) = (⟨x0, x1, x2, x3, x4, x5, x6, x7, x8⟩, o9) := by simp only [cEl, hx0, hx1, hx2, hx3, hx4, hx5, hx6, hx7, hx8]
        have HRS2 : Hid (cLs (M - (k + 1)) o9 (D ++ [⟨x0, x1, x2, x3, x4, x5, x6, x7, x8⟩]) = RS) := (show _ = _ by
          rw [← HRS.out, cLs_go (by omega), hel, show M - (k + 1) = M - k - 1 by omega])
        clear hel HRS
        obtain ⟨W0, hW0⟩ : ∃ W0, W0 = wr.alloc (.cells #[.string ⟨#[]⟩, .string ⟨#[]⟩, .string ⟨#[]⟩, .string ⟨#[]⟩, .int .i64 0, .int .i64 0, .bool false, .int .i64 0, .bool false] 60) := ⟨_, rfl⟩
        have hb0 : Below wr.heap.size wr W0 := by rw [hW0]; exact (Below.refl _ _).alloc (Nat.le_refl _) _
        have hsz := HS.out.2.2.size
        have hcw : c < wr.heap.size := HS.out.1.lt
        have hpw : pb < wr.heap.size := (Array.getElem?_eq_some_iff.1 HS.out.2.1).1
        have HE0 : Hid (IsQ c s (some l) W0 ∧ Rp c wr W0 ∧ W0.heap[wr.heap.size]? = some (.cells #[.string ⟨#[]⟩, .string ⟨#[]⟩, .string ⟨#[]⟩, .string ⟨#[]⟩, .int .i64 0, .int .i64 0, .bool false, .int .i64 0, .bool false] 60 (0, 0))) := ⟨HS.out.1.below hb0 hcw, Rp.of_below hb0 (Nat.le_refl _), by rw [hW0]; exact heap_alloc_new wr _⟩
        have HC0 : Hid (∀ W, IsQ c s (some l) W → Calls Tryz.prog 36 #[.pointer (some ⟨c, 0, none⟩)] W fun e w' => e = .returned (.string x0) ∧ IsQ c s o1 w' ∧ Rp c W w') := fun W hW => by
          have h := ctext_any hW hs
          rw [hx0] at h
          exact h
        have HC1 : Hid (∀ W, IsQ c s o1 W → Calls Tryz.prog 36 #[.pointer (some ⟨c, 0, none⟩)] W fun e w' => e = .returned (.string x1) ∧ IsQ c s o2 w' ∧ Rp c W w') := fun W hW => by
          have h := ctext_any hW hs
          rw [hx1] at h
          exact h
        have HC2 : Hid (∀ W, IsQ c s o2 W → Calls Tryz.prog 36 #[.pointer (some ⟨c, 0, none⟩)] W fun e w' => e = .returned (.string x2) ∧ IsQ c s o3 w' ∧ Rp c W w') := fun W hW => by
          have h := ctext_any hW hs
          rw [hx2] at h
          exact h
        have HC3 : Hid (∀ W, IsQ c s o3 W → Calls Tryz.prog 36 #[.pointer (some ⟨c, 0, none⟩)] W fun e w' => e = .returned (.string x3) ∧ IsQ c s o4 w' ∧ Rp c W w') := fun W hW => by
          have h := ctext_any hW hs
          rw [hx3] at h
          exact h
        have HC4 : Hid (∀ W, IsQ c s o4 W → Calls Tryz.prog 39 #[.pointer (some ⟨c, 0, none⟩)] W fun e w' => e = .returned (.int .i64 x4) ∧ IsQ c s o5 w' ∧ Rp c W w') := fun W hW => by
          have h := cnum_any hW hs
          rw [hx4] at h
          exact h
        have HC5 : Hid (∀ W, IsQ c s o5 W → Calls Tryz.prog 39 #[.pointer (some ⟨c, 0, none⟩)] W fun e w' => e = .returned (.int .i64 x5) ∧ IsQ c s o6 w' ∧ Rp c W w') := fun W hW => by
          have h := cnum_any hW hs
          rw [hx5] at h
          exact h
        have HC6 : Hid (∀ W, IsQ c s o6 W → Calls Tryz.prog 37 #[.pointer (some ⟨c, 0, none⟩)] W fun e w' => e = .returned (.bool x6) ∧ IsQ c s o7 w' ∧ Rp c W w') := fun W hW => by
          have h := cyes_any hW hs
          rw [hx6] at h
          exact h
        have HC7 : Hid (∀ W, IsQ c s o7 W → Calls Tryz.prog 39 #[.pointer (some ⟨c, 0, none⟩)] W fun e w' => e = .returned (.int .i64 x7) ∧ IsQ c s o8 w' ∧ Rp c W w') := fun W hW => by
          have h := cnum_any hW hs
          rw [hx7] at h
          exact h
        have HC8 : Hid (∀ W, IsQ c s o8 W → Calls Tryz.prog 37 #[.pointer (some ⟨c, 0, none⟩)] W fun e w' => e = .returned (.bool x8) ∧ IsQ c s o9 w' ∧ Rp c W w') := fun W hW => by
          have h := cyes_any hW hs
          rw [hx8] at h
          exact h
        clear hb0 hx0 hx1 hx2 hx3 hx4 hx5 hx6 hx7 hx8
        go_wp2_with fail
        rw [← hW0]
        clear hW0 y2'
        refine (HC0.out W0 HE0.out.1).mono ?_
        rintro e W1 ⟨rfl, h1, h2⟩
        have hm0 : W1.heap[wr.heap.size]? = some (.cells #[.string ⟨#[]⟩, .string ⟨#[]⟩, .string ⟨#[]⟩, .string ⟨#[]⟩, .int .i64 0, .int .i64 0, .bool false, .int .i64 0, .bool false] 60 (0, 0)) := h2.block' (by omega) HE0.out.2.2
        have HE1 : Hid (IsQ c s o1 (W1.setCell ⟨wr.heap.size, 0, none⟩ (.string x0)) ∧ Rp c wr (W1.setCell ⟨wr.heap.size, 0, none⟩ (.string x0)) ∧ (W1.setCell ⟨wr.heap.size, 0, none⟩ (.string x0)).heap[wr.heap.size]? = some (.cells #[.string x0, .string ⟨#[]⟩, .string ⟨#[]⟩, .string ⟨#[]⟩, .int .i64 0, .int .i64 0, .bool false, .int .i64 0, .bool false] 60 (0, 0))) := ⟨h1.set (by omega) _, (HE0.out.2.1.trans h2).new (Nat.le_refl _) _, Joins.block_setCell (i := 0) hm0 _⟩
        have g0 : W1.cell? ⟨wr.heap.size, 0, none⟩ = some (.string ⟨#[]⟩) := cellsAt hm0 0
        have z0 : W1.frozen? ⟨wr.heap.size, 0, none⟩ = false := free3 hm0 0
        clear hm0 h1 h2 HC0 HE0
        go_wp2_with fail
        refine (HC1.out (W1.setCell ⟨wr.heap.size, 0, none⟩ (.string x0)) HE1.out.1).mono ?_
        rintro e W2 ⟨rfl, h1, h2⟩
        have hm1 : W2.heap[wr.heap.size]? = some (.cells #[.string x0, .string ⟨#[]⟩, .string ⟨#[]⟩, .string ⟨#[]⟩, .int .i64 0, .int .i64 0, .bool false, .int .i64 0, .bool false] 60 (0, 0)) := h2.block' (by omega) HE1.out.2.2
        have HE2 : Hid (IsQ c s o2 (W2.setCell ⟨wr.heap.size, 1, none⟩ (.string x1)) ∧ Rp c wr (W2.setCell ⟨wr.heap.size, 1, none⟩ (.string x1)) ∧ (W2.setCell ⟨wr.heap.size, 1, none⟩ (.string x1)).heap[wr.heap.size]? = some (.cells #[.string x0, .string x1, .string ⟨#[]⟩, .string ⟨#[]⟩, .int .i64 0, .int .i64 0, .bool false, .int .i64 0, .bool false] 60 (0, 0))) := ⟨h1.set (by omega) _, (HE1.out.2.1.trans h2).new (Nat.le_refl _) _, Joins.block_setCell (i := 1) hm1 _⟩
        have g1 : W2.cell? ⟨wr.heap.size, 1, none⟩ = some (.string ⟨#[]⟩) := cellsAt hm1 1
        have z1 : W2.frozen? ⟨wr.heap.size, 1, none⟩ = false := free3 hm1 1
        clear hm1 h1 h2 HC1 HE1
        go_wp2_with fail
        refine (HC2.out (W2.setCell ⟨wr.heap.size, 1, none⟩ (.string x1)) HE2.out.1).mono ?_
        rintro e W3 ⟨rfl, h1, h2⟩
        have hm2 : W3.heap[wr.heap.size]? = some (.cells #[.string x0, .string x1, .string ⟨#[]⟩, .string ⟨#[]⟩, .int .i64 0, .int .i64 0, .bool false, .int .i64 0, .bool false] 60 (0, 0)) := h2.block' (by omega) HE2.out.2.2
        have HE3 : Hid (IsQ c s o3 (W3.setCell ⟨wr.heap.size, 2, none⟩ (.string x2)) ∧ Rp c wr (W3.setCell ⟨wr.heap.size, 2, none⟩ (.string x2)) ∧ (W3.setCell ⟨wr.heap.size, 2, none⟩ (.string x2)).heap[wr.heap.size]? = some (.cells #[.string x0, .string x1, .string x2, .string ⟨#[]⟩, .int .i64 0, .int .i64 0, .bool false, .int .i64 0, .bool false] 60 (0, 0))) := ⟨h1.set (by omega) _, (HE2.out.2.1.trans h2).new (Nat.le_refl _) _, Joins.block_setCell (i := 2) hm2 _⟩
        have g2 : W3.cell? ⟨wr.heap.size, 2, none⟩ = some (.string ⟨#[]⟩) := cellsAt hm2 2
        have z2 : W3.frozen? ⟨wr.heap.size, 2, none⟩ = false := free3 hm2 2
        clear hm2 h1 h2 HC2 HE2
        go_wp2_with fail
        refine (HC3.out (W3.setCell ⟨wr.heap.size, 2, none⟩ (.string x2)) HE3.out.1).mono ?_
        rintro e W4 ⟨rfl, h1, h2⟩
        have hm3 : W4.heap[wr.heap.size]? = some (.cells #[.string x0, .string x1, .string x2, .string ⟨#[]⟩, .int .i64 0, .int .i64 0, .bool false, .int .i64 0, .bool false] 60 (0, 0)) := h2.block' (by omega) HE3.out.2.2
        have HE4 : Hid (IsQ c s o4 (W4.setCell ⟨wr.heap.size, 3, none⟩ (.string x3)) ∧ Rp c wr (W4.setCell ⟨wr.heap.size, 3, none⟩ (.string x3)) ∧ (W4.setCell ⟨wr.heap.size, 3, none⟩ (.string x3)).heap[wr.heap.size]? = some (.cells #[.string x0, .string x1, .string x2, .string x3, .int .i64 0, .int .i64 0, .bool false, .int .i64 0, .bool false] 60 (0, 0))) := ⟨h1.set (by omega) _, (HE3.out.2.1.trans h2).new (Nat.le_refl _) _, Joins.block_setCell (i := 3) hm3 _⟩
        have g3 : W4.cell? ⟨wr.heap.size, 3, none⟩ = some (.string ⟨#[]⟩) := cellsAt hm3 3
        have z3 : W4.frozen? ⟨wr.heap.size, 3, none⟩ = false := free3 hm3 3
        clear hm3 h1 h2 HC3 HE3
        go_wp2_with fail
        refine (HC4.out (W4.setCell ⟨wr.heap.size, 3, none⟩ (.string x3)) HE4.out.1).mono ?_
        rintro e W5 ⟨rfl, h1, h2⟩
        have hm4 : W5.heap[wr.heap.size]? = some (.cells #[.string x0, .string x1, .string x2, .string x3, .int .i64 0, .int .i64 0, .bool false, .int .i64 0, .bool false] 60 (0, 0)) := h2.block' (by omega) HE4.out.2.2
        have HE5 : Hid (IsQ c s o5 (W5.setCell ⟨wr.heap.size, 4, none⟩ (.int .i64 x4)) ∧ Rp c wr (W5.setCell ⟨wr.heap.size, 4, none⟩ (.int .i64 x4)) ∧ (W5.setCell ⟨wr.heap.size, 4, none⟩ (.int .i64 x4)).heap[wr.heap.size]? = some (.cells #[.string x0, .string x1, .string x2, .string x3, .int .i64 x4, .int .i64 0, .bool false, .int .i64 0, .bool false] 60 (0, 0))) := ⟨h1.set (by omega) _, (HE4.out.2.1.trans h2).new (Nat.le_refl _) _, Joins.block_setCell (i := 4) hm4 _⟩
        have g4 : W5.cell? ⟨wr.heap.size, 4, none⟩ = some (.int .i64 0) := cellsAt hm4 4
        have z4 : W5.frozen? ⟨wr.heap.size, 4, none⟩ = false := free3 hm4 4
        clear hm4 h1 h2 HC4 HE4
        go_wp2_with fail
        refine (HC5.out (W5.setCell ⟨wr.heap.size, 4, none⟩ (.int .i64 x4)) HE5.out.1).mono ?_
        rintro e W6 ⟨rfl, h1, h2⟩
        have hm5 : W6.heap[wr.heap.size]? = some (.cells #[.string x0, .string x1, .string x2, .string x3, .int .i64 x4, .int .i64 0, .bool false, .int .i64 0, .bool false] 60 (0, 0)) := h2.block' (by omega) HE5.out.2.2
        have HE6 : Hid (IsQ c s o6 (W6.setCell ⟨wr.heap.size, 5, none⟩ (.int .i64 x5)) ∧ Rp c wr (W6.setCell ⟨wr.heap.size, 5, none⟩ (.int .i64 x5)) ∧ (W6.setCell ⟨wr.heap.size, 5, none⟩ (.int .i64 x5)).heap[wr.heap.size]? = some (.cells #[.string x0, .string x1, .string x2, .string x3, .int .i64 x4, .int .i64 x5, .bool false, .int .i64 0, .bool false] 60 (0, 0))) := ⟨h1.set (by omega) _, (HE5.out.2.1.trans h2).new (Nat.le_refl _) _, Joins.block_setCell (i := 5) hm5 _⟩
        have g5 : W6.cell? ⟨wr.heap.size, 5, none⟩ = some (.int .i64 0) := cellsAt hm5 5
        have z5 : W6.frozen? ⟨wr.heap.size, 5, none⟩ = false := free3 hm5 5
        clear hm5 h1 h2 HC5 HE5
        go_wp2_with fail
        refine (HC6.out (W6.setCell ⟨wr.heap.size, 5, none⟩ (.int .i64 x5)) HE6.out.1).mono ?_
        rintro e W7 ⟨rfl, h1, h2⟩
        have hm6 : W7.heap[wr.heap.size]? = some (.cells #[.string x0, .string x1, .string x2, .string x3, .int .i64 x4, .int .i64 x5, .bool false, .int .i64 0, .bool false] 60 (0, 0)) := h2.block' (by omega) HE6.out.2.2
        have HE7 : Hid (IsQ c s o7 (W7.setCell ⟨wr.heap.size, 6, none⟩ (.bool x6)) ∧ Rp c wr (W7.setCell ⟨wr.heap.size, 6, none⟩ (.bool x6)) ∧ (W7.setCell ⟨wr.heap.size, 6, none⟩ (.bool x6)).heap[wr.heap.size]? = some (.cells #[.string x0, .string x1, .string x2, .string x3, .int .i64 x4, .int .i64 x5, .bool x6, .int .i64 0, .bool false] 60 (0, 0))) := ⟨h1.set (by omega) _, (HE6.out.2.1.trans h2).new (Nat.le_refl _) _, Joins.block_setCell (i := 6) hm6 _⟩
        have g6 : W7.cell? ⟨wr.heap.size, 6, none⟩ = some (.bool false) := cellsAt hm6 6
        have z6 : W7.frozen? ⟨wr.heap.size, 6, none⟩ = false := free3 hm6 6
        clear hm6 h1 h2 HC6 HE6
        go_wp2_with fail
        refine (HC7.out (W7.setCell ⟨wr.heap.size, 6, none⟩ (.bool x6)) HE7.out.1).mono ?_
        rintro e W8 ⟨rfl, h1, h2⟩
        have hm7 : W8.heap[wr.heap.size]? = some (.cells #[.string x0, .string x1, .string x2, .string x3, .int .i64 x4, .int .i64 x5, .bool x6, .int .i64 0, .bool false] 60 (0, 0)) := h2.block' (by omega) HE7.out.2.2
        have HE8 : Hid (IsQ c s o8 (W8.setCell ⟨wr.heap.size, 7, none⟩ (.int .i64 x7)) ∧ Rp c wr (W8.setCell ⟨wr.heap.size, 7, none⟩ (.int .i64 x7)) ∧ (W8.setCell ⟨wr.heap.size, 7, none⟩ (.int .i64 x7)).heap[wr.heap.size]? = some (.cells #[.string x0, .string x1, .string x2, .string x3, .int .i64 x4, .int .i64 x5, .bool x6, .int .i64 x7, .bool false] 60 (0, 0))) := ⟨h1.set (by omega) _, (HE7.out.2.1.trans h2).new (Nat.le_refl _) _, Joins.block_setCell (i := 7) hm7 _⟩
        have g7 : W8.cell? ⟨wr.heap.size, 7, none⟩ = some (.int .i64 0) := cellsAt hm7 7
        have z7 : W8.frozen? ⟨wr.heap.size, 7, none⟩ = false := free3 hm7 7
        clear hm7 h1 h2 HC7 HE7
        go_wp2_with fail
        refine (HC8.out (W8.setCell ⟨wr.heap.size, 7, none⟩ (.int .i64 x7)) HE8.out.1).mono ?_
        rintro e W9 ⟨rfl, h1, h2⟩
        have hm8 : W9.heap[wr.heap.size]? = some (.cells #[.string x0, .string x1, .string x2, .string x3, .int .i64 x4, .int .i64 x5, .bool x6, .int .i64 x7, .bool false] 60 (0, 0)) := h2.block' (by omega) HE8.out.2.2
        have HE9 : Hid (IsQ c s o9 (W9.setCell ⟨wr.heap.size, 8, none⟩ (.bool x8)) ∧ Rp c wr (W9.setCell ⟨wr.heap.size, 8, none⟩ (.bool x8)) ∧ (W9.setCell ⟨wr.heap.size, 8, none⟩ (.bool x8)).heap[wr.heap.size]? = some (.cells #[.string x0, .string x1, .string x2, .string x3, .int .i64 x4, .int .i64 x5, .bool x6, .int .i64 x7, .bool x8] 60 (0, 0))) := ⟨h1.set (by omega) _, (HE8.out.2.1.trans h2).new (Nat.le_refl _) _, Joins.block_setCell (i := 8) hm8 _⟩
        have g8 : W9.cell? ⟨wr.heap.size, 8, none⟩ = some (.bool false) := cellsAt hm8 8
        have z8 : W9.frozen? ⟨wr.heap.size, 8, none⟩ = false := free3 hm8 8
        clear hm8 h1 h2 HC8 HE8
        go_upto_region 30 with fail
        obtain ⟨WX, hWX⟩ : ∃ WX, WX = W9.setCell ⟨wr.heap.size, 8, none⟩ (.bool x8) := ⟨_, rfl⟩
        rw [← hWX] at HE9 ⊢
        clear hWX g8 z8
        have hpx : WX.heap[pb]? = some (.cells #[p0, p1, p2, .slice ao lo co, p4, p5] 27 (0, 0)) := HE9.out.2.1.block' (by omega) HS.out.2.1
        have HOX : Hid (Own w.heap.size WX (.slice ao lo co) D) := HE9.out.2.1.row HO.out (by omega)
        have q0 : WX.cell? ⟨pb, 3, none⟩ = some (.slice ao lo co) := cellsAt hpx 3
        have HR2X : Hid (R2 c pb w WX) := HS.out.2.2.rp HE9.out.2.1
        have HPX : Hid (WX.heap[pb]? = some (.cells #[p0, p1, p2, .slice ao lo co, p4, p5] 27 (0, 0))) := hpx
        have hcx : c < WX.heap.size := HE9.out.1.lt
        have hszx : w.heap.size ≤ WX.heap.size := HR2X.out.size
        have m0 : WX.cell? ⟨wr.heap.size, 0, none⟩ = some (.string x0) := cellsAt HE9.out.2.2 0
        have m1 : WX.cell? ⟨wr.heap.size, 1, none⟩ = some (.string x1) := cellsAt HE9.out.2.2 1
        have m2 : WX.cell? ⟨wr.heap.size, 2, none⟩ = some (.string x2) := cellsAt HE9.out.2.2 2
        have m3 : WX.cell? ⟨wr.heap.size, 3, none⟩ = some (.string x3) := cellsAt HE9.out.2.2 3
        have m4 : WX.cell? ⟨wr.heap.size, 4, none⟩ = some (.int .i64 x4) := cellsAt HE9.out.2.2 4
        have m5 : WX.cell? ⟨wr.heap.size, 5, none⟩ = some (.int .i64 x5) := cellsAt HE9.out.2.2 5
        have m6 : WX.cell? ⟨wr.heap.size, 6, none⟩ = some (.bool x6) := cellsAt HE9.out.2.2 6
        have m7 : WX.cell? ⟨wr.heap.size, 7, none⟩ = some (.int .i64 x7) := cellsAt HE9.out.2.2 7
        have m8 : WX.cell? ⟨wr.heap.size, 8, none⟩ = some (.bool x8) := cellsAt HE9.out.2.2 8
        clear hpx HS HO
        go_wp2_with (at_builtin; refine wpList_append_own _ rfl _ _ 23 rfl w.heap.size 60 i0 _ 9 104 Tryz.underlying23 hi0 hz0 hzs hzb rfl (by omega) _ D.length (fl D) rfl ?hown ⟨WX.heap.size, 0, none⟩ 1 1 (Svc.cs ⟨x0, x1, x2, x3, x4, x5, x6, x7, x8⟩) rfl rfl ?hnews (cs_one _) ?h63 ?hbytes ?hbase ?_)
        case hown => (refine HOX.out.below ?_; repeat (first | exact Below.refl _ _ | refine below_drewN ?_ _ | refine Below.alloc ?_ (by simp) _ | refine Below.drew ?_))
        case hnews => (intro j u hj; rw [Addr.add_lit]; exact (cellsAt (heap_alloc_new WX (.cells #[.string x0, .string x1, .string x2, .string x3, .int .i64 x4, .int .i64 x5, .bool x6, .int .i64 x7, .bool x8] 60)) (0 + j)).trans (by simpa [Svc.cs] using hj))
        case h63 => (unfold maxLen; omega)
        case hbytes => omega
        case hbase => (simp; omega)
        intro v' w6 r1 r2 r3
        have hb6 : Below w.heap.size WX w6 := ((Below.refl w.heap.size WX).alloc hszx (.cells #[.string x0, .string x1, .string x2, .string x3, .int .i64 x4, .int .i64 x5, .bool x6, .int .i64 x7, .bool x8] 60)).trans ((Below.refl _ _).grown (w := WX.alloc (.cells #[.string x0, .string x1, .string x2, .string x3, .int .i64 x4, .int .i64 x5, .bool x6, .int .i64 x7, .bool x8] 60)) ⟨r2.os, r2.tape, r2.output, r2.size, r2.block⟩ (by simp; omega) (fun j hj => (HOX.out.lt j hj).1))
        have HO6 : Hid (Own w.heap.size w6 v' (D ++ [⟨x0, x1, x2, x3, x4, x5, x6, x7, x8⟩])) := own_snoc (by first | exact r1 | (rw [List.length_append]; exact r1))
        obtain ⟨a6, l6, c6, hv6⟩ : ∃ a l c, v' = .slice a l c := by
          rcases r1.2 with ⟨hv, _⟩ | ⟨_, _, _, hv, _⟩
          · exact ⟨_, _, _, hv⟩
          · exact ⟨_, _, _, hv⟩
        subst hv6
        have hp6 : w6.heap[pb]? = some (.cells #[p0, p1, p2, .slice ao lo co, p4, p5] 27 (0, 0)) := (hb6.block pb hpl).trans HPX.out
        have HS6 : Hid (IsQ c s o9 (w6.setCell ⟨pb, 3, none⟩ (.slice a6 l6 c6)) ∧ (w6.setCell ⟨pb, 3, none⟩ (.slice a6 l6 c6)).heap[pb]? = some (.cells #[p0, p1, p2, .slice a6 l6 c6, p4, p5] 27 (0, 0)) ∧ R2 c pb w (w6.setCell ⟨pb, 3, none⟩ (.slice a6 l6 c6))) := ⟨(HE9.out.1.below hb6 hcl).set hcp _, Joins.block_setCell (i := 3) hp6 _, (HR2X.out.below hb6 (Nat.le_refl _)).set _ _⟩
        have HO7 : Hid (Own w.heap.size (w6.setCell ⟨pb, 3, none⟩ (.slice a6 l6 c6)) (.slice a6 l6 c6) (D ++ [⟨x0, x1, x2, x3, x4, x5, x6, x7, x8⟩])) := ownsRow_setCell_below HO6.out (a := ⟨pb, 3, none⟩) hpl _
        have q6 : w6.cell? ⟨pb, 3, none⟩ = some (.slice ao lo co) := cellsAt hp6 3
        have z6 : w6.frozen? ⟨pb, 3, none⟩ = false := free3 hp6 3
        clear r1 r2 r3 hb6 HO6 HOX HE9 HR2X HPX hp6 m0 m1 m2 m3 m4 m5 m6 m7 m8 q0
        go_wp2_with fail
        exact ⟨⟨k + 1, D ++ [⟨x0, x1, x2, x3, x4, x5, x6, x7, x8⟩], o9, a6, l6, c6, by omega, by rw [List.length_append, HDK.out]; rfl, by go_num, HRS2, HS6, HO7⟩, by simp [intOf]; omega⟩
    · have hd : decide ((k : Int) < (M : Int)) = false := by simp; omega
      have HFN : Hid (RS = (D, o)) := (show _ = _ by rw [← HRS.out, cLs_end (.inl (by omega))])
      clear HRS y2
      go_wp2_with fail
      refine HQN.out _ _ _ _ _ _ _ _ _ _ _ _ _ _ _ _ _ _ _ _ _ _ _ _ _ _ _ _ _ _ _ _ _ _ _ _ _ _ _ _ _ _ _ _ _ _ _ ao lo co wr ?_ HS.out.2.1 ?_ HS.out.2.2
      · show IsQ _ _ _ _
        rw [HFN.out]; exact HS.out.1
      · show Own _ _ _ _
        rw [HFN.out]; exact HO.out

end Sv
end Go.Proofs.YtdfkpehggecbaaaGreatDoor

/- The document's PacketOf: a loop. -/
namespace Go.Proofs.YtdfkpehggecbaaaGreatDoor
namespace Gw
open Go.RowKit

theorem cLs_end {n : Nat} {o : Option (List UInt8)} {D : List Gwy} (h : n = 0 ∨ o = none) : cLs n o D = (D, o) := by
  rcases h with rfl | rfl
  · cases o <;> rfl
  · exact cLs_bad n D

set_option maxHeartbeats 100000000 in
set_option maxRecDepth 1000000 in
theorem loop_c {u0 u1 u2 u3 u7 u8 u9 u10 u12 u13 u14 u15 u16 u17 u18 u19 u20 u21 u22 u23 u24 u25 u26 u27 u28 u29 u30 u31 u32 u33 u34 u35 u36 u37 u38 u39 u40 u41 u42 u43 u44 u45 u46 u47 u48 u49 u50 u51 u52 u53 u54 u55 u56 u57 u58 u59 u60 u61 u62 u63 u64 u65 u66 u67 u68 u69 u70 u71 u72 u73 u74 u75 u76 u77 u78 u79 u80 u81 u82 u83 u84 u85 u86 u87 u88 u89 u90 u91 u92 u93 u94 u95 u96 u97 u98 u99 u100 u101 u102 u103 u104 u105 u106 u107 u108 u109 u110 u111 u112 u113 u114 u115 u116 u117 u118 u119 u120 u121 u122 u123 u124 u125 u126 u127 u128 u129 u130 u131 u132 u133 u134 u135 u136 u137 u138 u139 u140 u141 u142 u143 u144 u145 u146 u147 u148 u149 u150 u151 u152 u153 u154 u155 u156 u157 u158 u159 u160 u161 u162 u163 u164 u165 u166 u167 u168 u169 u170 u171 u172 u173 u174 u175 u176 u177 u178 u179 u180 u181 u182 u183 u184 u185 u186 u187 u188 u189 u190 u191 u192 u193 u194 u195 u196 u197 : Value} (w : World) (s : ByteArray) (c pb M : Nat) (o : Option (List UInt8)) (p0 p1 p2 p3 p5 : Value) (hs : s.size ≤ 16777216) (hM : M ≤ 6) (hq : IsQ c s o w) (hcp : c ≠ pb) (hp : w.heap[pb]? = some (.cells #[p0, p1, p2, p3, .slice none 0 0, p5] 27 (0, 0))) (Q : Exit → Act → World → Prop)
    (hN : ∀ (y11 y12 y108 y109 y110 y111 y112 y113 y114 y115 y116 y117 y118 y119 y120 y121 y122 y123 y124 y125 y126 y127 y128 y129 y130 y131 y132 y133 y134 : Value) (ao : Option Addr) (lo co : Nat) (W : World), Hid (IsQ c s (cLs M o []).2 W) → Hid (W.heap[pb]? = some (.cells #[p0, p1, p2, p3, .slice ao lo co, p5] 27 (0, 0))) → Hid (Own w.heap.size W (.slice ao lo co) (cLs M o []).1) → Hid (R2 c pb w W) → Q .normal ⟨#[u0, u1, u2, u3, .pointer (some ⟨c, 0, none⟩), .pointer (some ⟨pb, 0, none⟩), .int .i64 (M : Int), u7, u8, u9, u10, y11, y12, u13, u14, u15, u16, u17, u18, u19, u20, u21, u22, u23, u24, u25, u26, u27, u28, u29, u30, u31, u32, u33, u34, u35, u36, u37, u38, u39, u40, u41, u42, u43, u44, u45, u46, u47, u48, u49, u50, u51, u52, u53, u54, u55, u56, u57, u58, u59, u60, u61, u62, u63, u64, u65, u66, u67, u68, u69, u70, u71, u72, u73, u74, u75, u76, u77, u78, u79, u80, u81, u82, u83, u84, u85, u86, u87, u88, u89, u90, u91, u92, u93, u94, u95, u96, u97, u98, u99, u100, u101, u102, u103, u104, u105, u106, u107, y108, y109, y110, y111, y112, y113, y114, y115, y116, y117, y118, y119, y120, y121, y122, y123, y124, y125, y126, y127, y128, y129, y130, y131, y132, y133, y134, u135, u136, u137, u138, u139, u140, u141, u142, u143, u144, u145, u146, u147, u148, u149, u150, u151, u152, u153, u154, u155, u156, u157, u158, u159, u160, u161, u162, u163, u164, u165, u166, u167, u168, u169, u170, u171, u172, u173, u174, u175, u176, u177, u178, u179, u180, u181, u182, u183, u184, u185, u186, u187, u188, u189, u190, u191, u192, u193, u194, u195, u196, u197], []⟩ W) :
    Code.wp Tryz.prog ((Tryz.f13.body.bind (blkIn 4)).getD .skip) Q ⟨#[u0, u1, u2, u3, .pointer (some ⟨c, 0, none⟩), .pointer (some ⟨pb, 0, none⟩), .int .i64 (M : Int), u7, u8, u9, u10, .int .i64 0, u12, u13, u14, u15, u16, u17, u18, u19, u20, u21, u22, u23, u24, u25, u26, u27, u28, u29, u30, u31, u32, u33, u34, u35, u36, u37, u38, u39, u40, u41, u42, u43, u44, u45, u46, u47, u48, u49, u50, u51, u52, u53, u54, u55, u56, u57, u58, u59, u60, u61, u62, u63, u64, u65, u66, u67, u68, u69, u70, u71, u72, u73, u74, u75, u76, u77, u78, u79, u80, u81, u82, u83, u84, u85, u86, u87, u88, u89, u90, u91, u92, u93, u94, u95, u96, u97, u98, u99, u100, u101, u102, u103, u104, u105, u106, u107, u108, u109, u110, u111, u112, u113, u114, u115, u116, u117, u118, u119, u120, u121, u122, u123, u124, u125, u126, u127, u128, u129, u130, u131, u132, u133, u134, u135, u136, u137, u138, u139, u140, u141, u142, u143, u144, u145, u146, u147, u148, u149, u150, u151, u152, u153, u154, u155, u156, u157, u158, u159, u160, u161, u162, u163, u164, u165, u166, u167, u168, u169, u170, u171, u172, u173, u174, u175, u176, u177, u178, u179, u180, u181, u182, u183, u184, u185, u186, u187, u188, u189, u190, u191, u192, u193, u194, u195, u196, u197], []⟩ w := by
  obtain ⟨i0, hi0, hz0, hzs, hzb⟩ := info_parts Tryz.info62
  conv => arg 2; whnf
  have HQN : Hid _ := hN
  clear hN
  obtain ⟨RS, hRS⟩ : ∃ RS, RS = cLs M o [] := ⟨_, rfl⟩
  rw [← hRS] at HQN
  have HRS0 : Hid (cLs (M - 0) o [] = RS) := hRS.symm
  have hcl := hq.lt
  have hpl : pb < w.heap.size := (Array.getElem?_eq_some_iff.1 hp).1
  have HQ0 : Hid (IsQ c s o w ∧ w.heap[pb]? = some (.cells #[p0, p1, p2, p3, .slice none 0 0, p5] 27 (0, 0)) ∧ R2 c pb w w) := ⟨hq, hp, R2.refl _ _ _⟩
  clear hRS hq hp
  go_wp2_with fail
  go_loopw [11] (fun i wr => ∃ (k : Nat) (D : List Gwy) (o : Option (List UInt8)) (ao : Option Addr) (lo co : Nat), k ≤ M ∧ D.length = k ∧ i = .int .i64 k ∧ Hid (cLs (M - k) o D = RS) ∧ Hid (IsQ c s o wr ∧ wr.heap[pb]? = some (.cells #[p0, p1, p2, p3, .slice ao lo co, p5] 27 (0, 0)) ∧ R2 c pb w wr) ∧ Hid (Own w.heap.size wr (.slice ao lo co) D)) (fun i _ => M - (intOf i).toNat)
  case atStart => exact ⟨0, [], o, none, 0, 0, Nat.zero_le _, rfl, rfl, HRS0, HQ0, own_nil _ _⟩
  case round =>
    obtain ⟨k, D, o, ao, lo, co, hk, hDk0, rfl, HRS, HS, HO⟩ := hrel
    have HDK : Hid (D.length = k) := hDk0
    have hDl : D.length ≤ 40 := by omega
    clear hDk0
    have y2 := HS.out.1.bad
    by_cases hlt : k < M
    · have hd : decide ((k : Int) < (M : Int)) = true := by simp; omega
      cases o with
      | none =>
        have y2' : wr.cell? ⟨c, 2, none⟩ = some (.bool true) := y2
        clear y2
        have HFN : Hid (RS = (D, none)) := (show _ = _ by rw [← HRS.out, cLs_end (.inr rfl)])
        clear HRS
        go_wp2_with fail
        refine HQN.out _ _ _ _ _ _ _ _ _ _ _ _ _ _ _ _ _ _ _ _ _ _ _ _ _ _ _ _ _ ao lo co wr ?_ HS.out.2.1 ?_ HS.out.2.2
        · show IsQ _ _ _ _
          rw [HFN.out]; exact HS.out.1
        · show Own _ _ _ _
          rw [HFN.out]; exact HO.out
      | some l =>
        have y2' : wr.cell? ⟨c, 2, none⟩ = some (.bool false) := y2
        clear y2
        obtain ⟨x0, o1, hx0⟩ : ∃ x o', cT (some l) = (x, o') := ⟨_, _, rfl⟩
        obtain ⟨x1, o2, hx1⟩ : ∃ x o', cN o1 = (x, o') := ⟨_, _, rfl⟩
        obtain ⟨x2, o3, hx2⟩ : ∃ x o', cN o2 = (x, o') := ⟨_, _, rfl⟩
        have hel : cEl (some l) = (⟨x0, x1, x2⟩, o3) := by simp only [cEl, hx0, hx1, hx2]
        have HRS2 : Hid (cLs (M - (k + 1)) o3 (D ++ [⟨x0, x1, x2⟩]) = RS) := (show _ = _ by
          rw [← HRS.out, cLs_go (by omega), hel, show M - (k + 1) = M - k - 1 by omega])
        clear hel HRS
        obtain ⟨W0, hW0⟩ : ∃ W0, W0 = wr.alloc (.cells #[.string ⟨#[]⟩, .int .i64 0, .int .i64 0] 62) := ⟨_, rfl⟩
        have hb0 : Below wr.heap.size wr W0 := by rw [hW0]; exact (Below.refl _ _).alloc (Nat.le_refl _) _
        have hsz := HS.out.2.2.size
        have hcw : c < wr.heap.size := HS.out.1.lt
        have hpw : pb < wr.heap.size := (Array.getElem?_eq_some_iff.1 HS.out.2.1).1
        have HE0 : Hid (IsQ c s (some l) W0 ∧ Rp c wr W0 ∧ W0.heap[wr.heap.size]? = some (.cells #[.string ⟨#[]⟩, .int .i64 0, .int .i64 0] 62 (0, 0))) := ⟨HS.out.1.below hb0 hcw, Rp.of_below hb0 (Nat.le_refl _), by rw [hW0]; exact heap_alloc_new wr _⟩
        have HC0 : Hid (∀ W, IsQ c s (some l) W → Calls Tryz.prog 36 #[.pointer (some ⟨c, 0, none⟩)] W fun e w' => e = .returned (.string x0) ∧ IsQ c s o1 w' ∧ Rp c W w') := fun W hW => by
          have h := ctext_any hW hs
          rw [hx0] at h
          exact h
        have HC1 : Hid (∀ W, IsQ c s o1 W → Calls Tryz.prog 39 #[.pointer (some ⟨c, 0, none⟩)] W fun e w' => e = .returned (.int .i64 x1) ∧ IsQ c s o2 w' ∧ Rp c W w') := fun W hW => by
          have h := cnum_any hW hs
          rw [hx1] at h
          exact h
        have HC2 : Hid (∀ W, IsQ c s o2 W → Calls Tryz.prog 39 #[.pointer (some ⟨c, 0, none⟩)] W fun e w' => e = .returned (.int .i64 x2) ∧ IsQ c s o3 w' ∧ Rp c W w') := fun W hW => by
          have h := cnum_any hW hs
          rw [hx2] at h
          exact h
        clear hb0 hx0 hx1 hx2
        go_wp2_with fail
        rw [← hW0]
        clear hW0 y2'
        refine (HC0.out W0 HE0.out.1).mono ?_
        rintro e W1 ⟨rfl, h1, h2⟩
        have hm0 : W1.heap[wr.heap.size]? = some (.cells #[.string ⟨#[]⟩, .int .i64 0, .int .i64 0] 62 (0, 0)) := h2.block' (by omega) HE0.out.2.2
        have HE1 : Hid (IsQ c s o1 (W1.setCell ⟨wr.heap.size, 0, none⟩ (.string x0)) ∧ Rp c wr (W1.setCell ⟨wr.heap.size, 0, none⟩ (.string x0)) ∧ (W1.setCell ⟨wr.heap.size, 0, none⟩ (.string x0)).heap[wr.heap.size]? = some (.cells #[.string x0, .int .i64 0, .int .i64 0] 62 (0, 0))) := ⟨h1.set (by omega) _, (HE0.out.2.1.trans h2).new (Nat.le_refl _) _, Joins.block_setCell (i := 0) hm0 _⟩
        have g0 : W1.cell? ⟨wr.heap.size, 0, none⟩ = some (.string ⟨#[]⟩) := cellsAt hm0 0
        have z0 : W1.frozen? ⟨wr.heap.size, 0, none⟩ = false := free3 hm0 0
        clear hm0 h1 h2 HC0 HE0
        go_wp2_with fail
        refine (HC1.out (W1.setCell ⟨wr.heap.size, 0, none⟩ (.string x0)) HE1.out.1).mono ?_
        rintro e W2 ⟨rfl, h1, h2⟩
        have hm1 : W2.heap[wr.heap.size]? = some (.cells #[.string x0, .int .i64 0, .int .i64 0] 62 (0, 0)) := h2.block' (by omega) HE1.out.2.2
        have HE2 : Hid (IsQ c s o2 (W2.setCell ⟨wr.heap.size, 1, none⟩ (.int .i64 x1)) ∧ Rp c wr (W2.setCell ⟨wr.heap.size, 1, none⟩ (.int .i64 x1)) ∧ (W2.setCell ⟨wr.heap.size, 1, none⟩ (.int .i64 x1)).heap[wr.heap.size]? = some (.cells #[.string x0, .int .i64 x1, .int .i64 0] 62 (0, 0))) := ⟨h1.set (by omega) _, (HE1.out.2.1.trans h2).new (Nat.le_refl _) _, Joins.block_setCell (i := 1) hm1 _⟩
        have g1 : W2.cell? ⟨wr.heap.size, 1, none⟩ = some (.int .i64 0) := cellsAt hm1 1
        have z1 : W2.frozen? ⟨wr.heap.size, 1, none⟩ = false := free3 hm1 1
        clear hm1 h1 h2 HC1 HE1
        go_wp2_with fail
        refine (HC2.out (W2.setCell ⟨wr.heap.size, 1, none⟩ (.int .i64 x1)) HE2.out.1).mono ?_
        rintro e W3 ⟨rfl, h1, h2⟩
        have hm2 : W3.heap[wr.heap.size]? = some (.cells #[.string x0, .int .i64 x1, .int .i64 0] 62 (0, 0)) := h2.block' (by omega) HE2.out.2.2
        have HE3 : Hid (IsQ c s o3 (W3.setCell ⟨wr.heap.size, 2, none⟩ (.int .i64 x2)) ∧ Rp c wr (W3.setCell ⟨wr.heap.size, 2, none⟩ (.int .i64 x2)) ∧ (W3.setCell ⟨wr.heap.size, 2, none⟩ (.int .i64 x2)).heap[wr.heap.size]? = some (.cells #[.string x0, .int .i64 x1, .int .i64 x2] 62 (0, 0))) := ⟨h1.set (by omega) _, (HE2.out.2.1.trans h2).new (Nat.le_refl _) _, Joins.block_setCell (i := 2) hm2 _⟩
        have g2 : W3.cell? ⟨wr.heap.size, 2, none⟩ = some (.int .i64 0) := cellsAt hm2 2
        have z2 : W3.frozen? ⟨wr.heap.size, 2, none⟩ = false := free3 hm2 2
        clear hm2 h1 h2 HC2 HE2
        go_upto_region 39 with fail
        obtain ⟨WX, hWX⟩ : ∃ WX, WX = W3.setCell ⟨wr.heap.size, 2, none⟩ (.int .i64 x2) := ⟨_, rfl⟩
        rw [← hWX] at HE3 ⊢
        clear hWX g2 z2
        have hpx : WX.heap[pb]? = some (.cells #[p0, p1, p2, p3, .slice ao lo co, p5] 27 (0, 0)) := HE3.out.2.1.block' (by omega) HS.out.2.1
        have HOX : Hid (Own w.heap.size WX (.slice ao lo co) D) := HE3.out.2.1.row HO.out (by omega)
        have q0 : WX.cell? ⟨pb, 4, none⟩ = some (.slice ao lo co) := cellsAt hpx 4
        have HR2X : Hid (R2 c pb w WX) := HS.out.2.2.rp HE3.out.2.1
        have HPX : Hid (WX.heap[pb]? = some (.cells #[p0, p1, p2, p3, .slice ao lo co, p5] 27 (0, 0))) := hpx
        have hcx : c < WX.heap.size := HE3.out.1.lt
        have hszx : w.heap.size ≤ WX.heap.size := HR2X.out.size
        have m0 : WX.cell? ⟨wr.heap.size, 0, none⟩ = some (.string x0) := cellsAt HE3.out.2.2 0
        have m1 : WX.cell? ⟨wr.heap.size, 1, none⟩ = some (.int .i64 x1) := cellsAt HE3.out.2.2 1
        have m2 : WX.cell? ⟨wr.heap.size, 2, none⟩ = some (.int .i64 x2) := cellsAt HE3.out.2.2 2
        clear hpx HS HO
        go_wp2_with (at_builtin; refine wpList_append_own _ rfl _ _ 24 rfl w.heap.size 62 i0 _ 3 32 Tryz.underlying24 hi0 hz0 hzs hzb rfl (by omega) _ D.length (fl D) rfl ?hown ⟨WX.heap.size, 0, none⟩ 1 1 (Gwy.cs ⟨x0, x1, x2⟩) rfl rfl ?hnews (cs_one _) ?h63 ?hbytes ?hbase ?_)
        case hown => (refine HOX.out.below ?_; repeat (first | exact Below.refl _ _ | refine below_drewN ?_ _ | refine Below.alloc ?_ (by simp) _ | refine Below.drew ?_))
        case hnews => (intro j u hj; rw [Addr.add_lit]; exact (cellsAt (heap_alloc_new WX (.cells #[.string x0, .int .i64 x1, .int .i64 x2] 62)) (0 + j)).trans (by simpa [Gwy.cs] using hj))
        case h63 => (unfold maxLen; omega)
        case hbytes => omega
        case hbase => (simp; omega)
        intro v' w6 r1 r2 r3
        have hb6 : Below w.heap.size WX w6 := ((Below.refl w.heap.size WX).alloc hszx (.cells #[.string x0, .int .i64 x1, .int .i64 x2] 62)).trans ((Below.refl _ _).grown (w := WX.alloc (.cells #[.string x0, .int .i64 x1, .int .i64 x2] 62)) ⟨r2.os, r2.tape, r2.output, r2.size, r2.block⟩ (by simp; omega) (fun j hj => (HOX.out.lt j hj).1))
        have HO6 : Hid (Own w.heap.size w6 v' (D ++ [⟨x0, x1, x2⟩])) := own_snoc (by first | exact r1 | (rw [List.length_append]; exact r1))
        obtain ⟨a6, l6, c6, hv6⟩ : ∃ a l c, v' = .slice a l c := by
          rcases r1.2 with ⟨hv, _⟩ | ⟨_, _, _, hv, _⟩
          · exact ⟨_, _, _, hv⟩
          · exact ⟨_, _, _, hv⟩
        subst hv6
        have hp6 : w6.heap[pb]? = some (.cells #[p0, p1, p2, p3, .slice ao lo co, p5] 27 (0, 0)) := (hb6.block pb hpl).trans HPX.out
        have HS6 : Hid (IsQ c s o3 (w6.setCell ⟨pb, 4, none⟩ (.slice a6 l6 c6)) ∧ (w6.setCell ⟨pb, 4, none⟩ (.slice a6 l6 c6)).heap[pb]? = some (.cells #[p0, p1, p2, p3, .slice a6 l6 c6, p5] 27 (0, 0)) ∧ R2 c pb w (w6.setCell ⟨pb, 4, none⟩ (.slice a6 l6 c6))) := ⟨(HE3.out.1.below hb6 hcl).set hcp _, Joins.block_setCell (i := 4) hp6 _, (HR2X.out.below hb6 (Nat.le_refl _)).set _ _⟩
        have HO7 : Hid (Own w.heap.size (w6.setCell ⟨pb, 4, none⟩ (.slice a6 l6 c6)) (.slice a6 l6 c6) (D ++ [⟨x0, x1, x2⟩])) := ownsRow_setCell_below HO6.out (a := ⟨pb, 4, none⟩) hpl _
        have q6 : w6.cell? ⟨pb, 4, none⟩ = some (.slice ao lo co) := cellsAt hp6 4
        have z6 : w6.frozen? ⟨pb, 4, none⟩ = false := free3 hp6 4
        clear r1 r2 r3 hb6 HO6 HOX HE3 HR2X HPX hp6 m0 m1 m2 q0
        go_wp2_with fail
        exact ⟨⟨k + 1, D ++ [⟨x0, x1, x2⟩], o3, a6, l6, c6, by omega, by rw [List.length_append, HDK.out]; rfl, by go_num, HRS2, HS6, HO7⟩, by simp [intOf]; omega⟩
    · have hd : decide ((k : Int) < (M : Int)) = false := by simp; omega
      have HFN : Hid (RS = (D, o)) := (show _ = _ by rw [← HRS.out, cLs_end (.inl (by omega))])
      clear HRS y2
      go_wp2_with fail
      refine HQN.out _ _ _ _ _ _ _ _ _ _ _ _ _ _ _ _ _ _ _ _ _ _ _ _ _ _ _ _ _ ao lo co wr ?_ HS.out.2.1 ?_ HS.out.2.2
      · show IsQ _ _ _ _
        rw [HFN.out]; exact HS.out.1
      · show Own _ _ _ _
        rw [HFN.out]; exact HO.out

end Gw
end Go.Proofs.YtdfkpehggecbaaaGreatDoor

/- The document's PacketOf: a loop. -/
namespace Go.Proofs.YtdfkpehggecbaaaGreatDoor
namespace Wh
open Go.RowKit

theorem cLs_end {n : Nat} {o : Option (List UInt8)} {D : List Whe} (h : n = 0 ∨ o = none) : cLs n o D = (D, o) := by
  rcases h with rfl | rfl
  · cases o <;> rfl
  · exact cLs_bad n D

set_option maxHeartbeats 100000000 in
set_option maxRecDepth 1000000 in
theorem loop_c {u0 u1 u2 u3 u7 u8 u9 u10 u11 u12 u14 u15 u16 u17 u18 u19 u20 u21 u22 u23 u24 u25 u26 u27 u28 u29 u30 u31 u32 u33 u34 u35 u36 u37 u38 u39 u40 u41 u42 u43 u44 u45 u46 u47 u48 u49 u50 u51 u52 u53 u54 u55 u56 u57 u58 u59 u60 u61 u62 u63 u64 u65 u66 u67 u68 u69 u70 u71 u72 u73 u74 u75 u76 u77 u78 u79 u80 u81 u82 u83 u84 u85 u86 u87 u88 u89 u90 u91 u92 u93 u94 u95 u96 u97 u98 u99 u100 u101 u102 u103 u104 u105 u106 u107 u108 u109 u110 u111 u112 u113 u114 u115 u116 u117 u118 u119 u120 u121 u122 u123 u124 u125 u126 u127 u128 u129 u130 u131 u132 u133 u134 u135 u136 u137 u138 u139 u140 u141 u142 u143 u144 u145 u146 u147 u148 u149 u150 u151 u152 u153 u154 u155 u156 u157 u158 u159 u160 u161 u162 u163 u164 u165 u166 u167 u168 u169 u170 u171 u172 u173 u174 u175 u176 u177 u178 u179 u180 u181 u182 u183 u184 u185 u186 u187 u188 u189 u190 u191 u192 u193 u194 u195 u196 u197 : Value} (w : World) (s : ByteArray) (c pb M : Nat) (o : Option (List UInt8)) (p0 p1 p2 p3 p4 : Value) (hs : s.size ≤ 16777216) (hM : M ≤ 20) (hq : IsQ c s o w) (hcp : c ≠ pb) (hp : w.heap[pb]? = some (.cells #[p0, p1, p2, p3, p4, .slice none 0 0] 27 (0, 0))) (Q : Exit → Act → World → Prop)
    (hN : ∀ (y13 y14 y137 y138 y139 y140 y141 y142 y143 y144 y145 y146 y147 y148 y149 y150 y151 y152 y153 y154 y155 y156 y157 y158 y159 y160 y161 y162 y163 y164 y165 y166 y167 y168 y169 y170 y171 y172 y173 y174 y175 y176 y177 : Value) (ao : Option Addr) (lo co : Nat) (W : World), Hid (IsQ c s (cLs M o []).2 W) → Hid (W.heap[pb]? = some (.cells #[p0, p1, p2, p3, p4, .slice ao lo co] 27 (0, 0))) → Hid (Own w.heap.size W (.slice ao lo co) (cLs M o []).1) → Hid (R2 c pb w W) → Q .normal ⟨#[u0, u1, u2, u3, .pointer (some ⟨c, 0, none⟩), .pointer (some ⟨pb, 0, none⟩), .int .i64 (M : Int), u7, u8, u9, u10, u11, u12, y13, y14, u15, u16, u17, u18, u19, u20, u21, u22, u23, u24, u25, u26, u27, u28, u29, u30, u31, u32, u33, u34, u35, u36, u37, u38, u39, u40, u41, u42, u43, u44, u45, u46, u47, u48, u49, u50, u51, u52, u53, u54, u55, u56, u57, u58, u59, u60, u61, u62, u63, u64, u65, u66, u67, u68, u69, u70, u71, u72, u73, u74, u75, u76, u77, u78, u79, u80, u81, u82, u83, u84, u85, u86, u87, u88, u89, u90, u91, u92, u93, u94, u95, u96, u97, u98, u99, u100, u101, u102, u103, u104, u105, u106, u107, u108, u109, u110, u111, u112, u113, u114, u115, u116, u117, u118, u119, u120, u121, u122, u123, u124, u125, u126, u127, u128, u129, u130, u131, u132, u133, u134, u135, u136, y137, y138, y139, y140, y141, y142, y143, y144, y145, y146, y147, y148, y149, y150, y151, y152, y153, y154, y155, y156, y157, y158, y159, y160, y161, y162, y163, y164, y165, y166, y167, y168, y169, y170, y171, y172, y173, y174, y175, y176, y177, u178, u179, u180, u181, u182, u183, u184, u185, u186, u187, u188, u189, u190, u191, u192, u193, u194, u195, u196, u197], []⟩ W) :
    Code.wp Tryz.prog ((Tryz.f13.body.bind (blkIn 6)).getD .skip) Q ⟨#[u0, u1, u2, u3, .pointer (some ⟨c, 0, none⟩), .pointer (some ⟨pb, 0, none⟩), .int .i64 (M : Int), u7, u8, u9, u10, u11, u12, .int .i64 0, u14, u15, u16, u17, u18, u19, u20, u21, u22, u23, u24, u25, u26, u27, u28, u29, u30, u31, u32, u33, u34, u35, u36, u37, u38, u39, u40, u41, u42, u43, u44, u45, u46, u47, u48, u49, u50, u51, u52, u53, u54, u55, u56, u57, u58, u59, u60, u61, u62, u63, u64, u65, u66, u67, u68, u69, u70, u71, u72, u73, u74, u75, u76, u77, u78, u79, u80, u81, u82, u83, u84, u85, u86, u87, u88, u89, u90, u91, u92, u93, u94, u95, u96, u97, u98, u99, u100, u101, u102, u103, u104, u105, u106, u107, u108, u109, u110, u111, u112, u113, u114, u115, u116, u117, u118, u119, u120, u121, u122, u123, u124, u125, u126, u127, u128, u129, u130, u131, u132, u133, u134, u135, u136, u137, u138, u139, u140, u141, u142, u143, u144, u145, u146, u147, u148, u149, u150, u151, u152, u153, u154, u155, u156, u157, u158, u159, u160, u161, u162, u163, u164, u165, u166, u167, u168, u169, u170, u171, u172, u173, u174, u175, u176, u177, u178, u179, u180, u181, u182, u183, u184, u185, u186, u187, u188, u189, u190, u191, u192, u193, u194, u195, u196, u197], []⟩ w := by
  obtain ⟨i0, hi0, hz0, hzs, hzb⟩ := info_parts Tryz.info66
  conv => arg 2; whnf
  have HQN : Hid _ := hN
  clear hN
  obtain ⟨RS, hRS⟩ : ∃ RS, RS = cLs M o [] := ⟨_, rfl⟩
  rw [← hRS] at HQN
  have HRS0 : Hid (cLs (M - 0) o [] = RS) := hRS.symm
  have hcl := hq.lt
  have hpl : pb < w.heap.size := (Array.getElem?_eq_some_iff.1 hp).1
  have HQ0 : Hid (IsQ c s o w ∧ w.heap[pb]? = some (.cells #[p0, p1, p2, p3, p4, .slice none 0 0] 27 (0, 0)) ∧ R2 c pb w w) := ⟨hq, hp, R2.refl _ _ _⟩
  clear hRS hq hp
  go_wp2_with fail
  go_loopw [13] (fun i wr => ∃ (k : Nat) (D : List Whe) (o : Option (List UInt8)) (ao : Option Addr) (lo co : Nat), k ≤ M ∧ D.length = k ∧ i = .int .i64 k ∧ Hid (cLs (M - k) o D = RS) ∧ Hid (IsQ c s o wr ∧ wr.heap[pb]? = some (.cells #[p0, p1, p2, p3, p4, .slice ao lo co] 27 (0, 0)) ∧ R2 c pb w wr) ∧ Hid (Own w.heap.size wr (.slice ao lo co) D)) (fun i _ => M - (intOf i).toNat)
  case atStart => exact ⟨0, [], o, none, 0, 0, Nat.zero_le _, rfl, rfl, HRS0, HQ0, own_nil _ _⟩
  case round =>
    obtain ⟨k, D, o, ao, lo, co, hk, hDk0, rfl, HRS, HS, HO⟩ := hrel
    have HDK : Hid (D.length = k) := hDk0
    have hDl : D.length ≤ 40 := by omega
    clear hDk0
    have y2 := HS.out.1.bad
    by_cases hlt : k < M
    · have hd : decide ((k : Int) < (M : Int)) = true := by simp; omega
      cases o with
      | none =>
        have y2' : wr.cell? ⟨c, 2, none⟩ = some (.bool true) := y2
        clear y2
        have HFN : Hid (RS = (D, none)) := (show _ = _ by rw [← HRS.out, cLs_end (.inr rfl)])
        clear HRS
        go_wp2_with fail
        refine HQN.out _ _ _ _ _ _ _ _ _ _ _ _ _ _ _ _ _ _ _ _ _ _ _ _ _ _ _ _ _ _ _ _ _ _ _ _ _ _ _ _ _ _ _ ao lo co wr ?_ HS.out.2.1 ?_ HS.out.2.2
        · show IsQ _ _ _ _
          rw [HFN.out]; exact HS.out.1
        · show Own _ _ _ _
          rw [HFN.out]; exact HO.out
      | some l =>
        have y2' : wr.cell? ⟨c, 2, none⟩ = some (.bool false) := y2
        clear y2
        obtain ⟨x0, o1, hx0⟩ : ∃ x o', cT (some l) = (x, o') := ⟨_, _, rfl⟩
        obtain ⟨x1, o2, hx1⟩ : ∃ x o', cN o1 = (x, o') := ⟨_, _, rfl⟩
        obtain ⟨x2, o3, hx2⟩ : ∃ x o', cN o2 = (x, o') := ⟨_, _, rfl⟩
        obtain ⟨x3, o4, hx3⟩ : ∃ x o', cN o3 = (x, o') := ⟨_, _, rfl⟩
        obtain ⟨x4, o5, hx4⟩ : ∃ x o', cN o4 = (x, o') := ⟨_, _, rfl⟩
        obtain ⟨x5, o6, hx5⟩ : ∃ x o', cN o5 = (x, o') := ⟨_, _, rfl⟩
        have hel : cEl (some l) = (⟨x0, x1, x2, x3, x4, x5⟩, o6) := by simp only [cEl, hx0, hx1, hx2, hx3, hx4, hx5]
        have HRS2 : Hid (cLs (M - (k + 1)) o6 (D ++ [⟨x0, x1, x2, x3, x4, x5⟩]) = RS) := (show _ = _ by
          rw [← HRS.out, cLs_go (by omega), hel, show M - (k + 1) = M - k - 1 by omega])
        clear hel HRS
        obtain ⟨W0, hW0⟩ : ∃ W0, W0 = wr.alloc (.cells #[.string ⟨#[]⟩, .int .i64 0, .int .i64 0, .int .i64 0, .int .i64 0, .int .i64 0] 66) := ⟨_, rfl⟩
        have hb0 : Below wr.heap.size wr W0 := by rw [hW0]; exact (Below.refl _ _).alloc (Nat.le_refl _) _
        have hsz := HS.out.2.2.size
        have hcw : c < wr.heap.size := HS.out.1.lt
        have hpw : pb < wr.heap.size := (Array.getElem?_eq_some_iff.1 HS.out.2.1).1
        have HE0 : Hid (IsQ c s (some l) W0 ∧ Rp c wr W0 ∧ W0.heap[wr.heap.size]? = some (.cells #[.string ⟨#[]⟩, .int .i64 0, .int .i64 0, .int .i64 0, .int .i64 0, .int .i64 0] 66 (0, 0))) := ⟨HS.out.1.below hb0 hcw, Rp.of_below hb0 (Nat.le_refl _), by rw [hW0]; exact heap_alloc_new wr _⟩
        have HC0 : Hid (∀ W, IsQ c s (some l) W → Calls Tryz.prog 36 #[.pointer (some ⟨c, 0, none⟩)] W fun e w' => e = .returned (.string x0) ∧ IsQ c s o1 w' ∧ Rp c W w') := fun W hW => by
          have h := ctext_any hW hs
          rw [hx0] at h
          exact h
        have HC1 : Hid (∀ W, IsQ c s o1 W → Calls Tryz.prog 39 #[.pointer (some ⟨c, 0, none⟩)] W fun e w' => e = .returned (.int .i64 x1) ∧ IsQ c s o2 w' ∧ Rp c W w') := fun W hW => by
          have h := cnum_any hW hs
          rw [hx1] at h
          exact h
        have HC2 : Hid (∀ W, IsQ c s o2 W → Calls Tryz.prog 39 #[.pointer (some ⟨c, 0, none⟩)] W fun e w' => e = .returned (.int .i64 x2) ∧ IsQ c s o3 w' ∧ Rp c W w') := fun W hW => by
          have h := cnum_any hW hs
          rw [hx2] at h
          exact h
        have HC3 : Hid (∀ W, IsQ c s o3 W → Calls Tryz.prog 39 #[.pointer (some ⟨c, 0, none⟩)] W fun e w' => e = .returned (.int .i64 x3) ∧ IsQ c s o4 w' ∧ Rp c W w') := fun W hW => by
          have h := cnum_any hW hs
          rw [hx3] at h
          exact h
        have HC4 : Hid (∀ W, IsQ c s o4 W → Calls Tryz.prog 39 #[.pointer (some ⟨c, 0, none⟩)] W fun e w' => e = .returned (.int .i64 x4) ∧ IsQ c s o5 w' ∧ Rp c W w') := fun W hW => by
          have h := cnum_any hW hs
          rw [hx4] at h
          exact h
        have HC5 : Hid (∀ W, IsQ c s o5 W → Calls Tryz.prog 39 #[.pointer (some ⟨c, 0, none⟩)] W fun e w' => e = .returned (.int .i64 x5) ∧ IsQ c s o6 w' ∧ Rp c W w') := fun W hW => by
          have h := cnum_any hW hs
          rw [hx5] at h
          exact h
        clear hb0 hx0 hx1 hx2 hx3 hx4 hx5
        go_wp2_with fail
        rw [← hW0]
        clear hW0 y2'
        refine (HC0.out W0 HE0.out.1).mono ?_
        rintro e W1 ⟨rfl, h1, h2⟩
        have hm0 : W1.heap[wr.heap.size]? = some (.cells #[.string ⟨#[]⟩, .int .i64 0, .int .i64 0, .int .i64 0, .int .i64 0, .int .i64 0] 66 (0, 0)) := h2.block' (by omega) HE0.out.2.2
        have HE1 : Hid (IsQ c s o1 (W1.setCell ⟨wr.heap.size, 0, none⟩ (.string x0)) ∧ Rp c wr (W1.setCell ⟨wr.heap.size, 0, none⟩ (.string x0)) ∧ (W1.setCell ⟨wr.heap.size, 0, none⟩ (.string x0)).heap[wr.heap.size]? = some (.cells #[.string x0, .int .i64 0, .int .i64 0, .int .i64 0, .int .i64 0, .int .i64 0] 66 (0, 0))) := ⟨h1.set (by omega) _, (HE0.out.2.1.trans h2).new (Nat.le_refl _) _, Joins.block_setCell (i := 0) hm0 _⟩
        have g0 : W1.cell? ⟨wr.heap.size, 0, none⟩ = some (.string ⟨#[]⟩) := cellsAt hm0 0
        have z0 : W1.frozen? ⟨wr.heap.size, 0, none⟩ = false := free3 hm0 0
        clear hm0 h1 h2 HC0 HE0
        go_wp2_with fail
        refine (HC1.out (W1.setCell ⟨wr.heap.size, 0, none⟩ (.string x0)) HE1.out.1).mono ?_
        rintro e W2 ⟨rfl, h1, h2⟩
        have hm1 : W2.heap[wr.heap.size]? = some (.cells #[.string x0, .int .i64 0, .int .i64 0, .int .i64 0, .int .i64 0, .int .i64 0] 66 (0, 0)) := h2.block' (by omega) HE1.out.2.2
        have HE2 : Hid (IsQ c s o2 (W2.setCell ⟨wr.heap.size, 1, none⟩ (.int .i64 x1)) ∧ Rp c wr (W2.setCell ⟨wr.heap.size, 1, none⟩ (.int .i64 x1)) ∧ (W2.setCell ⟨wr.heap.size, 1, none⟩ (.int .i64 x1)).heap[wr.heap.size]? = some (.cells #[.string x0, .int .i64 x1, .int .i64 0, .int .i64 0, .int .i64 0, .int .i64 0] 66 (0, 0))) := ⟨h1.set (by omega) _, (HE1.out.2.1.trans h2).new (Nat.le_refl _) _, Joins.block_setCell (i := 1) hm1 _⟩
        have g1 : W2.cell? ⟨wr.heap.size, 1, none⟩ = some (.int .i64 0) := cellsAt hm1 1
        have z1 : W2.frozen? ⟨wr.heap.size, 1, none⟩ = false := free3 hm1 1
        clear hm1 h1 h2 HC1 HE1
        go_wp2_with fail
        refine (HC2.out (W2.setCell ⟨wr.heap.size, 1, none⟩ (.int .i64 x1)) HE2.out.1).mono ?_
        rintro e W3 ⟨rfl, h1, h2⟩
        have hm2 : W3.heap[wr.heap.size]? = some (.cells #[.string x0, .int .i64 x1, .int .i64 0, .int .i64 0, .int .i64 0, .int .i64 0] 66 (0, 0)) := h2.block' (by omega) HE2.out.2.2
        have HE3 : Hid (IsQ c s o3 (W3.setCell ⟨wr.heap.size, 2, none⟩ (.int .i64 x2)) ∧ Rp c wr (W3.setCell ⟨wr.heap.size, 2, none⟩ (.int .i64 x2)) ∧ (W3.setCell ⟨wr.heap.size, 2, none⟩ (.int .i64 x2)).heap[wr.heap.size]? = some (.cells #[.string x0, .int .i64 x1, .int .i64 x2, .int .i64 0, .int .i64 0, .int .i64 0] 66 (0, 0))) := ⟨h1.set (by omega) _, (HE2.out.2.1.trans h2).new (Nat.le_refl _) _, Joins.block_setCell (i := 2) hm2 _⟩
        have g2 : W3.cell? ⟨wr.heap.size, 2, none⟩ = some (.int .i64 0) := cellsAt hm2 2
        have z2 : W3.frozen? ⟨wr.heap.size, 2, none⟩ = false := free3 hm2 2
        clear hm2 h1 h2 HC2 HE2
        go_wp2_with fail
        refine (HC3.out (W3.setCell ⟨wr.heap.size, 2, none⟩ (.int .i64 x2)) HE3.out.1).mono ?_
        rintro e W4 ⟨rfl, h1, h2⟩
        have hm3 : W4.heap[wr.heap.size]? = some (.cells #[.string x0, .int .i64 x1, .int .i64 x2, .int .i64 0, .int .i64 0, .int .i64 0] 66 (0, 0)) := h2.block' (by omega) HE3.out.2.2
        have HE4 : Hid (IsQ c s o4 (W4.setCell ⟨wr.heap.size, 3, none⟩ (.int .i64 x3)) ∧ Rp c wr (W4.setCell ⟨wr.heap.size, 3, none⟩ (.int .i64 x3)) ∧ (W4.setCell ⟨wr.heap.size, 3, none⟩ (.int .i64 x3)).heap[wr.heap.size]? = some (.cells #[.string x0, .int .i64 x1, .int .i64 x2, .int .i64 x3, .int .i64 0, .int .i64 0] 66 (0, 0))) := ⟨h1.set (by omega) _, (HE3.out.2.1.trans h2).new (Nat.le_refl _) _, Joins.block_setCell (i := 3) hm3 _⟩
        have g3 : W4.cell? ⟨wr.heap.size, 3, none⟩ = some (.int .i64 0) := cellsAt hm3 3
        have z3 : W4.frozen? ⟨wr.heap.size, 3, none⟩ = false := free3 hm3 3
        clear hm3 h1 h2 HC3 HE3
        go_wp2_with fail
        refine (HC4.out (W4.setCell ⟨wr.heap.size, 3, none⟩ (.int .i64 x3)) HE4.out.1).mono ?_
        rintro e W5 ⟨rfl, h1, h2⟩
        have hm4 : W5.heap[wr.heap.size]? = some (.cells #[.string x0, .int .i64 x1, .int .i64 x2, .int .i64 x3, .int .i64 0, .int .i64 0] 66 (0, 0)) := h2.block' (by omega) HE4.out.2.2
        have HE5 : Hid (IsQ c s o5 (W5.setCell ⟨wr.heap.size, 4, none⟩ (.int .i64 x4)) ∧ Rp c wr (W5.setCell ⟨wr.heap.size, 4, none⟩ (.int .i64 x4)) ∧ (W5.setCell ⟨wr.heap.size, 4, none⟩ (.int .i64 x4)).heap[wr.heap.size]? = some (.cells #[.string x0, .int .i64 x1, .int .i64 x2, .int .i64 x3, .int .i64 x4, .int .i64 0] 66 (0, 0))) := ⟨h1.set (by omega) _, (HE4.out.2.1.trans h2).new (Nat.le_refl _) _, Joins.block_setCell (i := 4) hm4 _⟩
        have g4 : W5.cell? ⟨wr.heap.size, 4, none⟩ = some (.int .i64 0) := cellsAt hm4 4
        have z4 : W5.frozen? ⟨wr.heap.size, 4, none⟩ = false := free3 hm4 4
        clear hm4 h1 h2 HC4 HE4
        go_wp2_with fail
        refine (HC5.out (W5.setCell ⟨wr.heap.size, 4, none⟩ (.int .i64 x4)) HE5.out.1).mono ?_
        rintro e W6 ⟨rfl, h1, h2⟩
        have hm5 : W6.heap[wr.heap.size]? = some (.cells #[.string x0, .int .i64 x1, .int .i64 x2, .int .i64 x3, .int .i64 x4, .int .i64 0] 66 (0, 0)) := h2.block' (by omega) HE5.out.2.2
        have HE6 : Hid (IsQ c s o6 (W6.setCell ⟨wr.heap.size, 5, none⟩ (.int .i64 x5)) ∧ Rp c wr (W6.setCell ⟨wr.heap.size, 5, none⟩ (.int .i64 x5)) ∧ (W6.setCell ⟨wr.heap.size, 5, none⟩ (.int .i64 x5)).heap[wr.heap.size]? = some (.cells #[.string x0, .int .i64 x1, .int .i64 x2, .int .i64 x3, .int .i64 x4, .int .i64 x5] 66 (0, 0))) := ⟨h1.set (by omega) _, (HE5.out.2.1.trans h2).new (Nat.le_refl _) _, Joins.block_setCell (i := 5) hm5 _⟩
        have g5 : W6.cell? ⟨wr.heap.size, 5, none⟩ = some (.int .i64 0) := cellsAt hm5 5
        have z5 : W6.frozen? ⟨wr.heap.size, 5, none⟩ = false := free3 hm5 5
        clear hm5 h1 h2 HC5 HE5
        go_upto_region 51 with fail
        obtain ⟨WX, hWX⟩ : ∃ WX, WX = W6.setCell ⟨wr.heap.size, 5, none⟩ (.int .i64 x5) := ⟨_, rfl⟩
        rw [← hWX] at HE6 ⊢
        clear hWX g5 z5
        have hpx : WX.heap[pb]? = some (.cells #[p0, p1, p2, p3, p4, .slice ao lo co] 27 (0, 0)) := HE6.out.2.1.block' (by omega) HS.out.2.1
        have HOX : Hid (Own w.heap.size WX (.slice ao lo co) D) := HE6.out.2.1.row HO.out (by omega)
        have q0 : WX.cell? ⟨pb, 5, none⟩ = some (.slice ao lo co) := cellsAt hpx 5
        have HR2X : Hid (R2 c pb w WX) := HS.out.2.2.rp HE6.out.2.1
        have HPX : Hid (WX.heap[pb]? = some (.cells #[p0, p1, p2, p3, p4, .slice ao lo co] 27 (0, 0))) := hpx
        have hcx : c < WX.heap.size := HE6.out.1.lt
        have hszx : w.heap.size ≤ WX.heap.size := HR2X.out.size
        have m0 : WX.cell? ⟨wr.heap.size, 0, none⟩ = some (.string x0) := cellsAt HE6.out.2.2 0
        have m1 : WX.cell? ⟨wr.heap.size, 1, none⟩ = some (.int .i64 x1) := cellsAt HE6.out.2.2 1
        have m2 : WX.cell? ⟨wr.heap.size, 2, none⟩ = some (.int .i64 x2) := cellsAt HE6.out.2.2 2
        have m3 : WX.cell? ⟨wr.heap.size, 3, none⟩ = some (.int .i64 x3) := cellsAt HE6.out.2.2 3
        have m4 : WX.cell? ⟨wr.heap.size, 4, none⟩ = some (.int .i64 x4) := cellsAt HE6.out.2.2 4
        have m5 : WX.cell? ⟨wr.heap.size, 5, none⟩ = some (.int .i64 x5) := cellsAt HE6.out.2.2 5
        clear hpx HS HO
        go_wp2_with (at_builtin; refine wpList_append_own _ rfl _ _ 25 rfl w.heap.size 66 i0 _ 6 56 Tryz.underlying25 hi0 hz0 hzs hzb rfl (by omega) _ D.length (fl D) rfl ?hown ⟨WX.heap.size, 0, none⟩ 1 1 (Whe.cs ⟨x0, x1, x2, x3, x4, x5⟩) rfl rfl ?hnews (cs_one _) ?h63 ?hbytes ?hbase ?_)
        case hown => (refine HOX.out.below ?_; repeat (first | exact Below.refl _ _ | refine below_drewN ?_ _ | refine Below.alloc ?_ (by simp) _ | refine Below.drew ?_))
        case hnews => (intro j u hj; rw [Addr.add_lit]; exact (cellsAt (heap_alloc_new WX (.cells #[.string x0, .int .i64 x1, .int .i64 x2, .int .i64 x3, .int .i64 x4, .int .i64 x5] 66)) (0 + j)).trans (by simpa [Whe.cs] using hj))
        case h63 => (unfold maxLen; omega)
        case hbytes => omega
        case hbase => (simp; omega)
        intro v' w6 r1 r2 r3
        have hb6 : Below w.heap.size WX w6 := ((Below.refl w.heap.size WX).alloc hszx (.cells #[.string x0, .int .i64 x1, .int .i64 x2, .int .i64 x3, .int .i64 x4, .int .i64 x5] 66)).trans ((Below.refl _ _).grown (w := WX.alloc (.cells #[.string x0, .int .i64 x1, .int .i64 x2, .int .i64 x3, .int .i64 x4, .int .i64 x5] 66)) ⟨r2.os, r2.tape, r2.output, r2.size, r2.block⟩ (by simp; omega) (fun j hj => (HOX.out.lt j hj).1))
        have HO6 : Hid (Own w.heap.size w6 v' (D ++ [⟨x0, x1, x2, x3, x4, x5⟩])) := own_snoc (by first | exact r1 | (rw [List.length_append]; exact r1))
        obtain ⟨a6, l6, c6, hv6⟩ : ∃ a l c, v' = .slice a l c := by
          rcases r1.2 with ⟨hv, _⟩ | ⟨_, _, _, hv, _⟩
          · exact ⟨_, _, _, hv⟩
          · exact ⟨_, _, _, hv⟩
        subst hv6
        have hp6 : w6.heap[pb]? = some (.cells #[p0, p1, p2, p3, p4, .slice ao lo co] 27 (0, 0)) := (hb6.block pb hpl).trans HPX.out
        have HS6 : Hid (IsQ c s o6 (w6.setCell ⟨pb, 5, none⟩ (.slice a6 l6 c6)) ∧ (w6.setCell ⟨pb, 5, none⟩ (.slice a6 l6 c6)).heap[pb]? = some (.cells #[p0, p1, p2, p3, p4, .slice a6 l6 c6] 27 (0, 0)) ∧ R2 c pb w (w6.setCell ⟨pb, 5, none⟩ (.slice a6 l6 c6))) := ⟨(HE6.out.1.below hb6 hcl).set hcp _, Joins.block_setCell (i := 5) hp6 _, (HR2X.out.below hb6 (Nat.le_refl _)).set _ _⟩
        have HO7 : Hid (Own w.heap.size (w6.setCell ⟨pb, 5, none⟩ (.slice a6 l6 c6)) (.slice a6 l6 c6) (D ++ [⟨x0, x1, x2, x3, x4, x5⟩])) := ownsRow_setCell_below HO6.out (a := ⟨pb, 5, none⟩) hpl _
        have q6 : w6.cell? ⟨pb, 5, none⟩ = some (.slice ao lo co) := cellsAt hp6 5
        have z6 : w6.frozen? ⟨pb, 5, none⟩ = false := free3 hp6 5
        clear r1 r2 r3 hb6 HO6 HOX HE6 HR2X HPX hp6 m0 m1 m2 m3 m4 m5 q0
        go_wp2_with fail
        exact ⟨⟨k + 1, D ++ [⟨x0, x1, x2, x3, x4, x5⟩], o6, a6, l6, c6, by omega, by rw [List.length_append, HDK.out]; rfl, by go_num, HRS2, HS6, HO7⟩, by simp [intOf]; omega⟩
    · have hd : decide ((k : Int) < (M : Int)) = false := by simp; omega
      have HFN : Hid (RS = (D, o)) := (show _ = _ by rw [← HRS.out, cLs_end (.inl (by omega))])
      clear HRS y2
      go_wp2_with fail
      refine HQN.out _ _ _ _ _ _ _ _ _ _ _ _ _ _ _ _ _ _ _ _ _ _ _ _ _ _ _ _ _ _ _ _ _ _ _ _ _ _ _ _ _ _ _ ao lo co wr ?_ HS.out.2.1 ?_ HS.out.2.2
      · show IsQ _ _ _ _
        rw [HFN.out]; exact HS.out.1
      · show Own _ _ _ _
        rw [HFN.out]; exact HO.out

end Wh
end Go.Proofs.YtdfkpehggecbaaaGreatDoor

/- The document's PacketOf; PacketReads. -/
namespace Go.Proofs.YtdfkpehggecbaaaGreatDoor
open Go.RowKit

theorem R2.row {c p base : Nat} {w w' : World} {T : TypeId} {k n : Nat} {v : Value} {cs : List Value} (h : R2 c p w w') (ho : w.ownsRow base T k v n cs) (hc : c < base) (hp : p < base) : w'.ownsRow base T k v n cs :=
  row_keep (fun b hb hl => h.block b hl (by omega) (by omega)) ho
theorem R2.trans {c p : Nat} {w w1 w2 : World} (h : R2 c p w w1) (h2 : R2 c p w1 w2) : R2 c p w w2 :=
  ⟨h2.os.trans h.os, h2.tape.trans h.tape, h2.output.trans h.output, Nat.le_trans h.size h2.size, fun k hk hc hp => (h2.block k (Nat.lt_of_lt_of_le hk h.size) hc hp).trans (h.block k hk hc hp)⟩
theorem R2.block' {c p k : Nat} {w w' : World} {b : Obj} (h : R2 c p w w') (hc : k ≠ c) (hp : k ≠ p) (hb : w.heap[k]? = some b) : w'.heap[k]? = some b := (h.block k (Array.getElem?_eq_some_iff.1 hb).1 hc hp).trans hb
theorem mem_flat {α : Type} (f : α → List UInt8) {m : α} : ∀ {L : List α}, m ∈ L → (f m).length ≤ (L.flatMap f).length
  | x :: L, h => by
    rw [List.flatMap_cons, List.length_append]
    rcases List.mem_cons.1 h with rfl | h
    · omega
    · have := mem_flat f h
      omega
theorem txt_le (s : ByteArray) : s.size ≤ (txtB s).length := by
  unfold txtB
  rw [List.length_append]
  have : s.data.toList.length = s.size := rfl
  omega
/-- What the document reads has texts that are no longer than the whole. -/
theorem cPk_in {l r : List UInt8} (h : (cPk (some l)).2 = some r) (hl : l.length ≤ 16777216) : (cPk (some l)).1.frm.size ≤ maxLen ∧ (∀ m ∈ (cPk (some l)).1.ms, m.name.size ≤ maxLen) ∧ (∀ m ∈ (cPk (some l)).1.sv, m.node.size ≤ maxLen ∧ m.idn.size ≤ maxLen ∧ m.name.size ≤ maxLen ∧ m.tag.size ≤ maxLen) ∧ (∀ m ∈ (cPk (some l)).1.gw, m.centre.size ≤ maxLen) ∧ (∀ m ∈ (cPk (some l)).1.wh, m.node.size ≤ maxLen) := by
  have e := cPk_eq h
  rw [Option.some.injEq] at e
  generalize (cPk (some l)).1 = p at *
  have e2 := congrArg List.length e
  unfold Pk.B at e2
  simp only [List.length_append] at e2
  unfold maxLen
  refine ⟨?_, fun m hm => ?_, fun m hm => ?_, fun m hm => ?_, fun m hm => ?_⟩
  · have := txt_le p.frm; omega
  · have h1 := mem_flat elB hm
    have h2 : m.name.size ≤ (elB m).length := by
      unfold elB
      simp only [List.length_append]
      have := txt_le m.name
      omega
    omega
  · have h1 := mem_flat Sv.elB hm
    have h2 : m.node.size ≤ (Sv.elB m).length ∧ m.idn.size ≤ (Sv.elB m).length ∧ m.name.size ≤ (Sv.elB m).length ∧ m.tag.size ≤ (Sv.elB m).length := by
      unfold Sv.elB
      simp only [List.length_append]
      have h2 := txt_le m.node
      have h3 := txt_le m.idn
      have h4 := txt_le m.name
      have h5 := txt_le m.tag
      omega
    omega
  · have h1 := mem_flat Gw.elB hm
    have h2 : m.centre.size ≤ (Gw.elB m).length := by
      unfold Gw.elB
      simp only [List.length_append]
      have := txt_le m.centre
      omega
    omega
  · have h1 := mem_flat Wh.elB hm
    have h2 : m.node.size ≤ (Wh.elB m).length := by
      unfold Wh.elB
      simp only [List.length_append]
      have := txt_le m.node
      omega
    omega

set_option maxHeartbeats 100000000 in
set_option maxRecDepth 1000000 in
theorem pof_any (l : List UInt8) (w : World) (hs : l.length ≤ 16777216) :
    Calls Tryz.prog 13 #[.string (bstr l)] w (ReadSays w (rdR l)) := by
  obtain ⟨s, hss⟩ : ∃ s, s = bstr l := ⟨_, rfl⟩
  have hsz : s.size ≤ 16777216 := by rw [hss, bstr_size]; exact hs
  have hsl : s.data.toList = l := by rw [hss]; exact bstr_list l
  have HSL : Hid (s.data.toList = l) := hsl
  rw [← hss]
  obtain ⟨x0, o1, e0⟩ : ∃ x o, cT (some l) = (x, o) := ⟨_, _, rfl⟩
  obtain ⟨x1, o2, e1⟩ : ∃ x o, cY o1 = (x, o) := ⟨_, _, rfl⟩
  obtain ⟨D1, o3, e2⟩ : ∃ x o, cList 20 o2 = (x, o) := ⟨_, _, rfl⟩
  obtain ⟨D2, o4, e3⟩ : ∃ x o, Sv.cList 40 o3 = (x, o) := ⟨_, _, rfl⟩
  obtain ⟨D3, o5, e4⟩ : ∃ x o, Gw.cList 6 o4 = (x, o) := ⟨_, _, rfl⟩
  obtain ⟨D4, o6, e5⟩ : ∃ x o, Wh.cList 20 o5 = (x, o) := ⟨_, _, rfl⟩
  have hpk : cPk (some l) = (⟨x0, x1, D1, D2, D3, D4⟩, o6) := by simp only [cPk, e0, e1, e2, e3, e4, e5]
  obtain ⟨RR, hRR⟩ : ∃ R, R = rdR l := ⟨_, rfl⟩
  have HRR : Hid (RR = if o6 = some [] ∧ (Pk.mk x0 x1 D1 D2 D3 D4).e = 0 then some ⟨x0, x1, D1, D2, D3, D4⟩ else none) := by
    show _ = _
    rw [hRR, ← cPk_rdR, hpk]
  have HIN : Hid (∀ r, o6 = some r → x0.size ≤ maxLen ∧ (∀ m ∈ D1, m.name.size ≤ maxLen) ∧ (∀ m ∈ D2, m.node.size ≤ maxLen ∧ m.idn.size ≤ maxLen ∧ m.name.size ≤ maxLen ∧ m.tag.size ≤ maxLen) ∧ (∀ m ∈ D3, m.centre.size ≤ maxLen) ∧ (∀ m ∈ D4, m.node.size ≤ maxLen)) := fun r hr => by
    have h := cPk_in (l := l) (r := r) (by rw [hpk]; exact hr) hs
    rw [hpk] at h
    exact h
  rw [← hRR]
  clear hRR hpk
  obtain ⟨W0, hW0⟩ : ∃ W0, W0 = ((w.alloc (.cells #[.string ⟨#[]⟩, .bool false, .slice none 0 0, .slice none 0 0, .slice none 0 0, .slice none 0 0] 27)).alloc (.cells #[.string s, .int .i64 0, .bool false] 74)).alloc (.cells #[.string ⟨#[]⟩, .bool false, .slice none 0 0, .slice none 0 0, .slice none 0 0, .slice none 0 0] 27) := ⟨_, rfl⟩
  have hb0 : Below w.heap.size w W0 := by rw [hW0]; exact (((Below.refl _ _).alloc (Nat.le_refl _) _).alloc (by simp) _).alloc (by simp; omega) _
  have hs0 : W0.heap.size = w.heap.size + 3 := by rw [hW0]; simp
  have k0 : W0.heap[w.heap.size]? = some (.cells #[.string ⟨#[]⟩, .bool false, .slice none 0 0, .slice none 0 0, .slice none 0 0, .slice none 0 0] 27 (0, 0)) := by
    rw [hW0]
    exact (Lib.alloc_old _ _ _ (by simp; omega)).trans ((Lib.alloc_old _ _ _ (by simp)).trans (heap_alloc_new w _))
  have k1 : W0.heap[w.heap.size + 1]? = some (.cells #[.string s, .int .i64 0, .bool false] 74 (0, 0)) := by
    rw [hW0]
    have := heap_alloc_new (w.alloc (.cells #[.string ⟨#[]⟩, .bool false, .slice none 0 0, .slice none 0 0, .slice none 0 0, .slice none 0 0] 27)) (.cells #[.string s, .int .i64 0, .bool false] 74)
    exact (Lib.alloc_old _ _ _ (by simp)).trans (by simpa using this)
  have k2 : W0.heap[w.heap.size + 2]? = some (.cells #[.string ⟨#[]⟩, .bool false, .slice none 0 0, .slice none 0 0, .slice none 0 0, .slice none 0 0] 27 (0, 0)) := by
    rw [hW0]
    have := heap_alloc_new ((w.alloc (.cells #[.string ⟨#[]⟩, .bool false, .slice none 0 0, .slice none 0 0, .slice none 0 0, .slice none 0 0] 27)).alloc (.cells #[.string s, .int .i64 0, .bool false] 74)) (.cells #[.string ⟨#[]⟩, .bool false, .slice none 0 0, .slice none 0 0, .slice none 0 0, .slice none 0 0] 27)
    simpa using this
  obtain ⟨c, hc⟩ : ∃ c, c = w.heap.size + 1 := ⟨_, rfl⟩
  obtain ⟨pb, hpb⟩ : ∃ pb, pb = w.heap.size + 2 := ⟨_, rfl⟩
  rw [← hc] at k1
  rw [← hpb] at k2
  have hcp : c ≠ pb := by omega
  have HQ0 : Hid (IsQ c s (some l) W0) := ⟨0, Nat.zero_le _, fun l' hl' => by simp only [Option.some.injEq] at hl'; rw [List.drop_zero, ← hl']; exact HSL.out, k1⟩
  have HP0 : Hid (W0.heap[pb]? = some (.cells #[.string ⟨#[]⟩, .bool false, .slice none 0 0, .slice none 0 0, .slice none 0 0, .slice none 0 0] 27 (0, 0))) := k2
  have HR0 : Hid (R2 c pb W0 W0) := R2.refl _ _ _
  have HS0 : Hid (W0.heap.size = w.heap.size + 3) := hs0
  have HCC : Hid (c = w.heap.size + 1 ∧ pb = w.heap.size + 2) := ⟨hc, hpb⟩
  have HRB : Hid (∀ W, R2 c pb W0 W → W.heap[w.heap.size]? = some (.cells #[.string ⟨#[]⟩, .bool false, .slice none 0 0, .slice none 0 0, .slice none 0 0, .slice none 0 0] 27 (0, 0)) ∧ Below w.heap.size w W) := fun W hW => ⟨hW.block' (by omega) (by omega) k0, hb0.trans ⟨hW.os, hW.tape, hW.output, hW.size, fun k hk => hW.block k (by omega) (by omega) (by omega)⟩⟩
  have HT0 : Hid (∀ W, IsQ c s (some l) W → Calls Tryz.prog 36 #[.pointer (some ⟨c, 0, none⟩)] W fun e w' => e = .returned (.string x0) ∧ IsQ c s o1 w' ∧ Rp c W w') := fun W hW => by
    have h := ctext_any hW hsz
    rw [e0] at h
    exact h
  have HT1 : Hid (∀ W, IsQ c s o1 W → Calls Tryz.prog 37 #[.pointer (some ⟨c, 0, none⟩)] W fun e w' => e = .returned (.bool x1) ∧ IsQ c s o2 w' ∧ Rp c W w') := fun W hW => by
    have h := cyes_any hW hsz
    rw [e1] at h
    exact h
  obtain ⟨M0, c0, hM0, HCT0, hL0⟩ : ∃ (M : Nat) (co : Option (List UInt8)), M ≤ 20 ∧ Hid (∀ W, IsQ c s o2 W → Calls Tryz.prog 38 #[.pointer (some ⟨c, 0, none⟩), .int .i64 20] W fun e w' => e = .returned (.int .i64 (M : Int)) ∧ IsQ c s co w' ∧ Rp c W w') ∧ Hid (cLs M co [] = (D1, o3)) := by
    have h0 := cC_le (m := 20) (by omega) o2
    refine ⟨(cC 20 o2).1.toNat, (cC 20 o2).2, by omega, fun W hW => ?_, e2⟩
    have h := ccount_any 20 hW hsz (by omega)
    rw [show (cC 20 o2).1 = (((cC 20 o2).1.toNat : Nat) : Int) by omega] at h
    exact h
  obtain ⟨M1, c1, hM1, HCT1, hL1⟩ : ∃ (M : Nat) (co : Option (List UInt8)), M ≤ 40 ∧ Hid (∀ W, IsQ c s o3 W → Calls Tryz.prog 38 #[.pointer (some ⟨c, 0, none⟩), .int .i64 40] W fun e w' => e = .returned (.int .i64 (M : Int)) ∧ IsQ c s co w' ∧ Rp c W w') ∧ Hid (Sv.cLs M co [] = (D2, o4)) := by
    have h0 := cC_le (m := 40) (by omega) o3
    refine ⟨(cC 40 o3).1.toNat, (cC 40 o3).2, by omega, fun W hW => ?_, e3⟩
    have h := ccount_any 40 hW hsz (by omega)
    rw [show (cC 40 o3).1 = (((cC 40 o3).1.toNat : Nat) : Int) by omega] at h
    exact h
  obtain ⟨M2, c2, hM2, HCT2, hL2⟩ : ∃ (M : Nat) (co : Option (List UInt8)), M ≤ 6 ∧ Hid (∀ W, IsQ c s o4 W → Calls Tryz.prog 38 #[.pointer (some ⟨c, 0, none⟩), .int .i64 6] W fun e w' => e = .returned (.int .i64 (M : Int)) ∧ IsQ c s co w' ∧ Rp c W w') ∧ Hid (Gw.cLs M co [] = (D3, o5)) := by
    have h0 := cC_le (m := 6) (by omega) o4
    refine ⟨(cC 6 o4).1.toNat, (cC 6 o4).2, by omega, fun W hW => ?_, e4⟩
    have h := ccount_any 6 hW hsz (by omega)
    rw [show (cC 6 o4).1 = (((cC 6 o4).1.toNat : Nat) : Int) by omega] at h
    exact h
  obtain ⟨M3, c3, hM3, HCT3, hL3⟩ : ∃ (M : Nat) (co : Option (List UInt8)), M ≤ 20 ∧ Hid (∀ W, IsQ c s o5 W → Calls Tryz.prog 38 #[.pointer (some ⟨c, 0, none⟩), .int .i64 20] W fun e w' => e = .returned (.int .i64 (M : Int)) ∧ IsQ c s co w' ∧ Rp c W w') ∧ Hid (Wh.cLs M co [] = (D4, o6)) := by
    have h0 := cC_le (m := 20) (by omega) o5
    refine ⟨(cC 20 o5).1.toNat, (cC 20 o5).2, by omega, fun W hW => ?_, e5⟩
    have h := ccount_any 20 hW hsz (by omega)
    rw [show (cC 20 o5).1 = (((cC 20 o5).1.toNat : Nat) : Int) by omega] at h
    exact h
  clear e0 e1 e2 e3 e4 e5 hsl hss hb0 hs0 k0 k1 k2 hs
  clear hc hpb
  go_enter Tryz.func13, Tryz.ntmps13
  go_upto_region 3 with fail
  rw [← hW0]
  clear hW0
  rw [← HCC.out.1, show c + 1 = pb by have := HCC.out; omega]
  go_wp2_with fail
  refine (HT0.out W0 HQ0.out).mono ?_
  rintro e W1 ⟨rfl, h1, h2⟩
  have hp1 : W1.heap[pb]? = some (.cells #[.string ⟨#[]⟩, .bool false, .slice none 0 0, .slice none 0 0, .slice none 0 0, .slice none 0 0] 27 (0, 0)) := h2.block' (by omega) HP0.out
  have HS1 : Hid (IsQ c s o1 (W1.setCell ⟨pb, 0, none⟩ (.string x0)) ∧ (W1.setCell ⟨pb, 0, none⟩ (.string x0)).heap[pb]? = some (.cells #[.string x0, .bool false, .slice none 0 0, .slice none 0 0, .slice none 0 0, .slice none 0 0] 27 (0, 0)) ∧ R2 c pb W0 (W1.setCell ⟨pb, 0, none⟩ (.string x0))) := ⟨h1.set hcp _, Joins.block_setCell (i := 0) hp1 _, (HR0.out.rp h2).set _ _⟩
  have g0 : W1.cell? ⟨pb, 0, none⟩ = some (.string ⟨#[]⟩) := cellsAt hp1 0
  have z0 : W1.frozen? ⟨pb, 0, none⟩ = false := free3 hp1 0
  clear h1 h2 hp1 HT0 HQ0 HP0
  go_wp2_with fail
  obtain ⟨W1s, hW1s⟩ : ∃ W, W = W1.setCell ⟨pb, 0, none⟩ (.string x0) := ⟨_, rfl⟩
  rw [← hW1s] at HS1 ⊢
  clear hW1s g0 z0
  refine (HT1.out W1s HS1.out.1).mono ?_
  rintro e W2 ⟨rfl, h1, h2⟩
  have hp1 : W2.heap[pb]? = some (.cells #[.string x0, .bool false, .slice none 0 0, .slice none 0 0, .slice none 0 0, .slice none 0 0] 27 (0, 0)) := h2.block' (by omega) HS1.out.2.1
  have HS2 : Hid (IsQ c s o2 (W2.setCell ⟨pb, 1, none⟩ (.bool x1)) ∧ (W2.setCell ⟨pb, 1, none⟩ (.bool x1)).heap[pb]? = some (.cells #[.string x0, .bool x1, .slice none 0 0, .slice none 0 0, .slice none 0 0, .slice none 0 0] 27 (0, 0)) ∧ R2 c pb W0 (W2.setCell ⟨pb, 1, none⟩ (.bool x1))) := ⟨h1.set hcp _, Joins.block_setCell (i := 1) hp1 _, (HS1.out.2.2.rp h2).set _ _⟩
  have g0 : W2.cell? ⟨pb, 1, none⟩ = some (.bool false) := cellsAt hp1 1
  have z0 : W2.frozen? ⟨pb, 1, none⟩ = false := free3 hp1 1
  clear h1 h2 hp1 HT1 HS1
  go_wp2_with fail
  obtain ⟨W2s, hW2s⟩ : ∃ W, W = W2.setCell ⟨pb, 1, none⟩ (.bool x1) := ⟨_, rfl⟩
  rw [← hW2s] at HS2 ⊢
  clear hW2s g0 z0
  refine (HCT0.out W2s HS2.out.1).mono ?_
  rintro e A0 ⟨rfl, h1, h2⟩
  have HA0 : Hid (IsQ c s c0 A0 ∧ A0.heap[pb]? = some (.cells #[.string x0, .bool x1, .slice none 0 0, .slice none 0 0, .slice none 0 0, .slice none 0 0] 27 (0, 0)) ∧ R2 c pb W0 A0) := ⟨h1, h2.block' (by omega) HS2.out.2.1, HS2.out.2.2.rp h2⟩
  clear h1 h2 HCT0 HS2
  go_upto_block 0 with fail
  refine loop_c A0 s c pb M0 c0 (.string x0) (.bool x1) (.slice none 0 0) (.slice none 0 0) (.slice none 0 0) hsz hM0 HA0.out.1 hcp HA0.out.2.1 _ ?_
  intro y7 y8 y26 y27 y28 y29 y30 y31 y32 y33 y34 y35 y36 y37 y38 y39 y40 y41 y42 y43 y44 y45 y46 y47 y48 y49 y50 y51 y52 y53 y54 y55 y56 y57 y58 a2 l2 k2 B0 h1 h2 h3 h4
  have HB0 : Hid (IsQ c s o3 B0 ∧ B0.heap[pb]? = some (.cells #[.string x0, .bool x1, .slice a2 l2 k2, .slice none 0 0, .slice none 0 0, .slice none 0 0] 27 (0, 0)) ∧ R2 c pb W0 B0) := ⟨by have h := h1.out; rw [hL0.out] at h; exact h, h2.out, HA0.out.2.2.trans h4.out⟩
  have hz0 : w.heap.size + 3 ≤ A0.heap.size := by have h5 := HA0.out.2.2.size; have h6 := HS0.out; omega
  have HO0_0 : Hid (Own (w.heap.size + 3) B0 (.slice a2 l2 k2) D1) := (Own.mono (by have h := h3.out; rw [hL0.out] at h; exact h) hz0)
  clear h1 h2 h3 h4 HA0 hL0
  go_wp2_with fail
  refine (HCT1.out B0 HB0.out.1).mono ?_
  rintro e A1 ⟨rfl, h1, h2⟩
  have HA1 : Hid (IsQ c s c1 A1 ∧ A1.heap[pb]? = some (.cells #[.string x0, .bool x1, .slice a2 l2 k2, .slice none 0 0, .slice none 0 0, .slice none 0 0] 27 (0, 0)) ∧ R2 c pb W0 A1) := ⟨h1, h2.block' (by omega) HB0.out.2.1, HB0.out.2.2.rp h2⟩
  have HX1_0 : Hid (Own (w.heap.size + 3) A1 (.slice a2 l2 k2) D1) := h2.row HO0_0.out (by have := HCC.out; omega)
  clear h1 h2 HCT1 HB0
  go_upto_block 2 with fail
  refine Sv.loop_c A1 s c pb M1 c1 (.string x0) (.bool x1) (.slice a2 l2 k2) (.slice none 0 0) (.slice none 0 0) hsz hM1 HA1.out.1 hcp HA1.out.2.1 _ ?_
  intro y9 y10 y61 y62 y63 y64 y65 y66 y67 y68 y69 y70 y71 y72 y73 y74 y75 y76 y77 y78 y79 y80 y81 y82 y83 y84 y85 y86 y87 y88 y89 y90 y91 y92 y93 y94 y95 y96 y97 y98 y99 y100 y101 y102 y103 y104 y105 a3 l3 k3 B1 h1 h2 h3 h4
  have HB1 : Hid (IsQ c s o4 B1 ∧ B1.heap[pb]? = some (.cells #[.string x0, .bool x1, .slice a2 l2 k2, .slice a3 l3 k3, .slice none 0 0, .slice none 0 0] 27 (0, 0)) ∧ R2 c pb W0 B1) := ⟨by have h := h1.out; rw [hL1.out] at h; exact h, h2.out, HA1.out.2.2.trans h4.out⟩
  have hz1 : w.heap.size + 3 ≤ A1.heap.size := by have h5 := HA1.out.2.2.size; have h6 := HS0.out; omega
  have HO1_1 : Hid (Sv.Own (w.heap.size + 3) B1 (.slice a3 l3 k3) D2) := (Sv.Own.mono (by have h := h3.out; rw [hL1.out] at h; exact h) hz1)
  have HO1_0 : Hid (Own (w.heap.size + 3) B1 (.slice a2 l2 k2) D1) := h4.out.row HX1_0.out (by have := HCC.out; omega) (by have := HCC.out; omega)
  clear h1 h2 h3 h4 HA1 hL1
  go_wp2_with fail
  refine (HCT2.out B1 HB1.out.1).mono ?_
  rintro e A2 ⟨rfl, h1, h2⟩
  have HA2 : Hid (IsQ c s c2 A2 ∧ A2.heap[pb]? = some (.cells #[.string x0, .bool x1, .slice a2 l2 k2, .slice a3 l3 k3, .slice none 0 0, .slice none 0 0] 27 (0, 0)) ∧ R2 c pb W0 A2) := ⟨h1, h2.block' (by omega) HB1.out.2.1, HB1.out.2.2.rp h2⟩
  have HX2_0 : Hid (Own (w.heap.size + 3) A2 (.slice a2 l2 k2) D1) := h2.row HO1_0.out (by have := HCC.out; omega)
  have HX2_1 : Hid (Sv.Own (w.heap.size + 3) A2 (.slice a3 l3 k3) D2) := h2.row HO1_1.out (by have := HCC.out; omega)
  clear h1 h2 HCT2 HB1
  go_upto_block 4 with fail
  refine Gw.loop_c A2 s c pb M2 c2 (.string x0) (.bool x1) (.slice a2 l2 k2) (.slice a3 l3 k3) (.slice none 0 0) hsz hM2 HA2.out.1 hcp HA2.out.2.1 _ ?_
  intro y11 y12 y108 y109 y110 y111 y112 y113 y114 y115 y116 y117 y118 y119 y120 y121 y122 y123 y124 y125 y126 y127 y128 y129 y130 y131 y132 y133 y134 a4 l4 k4 B2 h1 h2 h3 h4
  have HB2 : Hid (IsQ c s o5 B2 ∧ B2.heap[pb]? = some (.cells #[.string x0, .bool x1, .slice a2 l2 k2, .slice a3 l3 k3, .slice a4 l4 k4, .slice none 0 0] 27 (0, 0)) ∧ R2 c pb W0 B2) := ⟨by have h := h1.out; rw [hL2.out] at h; exact h, h2.out, HA2.out.2.2.trans h4.out⟩
  have hz2 : w.heap.size + 3 ≤ A2.heap.size := by have h5 := HA2.out.2.2.size; have h6 := HS0.out; omega
  have HO2_2 : Hid (Gw.Own (w.heap.size + 3) B2 (.slice a4 l4 k4) D3) := (Gw.Own.mono (by have h := h3.out; rw [hL2.out] at h; exact h) hz2)
  have HO2_0 : Hid (Own (w.heap.size + 3) B2 (.slice a2 l2 k2) D1) := h4.out.row HX2_0.out (by have := HCC.out; omega) (by have := HCC.out; omega)
  have HO2_1 : Hid (Sv.Own (w.heap.size + 3) B2 (.slice a3 l3 k3) D2) := h4.out.row HX2_1.out (by have := HCC.out; omega) (by have := HCC.out; omega)
  clear h1 h2 h3 h4 HA2 hL2
  go_wp2_with fail
  refine (HCT3.out B2 HB2.out.1).mono ?_
  rintro e A3 ⟨rfl, h1, h2⟩
  have HA3 : Hid (IsQ c s c3 A3 ∧ A3.heap[pb]? = some (.cells #[.string x0, .bool x1, .slice a2 l2 k2, .slice a3 l3 k3, .slice a4 l4 k4, .slice none 0 0] 27 (0, 0)) ∧ R2 c pb W0 A3) := ⟨h1, h2.block' (by omega) HB2.out.2.1, HB2.out.2.2.rp h2⟩
  have HX3_0 : Hid (Own (w.heap.size + 3) A3 (.slice a2 l2 k2) D1) := h2.row HO2_0.out (by have := HCC.out; omega)
  have HX3_1 : Hid (Sv.Own (w.heap.size + 3) A3 (.slice a3 l3 k3) D2) := h2.row HO2_1.out (by have := HCC.out; omega)
  have HX3_2 : Hid (Gw.Own (w.heap.size + 3) A3 (.slice a4 l4 k4) D3) := h2.row HO2_2.out (by have := HCC.out; omega)
  clear h1 h2 HCT3 HB2
  go_upto_block 6 with fail
  refine Wh.loop_c A3 s c pb M3 c3 (.string x0) (.bool x1) (.slice a2 l2 k2) (.slice a3 l3 k3) (.slice a4 l4 k4) hsz hM3 HA3.out.1 hcp HA3.out.2.1 _ ?_
  intro y13 y14 y137 y138 y139 y140 y141 y142 y143 y144 y145 y146 y147 y148 y149 y150 y151 y152 y153 y154 y155 y156 y157 y158 y159 y160 y161 y162 y163 y164 y165 y166 y167 y168 y169 y170 y171 y172 y173 y174 y175 y176 y177 a5 l5 k5 B3 h1 h2 h3 h4
  have HB3 : Hid (IsQ c s o6 B3 ∧ B3.heap[pb]? = some (.cells #[.string x0, .bool x1, .slice a2 l2 k2, .slice a3 l3 k3, .slice a4 l4 k4, .slice a5 l5 k5] 27 (0, 0)) ∧ R2 c pb W0 B3) := ⟨by have h := h1.out; rw [hL3.out] at h; exact h, h2.out, HA3.out.2.2.trans h4.out⟩
  have hz3 : w.heap.size + 3 ≤ A3.heap.size := by have h5 := HA3.out.2.2.size; have h6 := HS0.out; omega
  have HO3_3 : Hid (Wh.Own (w.heap.size + 3) B3 (.slice a5 l5 k5) D4) := (Wh.Own.mono (by have h := h3.out; rw [hL3.out] at h; exact h) hz3)
  have HO3_0 : Hid (Own (w.heap.size + 3) B3 (.slice a2 l2 k2) D1) := h4.out.row HX3_0.out (by have := HCC.out; omega) (by have := HCC.out; omega)
  have HO3_1 : Hid (Sv.Own (w.heap.size + 3) B3 (.slice a3 l3 k3) D2) := h4.out.row HX3_1.out (by have := HCC.out; omega) (by have := HCC.out; omega)
  have HO3_2 : Hid (Gw.Own (w.heap.size + 3) B3 (.slice a4 l4 k4) D3) := h4.out.row HX3_2.out (by have := HCC.out; omega) (by have := HCC.out; omega)
  clear h1 h2 h3 h4 HA3 hL3
  go_upto_region 52 with fail
  obtain ⟨a, ha, hl, hq⟩ := HB3.out.1
  obtain ⟨y0, y1, y2⟩ := cells3 hq
  clear hq
  cases o6 with
  | none =>
    have y2' : B3.cell? ⟨c, 2, none⟩ = some (.bool true) := y2
    clear y2 hl
    have hkr := (HRB.out B3 HB3.out.2.2).1
    have hbw := (HRB.out B3 HB3.out.2.2).2
    obtain ⟨WE, hWE⟩ : ∃ WE, WE = setAll w.heap.size [.string ⟨#[]⟩, .bool false, .slice none 0 0, .slice none 0 0, .slice none 0 0, .slice none 0 0] 0 B3 := ⟨_, rfl⟩
    have hke : WE.heap[w.heap.size]? = some (.cells #[.string ⟨#[]⟩, .bool false, .slice none 0 0, .slice none 0 0, .slice none 0 0, .slice none 0 0] 27 (0, 0)) := by rw [hWE]; exact setAll6 hkr _ _ _ _ _ _
    have HRES : Hid (ReadSays w RR (.returned (.tuple #[.agg #[.string ⟨#[]⟩, .bool false, .slice none 0 0, .slice none 0 0, .slice none 0 0, .slice none 0 0], .int .i64 1])) WE) := ⟨by rw [hWE]; exact setAll_below (Nat.le_refl _) _ _ hbw, .inr ⟨HRR.out.trans (if_neg (fun h => by cases h.1)), rfl⟩⟩
    obtain ⟨b0, b1, b2, b3, b4, b5⟩ := cells6 hkr
    obtain ⟨z0, z1, z2, z3, z4, z5⟩ := free6 hkr
    obtain ⟨g0, g1, g2, g3, g4, g5⟩ := cells6 hke
    clear hkr hbw hke
    go_wp2_with fail
    simp only [setAll, Nat.zero_add, Nat.reduceAdd] at hWE
    rw [← hWE]
    clear hWE b0 b1 b2 b3 b4 b5 z0 z1 z2 z3 z4 z5
    exact bodyPost_ret (v := .tuple #[.agg #[.string ⟨#[]⟩, .bool false, .slice none 0 0, .slice none 0 0, .slice none 0 0, .slice none 0 0], .int .i64 1]) (by simp [results, Tryz.results13, go_sem, g0, g1, g2, g3, g4, g5]) rfl HRES.out

  | some r =>
    have y2' : B3.cell? ⟨c, 2, none⟩ = some (.bool false) := y2
    clear y2
    have hdr := hl r rfl
    clear hl
    cases r with
    | cons x rs =>
      have hne : a ≠ s.size := fun h => by rw [h, drop_end (Nat.le_refl _)] at hdr; cases hdr
      have hd : ((a : Int) != (s.size : Int)) = true := by simp; omega
      clear hne hdr
      have hkr := (HRB.out B3 HB3.out.2.2).1
      have hbw := (HRB.out B3 HB3.out.2.2).2
      obtain ⟨WE, hWE⟩ : ∃ WE, WE = setAll w.heap.size [.string ⟨#[]⟩, .bool false, .slice none 0 0, .slice none 0 0, .slice none 0 0, .slice none 0 0] 0 B3 := ⟨_, rfl⟩
      have hke : WE.heap[w.heap.size]? = some (.cells #[.string ⟨#[]⟩, .bool false, .slice none 0 0, .slice none 0 0, .slice none 0 0, .slice none 0 0] 27 (0, 0)) := by rw [hWE]; exact setAll6 hkr _ _ _ _ _ _
      have HRES : Hid (ReadSays w RR (.returned (.tuple #[.agg #[.string ⟨#[]⟩, .bool false, .slice none 0 0, .slice none 0 0, .slice none 0 0, .slice none 0 0], .int .i64 1])) WE) := ⟨by rw [hWE]; exact setAll_below (Nat.le_refl _) _ _ hbw, .inr ⟨HRR.out.trans (if_neg (fun h => by have h1 := h.1; simp at h1)), rfl⟩⟩
      obtain ⟨b0, b1, b2, b3, b4, b5⟩ := cells6 hkr
      obtain ⟨z0, z1, z2, z3, z4, z5⟩ := free6 hkr
      obtain ⟨g0, g1, g2, g3, g4, g5⟩ := cells6 hke
      clear hkr hbw hke
      go_wp2_with fail
      simp only [setAll, Nat.zero_add, Nat.reduceAdd] at hWE
      rw [← hWE]
      clear hWE b0 b1 b2 b3 b4 b5 z0 z1 z2 z3 z4 z5
      exact bodyPost_ret (v := .tuple #[.agg #[.string ⟨#[]⟩, .bool false, .slice none 0 0, .slice none 0 0, .slice none 0 0, .slice none 0 0], .int .i64 1]) (by simp [results, Tryz.results13, go_sem, g0, g1, g2, g3, g4, g5]) rfl HRES.out

    | nil =>
      have hea : a = s.size := by
        have h1 := congrArg List.length hdr
        rw [List.length_drop] at h1
        have h2 : s.data.toList.length = s.size := rfl
        simp only [List.length_nil] at h1
        omega
      have hd : ((a : Int) != (s.size : Int)) = false := by simp [hea]
      obtain ⟨i0, i1, i2, i3, i4⟩ := HIN.out [] rfl
      have his : PkIs B3 (Pk.mk x0 x1 D1 D2 D3 D4) (.slice a2 l2 k2) (.slice a3 l3 k3) (.slice a4 l4 k4) (.slice a5 l5 k5) := ⟨own_names HO3_0.out i1, Sv.own_names HO3_1.out i2, Gw.own_names HO3_2.out i3, Wh.own_names HO3_3.out i4, i0, roomy_own HO3_0.out⟩
      have HCK : Hid (Calls Tryz.prog 7 #[.agg #[.string x0, .bool x1, .slice a2 l2 k2, .slice a3 l3 k3, .slice a4 l4 k4, .slice a5 l5 k5]] B3 fun e w' => e = .returned (.int .i64 (Pk.mk x0 x1 D1 D2 D3 D4).e) ∧ Below B3.heap.size B3 w') := refPacket_any _ _ _ _ _ B3 his
      have HPO : Hid (PkOwn (w.heap.size + 3) B3 (Pk.mk x0 x1 D1 D2 D3 D4) (.slice a2 l2 k2) (.slice a3 l3 k3) (.slice a4 l4 k4) (.slice a5 l5 k5)) := ⟨HO3_0.out, HO3_1.out, HO3_2.out, HO3_3.out⟩
      have HR3 : Hid (RR = if (Pk.mk x0 x1 D1 D2 D3 D4).e = 0 then some ⟨x0, x1, D1, D2, D3, D4⟩ else none) := by
        show _ = _
        rw [HRR.out]; simp
      clear HRR HIN i0 i1 i2 i3 i4 his HO3_0 HO3_1 HO3_2 HO3_3 hdr hea
      obtain ⟨f0, f1, f2, f3, f4, f5⟩ := cells6 HB3.out.2.1
      generalize hpe : (Pk.mk x0 x1 D1 D2 D3 D4).e = pe at *
      clear hpe
      go_wp2_with fail
      refine HCK.out.mono ?_
      rintro e w7 ⟨rfl, hb7⟩
      have HP7 : Hid (w7.heap[pb]? = some (.cells #[.string x0, .bool x1, .slice a2 l2 k2, .slice a3 l3 k3, .slice a4 l4 k4, .slice a5 l5 k5] 27 (0, 0)) ∧ w7.heap[w.heap.size]? = some (.cells #[.string ⟨#[]⟩, .bool false, .slice none 0 0, .slice none 0 0, .slice none 0 0, .slice none 0 0] 27 (0, 0)) ∧ Below w.heap.size w w7) := ⟨(hb7.block pb (Array.getElem?_eq_some_iff.1 HB3.out.2.1).1).trans HB3.out.2.1, (hb7.block _ (Array.getElem?_eq_some_iff.1 (HRB.out B3 HB3.out.2.2).1).1).trans (HRB.out B3 HB3.out.2.2).1, (HRB.out B3 HB3.out.2.2).2.trans (hb7.mono (HRB.out B3 HB3.out.2.2).2.size)⟩
      have HPO7 : Hid (PkOwn (w.heap.size + 3) w7 (Pk.mk x0 x1 D1 D2 D3 D4) (.slice a2 l2 k2) (.slice a3 l3 k3) (.slice a4 l4 k4) (.slice a5 l5 k5)) := HPO.out.keep (fun b _ hb => hb7.block b hb)
      clear hb7 HPO f0 f1 f2 f3 f4 f5 y0 y1 y2' hd
      by_cases h0 : pe = 0
      · subst h0
        have HR4 : Hid (RR = some ⟨x0, x1, D1, D2, D3, D4⟩) := HR3.out.trans (if_pos rfl)
        clear HR3
        obtain ⟨WE, hWE⟩ : ∃ WE, WE = setAll w.heap.size [.string x0, .bool x1, .slice a2 l2 k2, .slice a3 l3 k3, .slice a4 l4 k4, .slice a5 l5 k5] 0 w7 := ⟨_, rfl⟩
        have hke : WE.heap[w.heap.size]? = some (.cells #[.string x0, .bool x1, .slice a2 l2 k2, .slice a3 l3 k3, .slice a4 l4 k4, .slice a5 l5 k5] 27 (0, 0)) := by rw [hWE]; exact setAll6 HP7.out.2.1 _ _ _ _ _ _
        have HRES : Hid (ReadSays w RR (.returned (.tuple #[.agg #[.string x0, .bool x1, .slice a2 l2 k2, .slice a3 l3 k3, .slice a4 l4 k4, .slice a5 l5 k5], .int .i64 0])) WE) := ⟨by rw [hWE]; exact setAll_below (Nat.le_refl _) _ _ HP7.out.2.2, .inl ⟨_, _, _, _, _, HR4.out, rfl, (HPO7.out.keep (fun b hb _ => by rw [hWE]; exact setAll_other (by omega) _ _ _)).mono (by omega)⟩⟩
        obtain ⟨b0, b1, b2, b3, b4, b5⟩ := cells6 HP7.out.2.1
        obtain ⟨z0, z1, z2, z3, z4, z5⟩ := free6 HP7.out.2.1
        obtain ⟨f0, f1, f2, f3, f4, f5⟩ := cells6 HP7.out.1
        obtain ⟨g0, g1, g2, g3, g4, g5⟩ := cells6 hke
        clear hke
        go_wp2_with fail
        simp only [setAll, Nat.zero_add, Nat.reduceAdd] at hWE
        rw [← hWE]
        clear hWE b0 b1 b2 b3 b4 b5 z0 z1 z2 z3 z4 z5 f0 f1 f2 f3 f4 f5
        exact bodyPost_ret (v := .tuple #[.agg #[.string x0, .bool x1, .slice a2 l2 k2, .slice a3 l3 k3, .slice a4 l4 k4, .slice a5 l5 k5], .int .i64 0]) (by simp [results, Tryz.results13, go_sem, g0, g1, g2, g3, g4, g5]) rfl HRES.out
      · have hd0 : (pe == 0) = false := by simpa using h0
        have hd1 : (pe != 0) = true := by simpa using h0
        have HR4 : Hid (RR = none) := HR3.out.trans (if_neg h0)
        clear HR3 h0
        have hkr := (HP7.out.2).1
        have hbw := (HP7.out.2).2
        obtain ⟨WE, hWE⟩ : ∃ WE, WE = setAll w.heap.size [.string ⟨#[]⟩, .bool false, .slice none 0 0, .slice none 0 0, .slice none 0 0, .slice none 0 0] 0 w7 := ⟨_, rfl⟩
        have hke : WE.heap[w.heap.size]? = some (.cells #[.string ⟨#[]⟩, .bool false, .slice none 0 0, .slice none 0 0, .slice none 0 0, .slice none 0 0] 27 (0, 0)) := by rw [hWE]; exact setAll6 hkr _ _ _ _ _ _
        have HRES : Hid (ReadSays w RR (.returned (.tuple #[.agg #[.string ⟨#[]⟩, .bool false, .slice none 0 0, .slice none 0 0, .slice none 0 0, .slice none 0 0], .int .i64 1])) WE) := ⟨by rw [hWE]; exact setAll_below (Nat.le_refl _) _ _ hbw, .inr ⟨HR4.out, rfl⟩⟩
        obtain ⟨b0, b1, b2, b3, b4, b5⟩ := cells6 hkr
        obtain ⟨z0, z1, z2, z3, z4, z5⟩ := free6 hkr
        obtain ⟨g0, g1, g2, g3, g4, g5⟩ := cells6 hke
        clear hkr hbw hke
        go_wp2_with fail
        simp only [setAll, Nat.zero_add, Nat.reduceAdd] at hWE
        rw [← hWE]
        clear hWE b0 b1 b2 b3 b4 b5 z0 z1 z2 z3 z4 z5
        exact bodyPost_ret (v := .tuple #[.agg #[.string ⟨#[]⟩, .bool false, .slice none 0 0, .slice none 0 0, .slice none 0 0, .slice none 0 0], .int .i64 1]) (by simp [results, Tryz.results13, go_sem, g0, g1, g2, g3, g4, g5]) rfl HRES.out


set_option maxHeartbeats 6400000 in
set_option maxRecDepth 100000 in
theorem packetReads_walk (l : List UInt8) (w : World) (hV : Rv w.heap.size w) (hs : l.length ≤ 16777216) :
    Calls Tryz.prog 4 #[.string (bstr l)] w fun e w' => e = .returned (.bool true) ∧ Below w.heap.size w w' := by
  obtain ⟨er, C, HRD, HPO, HBG, HSM⟩ : ∃ (er : Int) (C : Pk), Hid (Calls Tryz.prog 12 #[.string (bstr l)] w fun e w' => ∃ a2 l2 c2 a3 l3 c3 a4 l4 c4 a5 l5 c5, e = .returned (.tuple #[.agg #[.string C.frm, .bool C.whole, .slice a2 l2 c2, .slice a3 l3 c3, .slice a4 l4 c4, .slice a5 l5 c5], .int .i64 er]) ∧ PkOwn w.heap.size w' C (.slice a2 l2 c2) (.slice a3 l3 c3) (.slice a4 l4 c4) (.slice a5 l5 c5) ∧ Below w.heap.size w w')
      ∧ Hid (∀ W, Below w.heap.size w W → Calls Tryz.prog 13 #[.string (bstr l)] W fun e w' => ∃ a2 l2 c2 a3 l3 c3 a4 l4 c4 a5 l5 c5, e = .returned (.tuple #[.agg #[.string C.frm, .bool C.whole, .slice a2 l2 c2, .slice a3 l3 c3, .slice a4 l4 c4, .slice a5 l5 c5], .int .i64 er]) ∧ PkOwn W.heap.size w' C (.slice a2 l2 c2) (.slice a3 l3 c3) (.slice a4 l4 c4) (.slice a5 l5 c5) ∧ Below W.heap.size W w')
      ∧ Hid (∀ W, Below w.heap.size w W → Calls Tryz.prog 9 #[] W fun e w' => e = .returned (.bool true) ∧ Below W.heap.size W w')
      ∧ Hid (∀ W b1 b2 a2 l2 c2 a3 l3 c3 a4 l4 c4 a5 l5 c5 d2 m2 n2 d3 m3 n3 d4 m4 n4 d5 m5 n5, PkOwn b1 W C (.slice a2 l2 c2) (.slice a3 l3 c3) (.slice a4 l4 c4) (.slice a5 l5 c5) → PkOwn b2 W C (.slice d2 m2 n2) (.slice d3 m3 n3) (.slice d4 m4 n4) (.slice d5 m5 n5) → Calls Tryz.prog 14 #[.agg #[.string C.frm, .bool C.whole, .slice a2 l2 c2, .slice a3 l3 c3, .slice a4 l4 c4, .slice a5 l5 c5], .agg #[.string C.frm, .bool C.whole, .slice d2 m2 n2, .slice d3 m3 n3, .slice d4 m4 n4, .slice d5 m5 n5]] W fun e w' => e = .returned (.bool true) ∧ Below W.heap.size W w') := by
    have hnil : ∀ (b : Nat) (W : World), PkOwn b W pk0 (.slice none 0 0) (.slice none 0 0) (.slice none 0 0) (.slice none 0 0) := fun b W => ⟨own_nil _ _, Sv.own_nil _ _, Gw.own_nil _ _, Wh.own_nil _ _⟩
    have hw0 : pk0.Wok := ⟨by decide, ⟨by decide, fun m hm => by cases hm⟩, ⟨by decide, fun m hm => by cases hm⟩, ⟨by decide, fun m hm => by cases hm⟩, ⟨by decide, fun m hm => by cases hm⟩⟩
    have say : ∀ {W w' : World} {e : Ending}, ReadSays W (rdR l) e w' → ∃ a2 l2 c2 a3 l3 c3 a4 l4 c4 a5 l5 c5, e = .returned (.tuple #[.agg #[.string ((rdR l).getD pk0).frm, .bool ((rdR l).getD pk0).whole, .slice a2 l2 c2, .slice a3 l3 c3, .slice a4 l4 c4, .slice a5 l5 c5], .int .i64 (if (rdR l).isSome = true then 0 else 1)]) ∧ PkOwn W.heap.size w' ((rdR l).getD pk0) (.slice a2 l2 c2) (.slice a3 l3 c3) (.slice a4 l4 c4) (.slice a5 l5 c5) ∧ Below W.heap.size W w' := by
      rintro W w' e ⟨hb, ⟨p, vm, vs, vg, vw, hp, rfl, ho⟩ | ⟨hp, rfl⟩⟩
      · rw [hp]
        obtain ⟨a2, l2, c2, rfl⟩ := slice_of_row ho.ms
        obtain ⟨a3, l3, c3, rfl⟩ := slice_of_row ho.sv
        obtain ⟨a4, l4, c4, rfl⟩ := slice_of_row ho.gw
        obtain ⟨a5, l5, c5, rfl⟩ := slice_of_row ho.wh
        exact ⟨_, _, _, _, _, _, _, _, _, _, _, _, rfl, ho, hb⟩
      · rw [hp]
        exact ⟨_, _, _, _, _, _, _, _, _, _, _, _, rfl, hnil _ _, hb⟩
    have hwk : ((rdR l).getD pk0).Wok := by
      cases hr : rdR l with
      | none => exact hw0
      | some p => exact pk_wok (rdR_some.1 hr).2
    refine ⟨_, (rdR l).getD pk0, (pread_b hV hs).mono (fun e w' h => say h), fun W hW => (pof_any l W hs).mono (fun e w' h => say h), fun W hW => packetBegun_any (hV.after hW), fun W b1 b2 a2 l2 c2 a3 l3 c3 a4 l4 c4 a5 l5 c5 d2 m2 n2 d3 m3 n3 d4 m4 n4 d5 m5 n5 h1 h2 => samePacket_any _ _ _ W (h1.is hwk).isPk (h2.is hwk).isPk hwk.small⟩
  clear hV hs
  generalize bstr l = S at *
  obtain ⟨frm, whole, ms, sv, gw, wh⟩ := C
  simp only at HRD HPO HSM ⊢
  go_enter Tryz.func4, Tryz.ntmps4
  go_wp2_with fail
  refine HRD.out.mono ?_
  rintro e w1 ⟨a2, l2, c2, a3, l3, c3, a4, l4, c4, a5, l5, c5, rfl, ho1, hb1⟩
  obtain ⟨w2, hw2⟩ : ∃ w2, w2 = w1.alloc (.cells #[.string frm, .bool whole, .slice a2 l2 c2, .slice a3 l3 c3, .slice a4 l4 c4, .slice a5 l5 c5] 27) := ⟨_, rfl⟩
  have hb2 : Below w1.heap.size w1 w2 := by rw [hw2]; exact (Below.refl _ _).alloc (Nat.le_refl _) _
  have HB2 : Hid (Below w.heap.size w w2) := hb1.trans (hb2.mono hb1.size)
  have HX2 : Hid (w2.heap[w1.heap.size]? = some (.cells #[.string frm, .bool whole, .slice a2 l2 c2, .slice a3 l3 c3, .slice a4 l4 c4, .slice a5 l5 c5] 27 (0, 0))) := by rw [hw2]; exact heap_alloc_new w1 _
  have HO2 : Hid (PkOwn w.heap.size w2 ⟨frm, whole, ms, sv, gw, wh⟩ (.slice a2 l2 c2) (.slice a3 l3 c3) (.slice a4 l4 c4) (.slice a5 l5 c5)) := ho1.keep (fun b _ hb => hb2.block b hb)
  clear ho1 hb1 hb2 HRD
  go_upto_region 2 with fail
  rw [← hw2]
  clear hw2
  go_wp2_with fail
  refine (HPO.out w2 HB2.out).mono ?_
  rintro e w3 ⟨d2, m2, n2, d3, m3, n3, d4, m4, n4, d5, m5, n5, rfl, ho3, hb3⟩
  obtain ⟨w4, hw4⟩ : ∃ w4, w4 = w3.alloc (.cells #[.string frm, .bool whole, .slice d2 m2 n2, .slice d3 m3 n3, .slice d4 m4 n4, .slice d5 m5 n5] 27) := ⟨_, rfl⟩
  have hb4 : Below w3.heap.size w3 w4 := by rw [hw4]; exact (Below.refl _ _).alloc (Nat.le_refl _) _
  have hb24 : Below w2.heap.size w2 w4 := hb3.trans (hb4.mono hb3.size)
  have HB4 : Hid (Below w.heap.size w w4) := HB2.out.trans (hb24.mono HB2.out.size)
  have HX4 : Hid (w4.heap[w1.heap.size]? = some (.cells #[.string frm, .bool whole, .slice a2 l2 c2, .slice a3 l3 c3, .slice a4 l4 c4, .slice a5 l5 c5] 27 (0, 0)) ∧ w4.heap[w3.heap.size]? = some (.cells #[.string frm, .bool whole, .slice d2 m2 n2, .slice d3 m3 n3, .slice d4 m4 n4, .slice d5 m5 n5] 27 (0, 0))) := ⟨(hb24.block _ (Array.getElem?_eq_some_iff.1 HX2.out).1).trans HX2.out, by rw [hw4]; exact heap_alloc_new w3 _⟩
  have HO4 : Hid (PkOwn w.heap.size w4 ⟨frm, whole, ms, sv, gw, wh⟩ (.slice a2 l2 c2) (.slice a3 l3 c3) (.slice a4 l4 c4) (.slice a5 l5 c5) ∧ PkOwn w2.heap.size w4 ⟨frm, whole, ms, sv, gw, wh⟩ (.slice d2 m2 n2) (.slice d3 m3 n3) (.slice d4 m4 n4) (.slice d5 m5 n5)) := ⟨HO2.out.keep (fun b _ hb => hb24.block b hb), ho3.keep (fun b _ hb => hb4.block b hb)⟩
  clear ho3 hb3 hb4 hb24 HPO HX2 HO2 HB2
  go_upto_region 3 with fail
  rw [← hw4]
  clear hw4
  go_wp2_with fail
  refine (HBG.out w4 HB4.out).mono ?_
  rintro e w5 ⟨rfl, hb5⟩
  have HB5 : Hid (Below w.heap.size w w5) := HB4.out.trans (hb5.mono HB4.out.size)
  have HSM5 : Hid (Calls Tryz.prog 14 #[.agg #[.string frm, .bool whole, .slice a2 l2 c2, .slice a3 l3 c3, .slice a4 l4 c4, .slice a5 l5 c5], .agg #[.string frm, .bool whole, .slice d2 m2 n2, .slice d3 m3 n3, .slice d4 m4 n4, .slice d5 m5 n5]] w5 fun e w' => e = .returned (.bool true) ∧ Below w5.heap.size w5 w') := HSM.out w5 _ _ _ _ _ _ _ _ _ _ _ _ _ _ _ _ _ _ _ _ _ _ _ _ _ _ (HO4.out.1.keep (fun b _ hb => hb5.block b hb)) (HO4.out.2.keep (fun b _ hb => hb5.block b hb))
  obtain ⟨f0, f1, f2, f3, f4, f5⟩ := cells6 ((hb5.block _ (Array.getElem?_eq_some_iff.1 HX4.out.1).1).trans HX4.out.1)
  obtain ⟨g0, g1, g2, g3, g4, g5⟩ := cells6 ((hb5.block _ (Array.getElem?_eq_some_iff.1 HX4.out.2).1).trans HX4.out.2)
  clear hb5 HSM HO4 HX4 HBG HB4
  go_wp2_with fail
  refine HSM5.out.mono ?_
  rintro e w6 ⟨rfl, hb6⟩
  have HB6 : Hid (Below w.heap.size w w6) := HB5.out.trans (hb6.mono HB5.out.size)
  clear hb6 f0 f1 f2 f3 f4 f5 g0 g1 g2 g3 g4 g5
  go_wp2_with fail
  go_ret
  exact ⟨by simp, HB6.out⟩

end Go.Proofs.YtdfkpehggecbaaaGreatDoor

