/- AN8, CI, AN9 -/
import Derived.Test.YtignmeaeibaejaaGreatV20
import Derived.Test.YtignmeaeibaejaaGreatV19
import Derived.Test.YtignmeaeibaejaaGreatV2
import Derived.WalkKit
import Derived.Deep.DeepCutAuto
import Derived.Deep.CutBlock
/- The document's MemberAt, by the first of a name; the document's check of what is known. -/
namespace Go.Proofs.YtignmeaeibaejaaGreat
open Go.RowKit

/-- The place of the first of a name; -1: it is none. -/
def AtF (ms : List Mem) (t : ByteArray) (r : Int) : Prop := (∃ k : Nat, k < ms.length ∧ r = k ∧ fstM ms t = some (ms.getD k dm)) ∨ (r = -1 ∧ fstM ms t = none)
set_option maxHeartbeats 800000 in
theorem memAt_any (ms : List Mem) (v : Value) (t : ByteArray) (w : World) (hv : Sl w v ms) (hn : ms.length ≤ 1000) :
    Calls Tryz.prog 9 #[v, .string t] w fun e w' => ∃ r : Int, e = .returned (.int .i64 r) ∧ Hid (AtF ms t r) ∧ w' = w := by
  obtain ⟨pa, ca, rfl, _, ha⟩ := hv
  have HA : Hid (ms = [] ∨ ∃ b off, pa = some ⟨b, off, none⟩ ∧ b < w.heap.size ∧ Row w b off ms) := ha
  clear ha
  generalize hna : ms.length = n at *
  have HN : Hid (ms.length = n) := hna
  clear hna
  go_enter Tryz.func9, Tryz.ntmps9
  go_wp2_with fail
  go_loop [5] (fun i => ∃ k : Nat, k ≤ n ∧ i = .int .i64 k ∧ Hid (∀ j, j < k → (ms.getD j dm).name ≠ t)) (fun i => n - (intOf i).toNat)
  case atStart => exact ⟨0, Nat.zero_le _, rfl, fun j h => absurd h (Nat.not_lt_zero _)⟩
  case round =>
    obtain ⟨k, hk, rfl, hz⟩ := hrel
    by_cases hlt : k < n
    · obtain ⟨b1, o1, hp1, hl1, hr1⟩ : ∃ b off, pa = some ⟨b, off, none⟩ ∧ b < w.heap.size ∧ Row w b off ms := by
        rcases HA.out with h | h
        · have := HN.out; rw [h] at this; simp at this; omega
        · exact h
      subst hp1
      obtain ⟨c0, _, _, _, _⟩ := hr1 k (by rw [HN.out]; exact hlt)
      clear hr1
      have HF : Hid ((ms.getD k dm).name = t → AtF ms t (k : Int)) := fun h => .inl ⟨k, by rw [HN.out]; exact hlt, rfl, fstM_some (by rw [HN.out]; exact hlt) hz.out h⟩
      have HZ : Hid ((ms.getD k dm).name ≠ t → ∀ j, j < k + 1 → (ms.getD j dm).name ≠ t) := fun h j hj => by
        rcases Nat.lt_succ_iff_lt_or_eq.1 hj with h2 | rfl
        · exact hz.out j h2
        · exact h
      generalize (ms.getD k dm).name = nm at *
      by_cases he : nm = t
      · subst he
        have HF2 : Hid (AtF ms nm (k : Int)) := HF.out rfl
        clear HF HZ
        go_wp2_with fail
        go_ret
        exact ⟨k, rfl, HF2, rfl⟩
      · obtain ⟨h1, h2⟩ := beq_name he
        have HE : Hid (nm ≠ t) := he
        clear he
        go_wp2_with fail
        go_round
        case rel => exact ⟨k + 1, by omega, by go_num, HZ.out HE.out⟩
        case measure => simp [intOf]; omega
    · go_wp2_with fail
      go_ret
      exact ⟨-1, rfl, .inr ⟨rfl, fstM_none fun j hj => hz.out j (by have := HN.out; omega)⟩, rfl⟩

/-- What the places are, behind k of them. -/
def plK (p : Pl) (wh : List Wh.Whe) (k : Nat) : Int := chkPs (p :: ((plcs wh).map toPl).take k)
theorem plK_zero (p : Pl) (wh : List Wh.Whe) : plK p wh 0 = chkP p := by
  unfold plK
  simp only [List.take_zero]
  rcases chkP_3 p with h | h
  · rw [h, chkPs_zero]
    intro j hj
    have : j = 0 := by simpa using hj
    subst this
    simpa using h
  · rw [h, chkPs_bad (k := 0) (by simp) (by simp [h])]
theorem plK_end (p : Pl) (wh : List Wh.Whe) {k : Nat} (h : wh.length ≤ k) : plK p wh k = chkPs (p :: (plcs wh).map toPl) := by
  unfold plK
  rw [List.take_of_length_le (by simpa [plcs] using h)]
set_option maxHeartbeats 12800000 in
set_option maxRecDepth 100000 in
theorem refKnown_any (here : ByteArray) (ps pm pw : Option Addr) (ns cs nm cm nw cw : Nat) (px py pz ph pq : Int) (sv : List Sv.Svc) (ms : List Mem) (wh : List Wh.Whe) (w : World) (hh : here.size ≤ maxLen) (hs : Sv.Sl w (.slice ps ns cs) sv) (hm : Sl w (.slice pm nm cm) ms) (hw : Wh.Sl w (.slice pw nw cw) wh) :
    Calls Tryz.prog 15 #[.string here, .slice ps ns cs, .slice pm nm cm, .agg #[.int .i64 px, .int .i64 py, .int .i64 pz, .int .i64 ph, .int .i64 pq], .slice pw nw cw] w fun e w' => e = .returned (.int .i64 (knE here sv ms ⟨px, py, pz, ph, pq⟩ wh)) ∧ Below w.heap.size w w' := by
  have HS : Hid (Sv.Sl w (.slice ps ns cs) sv) := hs
  have HM : Hid (Sl w (.slice pm nm cm) ms) := hm
  obtain ⟨pa', ca', he, _, ha⟩ := hw
  simp only [Value.slice.injEq] at he
  obtain ⟨rfl, hN, rfl⟩ := he
  have HA : Hid (wh = [] ∨ ∃ b off, pw = some ⟨b, off, none⟩ ∧ b < w.heap.size ∧ Wh.Row w b off wh) := ha
  have HN : Hid (wh.length = nw) := hN.symm
  have HK : Hid (knE here sv ms ⟨px, py, pz, ph, pq⟩ wh = if labB here = true then (if Sv.chk sv = 0 then (if chk ms = 0 then plE ⟨px, py, pz, ph, pq⟩ wh else chk ms) else Sv.chk sv) else 1) := rfl
  have HC1 : Hid (∀ W v, Sv.Sl W v sv → Calls Tryz.prog 29 #[v] W fun e w' => e = .returned (.int .i64 (Sv.chk sv)) ∧ Below W.heap.size W w') := fun W v h => Sv.refCheck_any sv v W h
  have HC2 : Hid (∀ W v, Sl W v ms → Calls Tryz.prog 30 #[v] W fun e w' => e = .returned (.int .i64 (chk ms)) ∧ Below W.heap.size W w') := fun W v h => checkMembers_any ms v W h
  have HC3 : Hid (∀ (p : Pl) W, Calls Tryz.prog 31 #[.agg #[.int .i64 p.x, .int .i64 p.y, .int .i64 p.z, .int .i64 p.h, .int .i64 p.s]] W fun e w' => e = .returned (.int .i64 (chkP p)) ∧ Below W.heap.size W w') := fun p W => (checkPlace_any p W).mono (by rintro e w' ⟨rfl, rfl⟩; exact ⟨rfl, (Below.refl _ _).alloc (Nat.le_refl _) _⟩)
  have HP2 : Hid (20 < nw → plE ⟨px, py, pz, ph, pq⟩ wh = 2) := fun h => plE_many (by rw [HN.out]; exact h)
  have HP1 : Hid (¬ 20 < nw → plE ⟨px, py, pz, ph, pq⟩ wh = plK ⟨px, py, pz, ph, pq⟩ wh nw) := fun h => by rw [plE_few (by rw [HN.out]; exact h), plK_end _ _ (by rw [HN.out]; exact Nat.le_refl _)]
  have HP0 : Hid (plK ⟨px, py, pz, ph, pq⟩ wh 0 = chkP ⟨px, py, pz, ph, pq⟩) := plK_zero _ _
  have HPS : Hid (∀ k, k < nw → plK ⟨px, py, pz, ph, pq⟩ wh k = 0 → plK ⟨px, py, pz, ph, pq⟩ wh (k + 1) = chkP (toPl (plc (wh.getD k Wh.dm)))) := fun k hk h => chkPs_step _ wh k (by rw [HN.out]; exact hk) h
  have HPE : Hid (∀ k, plK ⟨px, py, pz, ph, pq⟩ wh k ≠ 0 → plK ⟨px, py, pz, ph, pq⟩ wh nw = plK ⟨px, py, pz, ph, pq⟩ wh k) := fun k h => by
    obtain ⟨h1, h2⟩ := chkPs_early ⟨px, py, pz, ph, pq⟩ wh k h
    rw [plK_end _ _ (by rw [HN.out]; exact Nat.le_refl _), h1]
    exact h2.symm
  clear hs hm ha hN
  generalize knE here sv ms ⟨px, py, pz, ph, pq⟩ wh = res at *
  generalize plE ⟨px, py, pz, ph, pq⟩ wh = pe at *
  generalize Sv.chk sv = ce at *
  generalize chk ms = me at *
  have hbl : ∀ W, Calls Tryz.prog 28 #[.string here] W fun e w' => e = .returned (.bool (labB here)) ∧ w' = W := fun W => isLabel_any here W hh
  rcases hl : labB here with _ | _
  · have HR : Hid (res = 1) := HK.out.trans (by rw [hl]; rfl)
    rw [hl] at hbl
    go_enter Tryz.func15, Tryz.ntmps15
    go_wp2_with fail
    refine (hbl _).mono ?_
    rintro e w' ⟨rfl, rfl⟩
    go_wp2_with fail
    go_ret
    exact ⟨ret_int HR.out.symm, (Below.refl _ _).alloc (Nat.le_refl _) _⟩
  · have HK2 : Hid (res = if ce = 0 then (if me = 0 then pe else me) else ce) := HK.out.trans (by rw [hl]; rfl)
    rw [hl] at hbl
    clear HK
    go_enter Tryz.func15, Tryz.ntmps15
    go_wp2_with fail
    refine (hbl _).mono ?_
    rintro e w' ⟨rfl, rfl⟩
    have hb0 : Below w.heap.size w (w.alloc (.cells #[.int .i64 px, .int .i64 py, .int .i64 pz, .int .i64 ph, .int .i64 pq] 27)) := (Below.refl _ _).alloc (Nat.le_refl _) _
    go_wp2_with fail
    refine (HC1.out _ _ (HS.out.below hb0)).mono ?_
    rintro e w1 ⟨rfl, hb1⟩
    have HB1 : Hid (Below w.heap.size w w1) := hb0.trans (hb1.mono (by simp))
    have HG1 : Hid (w1.heap[w.heap.size]? = some (.cells #[.int .i64 px, .int .i64 py, .int .i64 pz, .int .i64 ph, .int .i64 pq] 27 (0, 0))) := (hb1.block _ (by simp)).trans (heap_alloc_new w _)
    have hlt1 : w.heap.size < w1.heap.size := (Array.getElem?_eq_some_iff.1 HG1.out).1
    clear hb0 hb1
    by_cases h1 : ce = 0
    · have HK3 : Hid (res = if me = 0 then pe else me) := HK2.out.trans (if_pos h1)
      clear HK2
      subst h1
      go_wp2_with fail
      refine (HC2.out _ _ (HM.out.below HB1.out)).mono ?_
      rintro e w2 ⟨rfl, hb2⟩
      have HB2 : Hid (Below w.heap.size w w2) := HB1.out.trans (hb2.mono (by omega))
      have hg : w2.heap[w.heap.size]? = some (.cells #[.int .i64 px, .int .i64 py, .int .i64 pz, .int .i64 ph, .int .i64 pq] 27 (0, 0)) := (hb2.block _ (by omega)).trans HG1.out
      have d0 : w2.cell? ⟨w.heap.size, 0, none⟩ = some (.int .i64 px) := cellsAt hg 0
      have d1 : w2.cell? ⟨w.heap.size, 1, none⟩ = some (.int .i64 py) := cellsAt hg 1
      have d2 : w2.cell? ⟨w.heap.size, 2, none⟩ = some (.int .i64 pz) := cellsAt hg 2
      have d3 : w2.cell? ⟨w.heap.size, 3, none⟩ = some (.int .i64 ph) := cellsAt hg 3
      have d4 : w2.cell? ⟨w.heap.size, 4, none⟩ = some (.int .i64 pq) := cellsAt hg 4
      have hlt2 : w.heap.size < w2.heap.size := (Array.getElem?_eq_some_iff.1 hg).1
      clear hb2 hg HG1
      by_cases h2 : me = 0
      · have HK4 : Hid (res = pe) := HK3.out.trans (if_pos h2)
        subst h2
        clear HK3
        by_cases h3 : 20 < nw
        · have HR : Hid (res = 2) := HK4.out.trans (HP2.out h3)
          go_wp2_with fail
          go_loopw [11, 12] (fun e i wr => e = .int .i64 2 ∧ i = .int .i64 0 ∧ wr = w2) (fun _ _ _ => 0)
          case atStart => exact ⟨rfl, rfl, rfl⟩
          case round =>
            obtain ⟨rfl, rfl, rfl⟩ := hrel
            have h4 : ((0 : Int) < (nw : Int)) := by omega
            go_wp2_with fail
            go_ret
            exact ⟨ret_int HR.out.symm, HB2.out⟩
        · have HR : Hid (res = plK ⟨px, py, pz, ph, pq⟩ wh nw) := HK4.out.trans (HP1.out h3)
          go_wp2_with fail
          refine (HC3.out ⟨px, py, pz, ph, pq⟩ _).mono ?_
          rintro e w3 ⟨rfl, hb3⟩
          have HB3 : Hid (Below w.heap.size w w3) := HB2.out.trans (hb3.mono (by omega))
          rw [← HP0.out]
          clear hb3 d0 d1 d2 d3 d4 HK4 HP1 HP2 HP0
          generalize hpk : plK ⟨px, py, pz, ph, pq⟩ wh = pk at *
          clear hpk
          go_wp2_with fail
          go_loopw [11, 12] (fun e i wr => ∃ k : Nat, k ≤ nw ∧ i = .int .i64 k ∧ e = .int .i64 (pk k) ∧ Hid (Below w.heap.size w wr)) (fun _ i _ => nw - (intOf i).toNat)
          case atStart => exact ⟨0, Nat.zero_le _, rfl, rfl, HB3⟩
          case round =>
            obtain ⟨k, hk, rfl, rfl, HB⟩ := hrel
            have hsz := HB.out.size
            by_cases hlt : k < nw
            · by_cases hz : pk k = 0
              · have hz' : (pk k == 0) = true := by simpa using hz
                obtain ⟨b, off, hp1, hl1, hr⟩ : ∃ b off, pw = some ⟨b, off, none⟩ ∧ b < w.heap.size ∧ Wh.Row w b off wh := by
                  rcases HA.out with h | h
                  · have := HN.out; rw [h] at this; simp at this; omega
                  · exact h
                subst hp1
                obtain ⟨c0, c1, c2, c3, c4, c5⟩ := hr.later HB.out hl1 k (by rw [HN.out]; exact hlt)
                clear hr
                have HNX : Hid (pk (k + 1) = chkP (toPl (plc (wh.getD k Wh.dm)))) := HPS.out k hlt hz
                generalize wh.getD k Wh.dm = m at *
                obtain ⟨nd, x, y, z, h, s⟩ := m
                simp only at c0 c1 c2 c3 c4 c5
                have HCW : Hid (∀ W, Calls Tryz.prog 31 #[.agg #[.int .i64 x, .int .i64 y, .int .i64 z, .int .i64 h, .int .i64 s]] W fun e w' => e = .returned (.int .i64 (pk (k + 1))) ∧ Below W.heap.size W w') := fun W => by rw [HNX.out]; exact HC3.out ⟨x, y, z, h, s⟩ W
                clear hz HNX
                generalize pk k = pkk at *
                generalize hpk2 : pk (k + 1) = pk2 at *
                have HPK2 : Hid (pk (k + 1) = pk2) := hpk2
                clear hpk2
                go_wp2_with fail
                refine (HCW.out _).mono ?_
                rintro e w4 ⟨rfl, hb4⟩
                have HB4 : Hid (Below w.heap.size w w4) := HB.out.trans (hb4.mono hsz)
                clear hb4
                go_wp2_with fail
                go_roundw
                case rel => exact ⟨k + 1, by omega, by go_num, by rw [HPK2.out], HB4⟩
                case measure => simp [intOf]; omega
              · have hz' : (pk k == 0) = false := by simpa using hz
                have HR2 : Hid (res = pk k) := HR.out.trans (HPE.out k hz)
                clear hz
                generalize pk k = pkk at *
                go_wp2_with fail
                go_ret
                exact ⟨ret_int HR2.out.symm, HB.out⟩
            · have hkn : k = nw := by omega
              have HR2 : Hid (res = pk k) := by rw [hkn]; exact HR.out
              clear hkn
              generalize pk k = pkk at *
              go_wp2_with fail
              go_ret
              exact ⟨ret_int HR2.out.symm, HB.out⟩
      · have HR : Hid (res = me) := HK3.out.trans (if_neg h2)
        have h2' : (me == 0) = false := by simpa using h2
        go_wp2_with fail
        go_loopw [11, 12] (fun e i wr => e = .int .i64 me ∧ i = .int .i64 0 ∧ wr = w2) (fun _ _ _ => 0)
        case atStart => exact ⟨rfl, rfl, rfl⟩
        case round =>
          obtain ⟨rfl, rfl, rfl⟩ := hrel
          by_cases h4 : (0 : Int) < (nw : Int)
          all_goals
            go_wp2_with fail
            go_ret
            exact ⟨ret_int HR.out.symm, HB2.out⟩
    · have HR : Hid (res = ce) := HK2.out.trans (if_neg h1)
      have h1' : (ce == 0) = false := by simpa using h1
      go_wp2_with fail
      go_loopw [11, 12] (fun e i wr => e = .int .i64 ce ∧ i = .int .i64 0 ∧ wr = w1) (fun _ _ _ => 0)
      case atStart => exact ⟨rfl, rfl, rfl⟩
      case round =>
        obtain ⟨rfl, rfl, rfl⟩ := hrel
        by_cases h4 : (0 : Int) < (nw : Int)
        all_goals
          go_wp2_with fail
          go_ret
          exact ⟨ret_int HR.out.symm, HB1.out⟩

end Go.Proofs.YtignmeaeibaejaaGreat

/- Pieces of a function's text. -/
namespace Go.Proofs.YtignmeaeibaejaaGreat
open Go.RowKit

/-- The region of that number in a text; the block of that number. -/
def regIn (n : Nat) : Code → Option Code
  | .region m ops d => if m = n then some (.region m ops d) else none
  | .loop c => regIn n c
  | .seq a b => match regIn n a with
    | some c => some c
    | none => regIn n b
  | .block _ c => regIn n c
  | .cond _ a b => match regIn n a with
    | some c => some c
    | none => regIn n b
  | _ => none
def blkIn (n : Nat) : Code → Option Code
  | .loop c => blkIn n c
  | .seq a b => match blkIn n a with
    | some c => some c
    | none => blkIn n b
  | .block m c => if m = n then some (.block m c) else blkIn n c
  | .cond _ a b => match blkIn n a with
    | some c => some c
    | none => blkIn n b
  | _ => none

end Go.Proofs.YtignmeaeibaejaaGreat

/- The document's Records: the round of its first loop: one more node, or not. -/
namespace Go.Proofs.YtignmeaeibaejaaGreat
open Go.RowKit

theorem firstE_mem0 : ∀ {ms : List Mem}, firstE ms = 0 → ∀ m ∈ ms, m.e = 0
  | [], _, m, hm => by simp at hm
  | x :: r, h, m, hm => by
    rw [firstE] at h
    by_cases h2 : x.e = 0
    · rw [if_pos h2] at h
      rcases List.mem_cons.1 hm with rfl | hm
      · exact h2
      · exact firstE_mem0 h m hm
    · rw [if_neg h2] at h; exact absurd h h2
theorem st_range {ms : List Mem} {k : Nat} (hc : chk ms = 0) (hk : k < ms.length) : 1 ≤ (ms.getD k dm).state ∧ (ms.getD k dm).state ≤ 4 := by
  have h := (chk_zero hc).2.2
  have h2 : (ms.getD k dm).e = 0 := firstE_mem0 h _ (by simp [List.getD, List.getElem?_eq_getElem hk])
  unfold Mem.e oneE at h2
  by_cases h3 : within (ms.getD k dm).state 1 4 = true
  · unfold within at h3; rw [Bool.and_eq_true, decide_eq_true_eq, decide_eq_true_eq] at h3; exact h3
  · rw [if_neg h3] at h2; split at h2 <;> omega
theorem out_of {ms : List Mem} {t : ByteArray} {k : Nat} (hc : chk ms = 0) (hk : k < ms.length) (h : fstM ms t = some (ms.getD k dm)) : outB ms t = decide (2 < (ms.getD k dm).state) := by
  have hm : mOf ms t = ms.getD k dm := mOf_some h
  unfold outB
  rw [hm]
  have h1 := st_range hc hk
  have h2 : (ms.getD k dm).state = 1 ∨ (ms.getD k dm).state = 2 ∨ (ms.getD k dm).state = 3 ∨ (ms.getD k dm).state = 4 := by omega
  rcases h2 with h2 | h2 | h2 | h2 <;> rw [h2] <;> rfl
theorem out_none {ms : List Mem} {t : ByteArray} (h : fstM ms t = none) : outB ms t = false := by
  unfold outB; rw [mOf_none h]; rfl
theorem last_get {l : List ByteArray} (h : l ≠ []) : l.getLast? = some (l.getD (l.length - 1) ByteArray.empty) := by
  have hl : 0 < l.length := List.length_pos_iff.2 h
  rw [List.getLast?_eq_getElem?, List.getElem?_eq_getElem (by omega)]
  simp [List.getD, List.getElem?_eq_getElem (show l.length - 1 < l.length by omega)]
theorem addR_new {l : List ByteArray} {n : ByteArray} (h : l = [] ∨ l.getD (l.length - 1) ByteArray.empty ≠ n) : addR l n = l ++ [n] := by
  unfold addR
  rw [if_neg]
  intro e
  rcases h with h | h
  · rw [h] at e; simp at e
  · by_cases hl : l = []
    · rw [hl] at e; simp at e
    · rw [last_get hl] at e
      exact h (by simpa using e)
theorem addR_old {l : List ByteArray} {n : ByteArray} (hl : l ≠ []) (h : l.getD (l.length - 1) ByteArray.empty = n) : addR l n = l := by
  unfold addR
  rw [if_pos]
  rw [last_get hl, h]
set_option maxHeartbeats 1600000 in
set_option maxRecDepth 1000000 in
theorem rr1 {u0 u1 u2 u3 u5 u6 u7 u8 u9 u10 u11 u12 u13 u14 u15 u16 u17 u18 u19 u23 u24 u25 u26 u27 u28 u29 u30 u31 u32 u33 u34 u35 u36 u37 u38 u39 u40 u41 u42 u43 u44 u45 u46 u47 u48 u49 u50 u51 u52 u53 u54 u55 u56 u57 u58 u59 u60 u61 u62 u63 u64 u65 u66 u67 u68 u69 u70 u71 u72 u73 u74 u75 u76 u77 u78 u79 u80 u81 u82 u83 u84 u85 u86 u87 u88 u89 u90 u91 u92 u93 u94 u95 u96 u97 u98 u99 u100 u101 u102 u103 u104 u105 u106 u107 u108 u109 u110 u111 u112 u113 u114 u115 u116 u117 u118 u119 u120 u121 u122 u123 u124 u125 u126 u127 u128 u129 u130 u131 u132 u133 u134 u135 u136 u137 u138 u139 u140 u141 u142 u143 u144 u145 u146 u147 u148 u149 u150 u151 u152 u153 u154 u155 u156 u157 u158 u159 u160 u161 u162 u163 u164 u165 u166 u167 u168 u169 u170 u171 u172 u173 u174 u175 u176 u177 u178 u179 u180 u181 u182 u183 u184 u185 u186 u187 u188 u189 u190 u191 u192 u193 u194 u195 u196 u197 u198 u199 u200 u201 u202 u203 u204 u205 u206 u207 u208 u209 u210 u211 u212 u213 u214 u215 u216 u217 u218 u219 u220 u221 u222 u223 u224 u225 u226 u227 u228 u229 u230 : Value} (B : Nat) (ms : List Mem) (found : List Sv.Svc) (pm pf : Option Addr) (nm cm n cf k : Nat) (vn : Value) (NL : List ByteArray) (w : World) (hc : chk ms = 0) (hk : k < n) (hNL : NL.length ≤ 40) (hBw : B ≤ w.heap.size)
    (HM : Hid (Sl w (.slice pm nm cm) ms)) (HF : Hid (Sv.Sl w (.slice pf n cf) found)) (HO : Hid (OwnS B w vn NL)) (Q : Exit → Act → World → Prop)
    (hN : ∀ (y23 y104 y105 y106 y107 y108 y109 y110 y111 y112 y113 y114 y115 y116 y117 y118 y119 y120 y121 y122 y123 y124 y125 y126 y127 y128 y129 y130 y131 y132 y133 y134 y135 y136 y137 y138 y139 y140 y141 y142 y143 y144 y145 vn' : Value) (wx : World), Hid (OwnS B wx vn' (if outB ms (found.getD k Sv.dm).node = true then NL else addR NL (found.getD k Sv.dm).node)) → Hid (Below B w wx) → Q .normal ⟨#[u0, u1, u2, u3, .slice pm nm cm, u5, u6, u7, u8, u9, u10, u11, u12, u13, u14, u15, u16, u17, u18, u19, .slice pf n cf, vn', .int .i64 k, y23, u24, u25, u26, u27, u28, u29, u30, u31, u32, u33, u34, u35, u36, u37, u38, u39, u40, u41, u42, u43, u44, u45, u46, u47, u48, u49, u50, u51, u52, u53, u54, u55, u56, u57, u58, u59, u60, u61, u62, u63, u64, u65, u66, u67, u68, u69, u70, u71, u72, u73, u74, u75, u76, u77, u78, u79, u80, u81, u82, u83, u84, u85, u86, u87, u88, u89, u90, u91, u92, u93, u94, u95, u96, u97, u98, u99, u100, u101, u102, u103, y104, y105, y106, y107, y108, y109, y110, y111, y112, y113, y114, y115, y116, y117, y118, y119, y120, y121, y122, y123, y124, y125, y126, y127, y128, y129, y130, y131, y132, y133, y134, y135, y136, y137, y138, y139, y140, y141, y142, y143, y144, y145, u146, u147, u148, u149, u150, u151, u152, u153, u154, u155, u156, u157, u158, u159, u160, u161, u162, u163, u164, u165, u166, u167, u168, u169, u170, u171, u172, u173, u174, u175, u176, u177, u178, u179, u180, u181, u182, u183, u184, u185, u186, u187, u188, u189, u190, u191, u192, u193, u194, u195, u196, u197, u198, u199, u200, u201, u202, u203, u204, u205, u206, u207, u208, u209, u210, u211, u212, u213, u214, u215, u216, u217, u218, u219, u220, u221, u222, u223, u224, u225, u226, u227, u228, u229, u230], []⟩ wx) :
    Code.wp Tryz.prog ((Tryz.f6.body.bind (blkIn 1)).getD .skip) Q ⟨#[u0, u1, u2, u3, .slice pm nm cm, u5, u6, u7, u8, u9, u10, u11, u12, u13, u14, u15, u16, u17, u18, u19, .slice pf n cf, vn, .int .i64 k, u23, u24, u25, u26, u27, u28, u29, u30, u31, u32, u33, u34, u35, u36, u37, u38, u39, u40, u41, u42, u43, u44, u45, u46, u47, u48, u49, u50, u51, u52, u53, u54, u55, u56, u57, u58, u59, u60, u61, u62, u63, u64, u65, u66, u67, u68, u69, u70, u71, u72, u73, u74, u75, u76, u77, u78, u79, u80, u81, u82, u83, u84, u85, u86, u87, u88, u89, u90, u91, u92, u93, u94, u95, u96, u97, u98, u99, u100, u101, u102, u103, u104, u105, u106, u107, u108, u109, u110, u111, u112, u113, u114, u115, u116, u117, u118, u119, u120, u121, u122, u123, u124, u125, u126, u127, u128, u129, u130, u131, u132, u133, u134, u135, u136, u137, u138, u139, u140, u141, u142, u143, u144, u145, u146, u147, u148, u149, u150, u151, u152, u153, u154, u155, u156, u157, u158, u159, u160, u161, u162, u163, u164, u165, u166, u167, u168, u169, u170, u171, u172, u173, u174, u175, u176, u177, u178, u179, u180, u181, u182, u183, u184, u185, u186, u187, u188, u189, u190, u191, u192, u193, u194, u195, u196, u197, u198, u199, u200, u201, u202, u203, u204, u205, u206, u207, u208, u209, u210, u211, u212, u213, u214, u215, u216, u217, u218, u219, u220, u221, u222, u223, u224, u225, u226, u227, u228, u229, u230], []⟩ w := by
  conv => arg 2; whnf
  have HQN : Hid _ := hN
  clear hN
  obtain ⟨s0, hs0, sz0, szs, szb⟩ := info_parts Tryz.info9
  have HMS : Hid (Sl w (.slice pm nm cm) ms) := HM
  obtain ⟨_, _, hme, -, hma⟩ := HM.out
  simp only [Value.slice.injEq] at hme
  obtain ⟨rfl, hml, rfl⟩ := hme
  have HML : Hid (ms.length = nm) := hml.symm
  have hml2 : ms.length ≤ 1000 := by have := (chk_zero hc).1; omega
  have HMA : Hid (ms = [] ∨ ∃ b off, pm = some ⟨b, off, none⟩ ∧ b < w.heap.size ∧ Row w b off ms) := hma
  obtain ⟨_, _, hfe, hfz, hfa⟩ := HF.out
  simp only [Value.slice.injEq] at hfe
  obtain ⟨rfl, hfl, rfl⟩ := hfe
  obtain ⟨b, off, hp1, hl1, hr⟩ : ∃ b off, pf = some ⟨b, off, none⟩ ∧ b < w.heap.size ∧ Sv.Row w b off found := by
    rcases hfa with h | h
    · rw [h] at hfl; simp at hfl; omega
    · exact h
  subst hp1
  obtain ⟨c0, -, -, -, -, -, -, -, -⟩ := hr k (by omega)
  have HAT : Hid (∀ W, Sl W (.slice pm nm cm) ms → Calls Tryz.prog 9 #[.slice pm nm cm, .string (found.getD k Sv.dm).node] W fun e w' => ∃ r : Int, e = .returned (.int .i64 r) ∧ Hid (AtF ms (found.getD k Sv.dm).node r) ∧ w' = W) := fun W h => memAt_any ms _ _ W h hml2
  have HOF : Hid (∀ j, j < ms.length → fstM ms (found.getD k Sv.dm).node = some (ms.getD j dm) → outB ms (found.getD k Sv.dm).node = decide (2 < (ms.getD j dm).state)) := fun j hj h => out_of hc hj h
  clear hma hfa hr hfz hml hfl HM HF hc
  generalize (found.getD k Sv.dm).node = nd at *
  have hk0 : (0 : Int) ≤ (k : Int) := Int.natCast_nonneg _
  have hk1 : (k : Int) < (n : Int) := by omega
  go_wp2_with fail
  refine Calls.mono (HAT.out w HMS.out) ?_
  rintro e w1 ⟨r, rfl, hat, hw1⟩
  subst hw1
  have HQ1 : Hid (outB ms nd = true → ∀ (y23 y104 y105 y106 y107 y108 y109 y110 y111 y112 y113 y114 y115 y116 y117 y118 y119 y120 y121 y122 y123 y124 y125 y126 y127 y128 y129 y130 y131 y132 y133 y134 y135 y136 y137 y138 y139 y140 y141 y142 y143 y144 y145 : Value), Q .normal ⟨#[u0, u1, u2, u3, .slice pm nm cm, u5, u6, u7, u8, u9, u10, u11, u12, u13, u14, u15, u16, u17, u18, u19, .slice (some ⟨b, off, none⟩) n cf, vn, .int .i64 k, y23, u24, u25, u26, u27, u28, u29, u30, u31, u32, u33, u34, u35, u36, u37, u38, u39, u40, u41, u42, u43, u44, u45, u46, u47, u48, u49, u50, u51, u52, u53, u54, u55, u56, u57, u58, u59, u60, u61, u62, u63, u64, u65, u66, u67, u68, u69, u70, u71, u72, u73, u74, u75, u76, u77, u78, u79, u80, u81, u82, u83, u84, u85, u86, u87, u88, u89, u90, u91, u92, u93, u94, u95, u96, u97, u98, u99, u100, u101, u102, u103, y104, y105, y106, y107, y108, y109, y110, y111, y112, y113, y114, y115, y116, y117, y118, y119, y120, y121, y122, y123, y124, y125, y126, y127, y128, y129, y130, y131, y132, y133, y134, y135, y136, y137, y138, y139, y140, y141, y142, y143, y144, y145, u146, u147, u148, u149, u150, u151, u152, u153, u154, u155, u156, u157, u158, u159, u160, u161, u162, u163, u164, u165, u166, u167, u168, u169, u170, u171, u172, u173, u174, u175, u176, u177, u178, u179, u180, u181, u182, u183, u184, u185, u186, u187, u188, u189, u190, u191, u192, u193, u194, u195, u196, u197, u198, u199, u200, u201, u202, u203, u204, u205, u206, u207, u208, u209, u210, u211, u212, u213, u214, u215, u216, u217, u218, u219, u220, u221, u222, u223, u224, u225, u226, u227, u228, u229, u230], []⟩ w1) := fun h _ _ _ _ _ _ _ _ _ _ _ _ _ _ _ _ _ _ _ _ _ _ _ _ _ _ _ _ _ _ _ _ _ _ _ _ _ _ _ _ _ _ _ => HQN.out _ _ _ _ _ _ _ _ _ _ _ _ _ _ _ _ _ _ _ _ _ _ _ _ _ _ _ _ _ _ _ _ _ _ _ _ _ _ _ _ _ _ _ vn w1 (by rw [if_pos h]; exact HO) (Below.refl _ _)
  have HQ2 : Hid (outB ms nd = false → ∀ (y23 y104 y105 y106 y107 y108 y109 y110 y111 y112 y113 y114 y115 y116 y117 y118 y119 y120 y121 y122 y123 y124 y125 y126 y127 y128 y129 y130 y131 y132 y133 y134 y135 y136 y137 y138 y139 y140 y141 y142 y143 y144 y145 vn' : Value) (wx : World), OwnS B wx vn' (addR NL nd) → Below B w1 wx → Q .normal ⟨#[u0, u1, u2, u3, .slice pm nm cm, u5, u6, u7, u8, u9, u10, u11, u12, u13, u14, u15, u16, u17, u18, u19, .slice (some ⟨b, off, none⟩) n cf, vn', .int .i64 k, y23, u24, u25, u26, u27, u28, u29, u30, u31, u32, u33, u34, u35, u36, u37, u38, u39, u40, u41, u42, u43, u44, u45, u46, u47, u48, u49, u50, u51, u52, u53, u54, u55, u56, u57, u58, u59, u60, u61, u62, u63, u64, u65, u66, u67, u68, u69, u70, u71, u72, u73, u74, u75, u76, u77, u78, u79, u80, u81, u82, u83, u84, u85, u86, u87, u88, u89, u90, u91, u92, u93, u94, u95, u96, u97, u98, u99, u100, u101, u102, u103, y104, y105, y106, y107, y108, y109, y110, y111, y112, y113, y114, y115, y116, y117, y118, y119, y120, y121, y122, y123, y124, y125, y126, y127, y128, y129, y130, y131, y132, y133, y134, y135, y136, y137, y138, y139, y140, y141, y142, y143, y144, y145, u146, u147, u148, u149, u150, u151, u152, u153, u154, u155, u156, u157, u158, u159, u160, u161, u162, u163, u164, u165, u166, u167, u168, u169, u170, u171, u172, u173, u174, u175, u176, u177, u178, u179, u180, u181, u182, u183, u184, u185, u186, u187, u188, u189, u190, u191, u192, u193, u194, u195, u196, u197, u198, u199, u200, u201, u202, u203, u204, u205, u206, u207, u208, u209, u210, u211, u212, u213, u214, u215, u216, u217, u218, u219, u220, u221, u222, u223, u224, u225, u226, u227, u228, u229, u230], []⟩ wx) := fun h _ _ _ _ _ _ _ _ _ _ _ _ _ _ _ _ _ _ _ _ _ _ _ _ _ _ _ _ _ _ _ _ _ _ _ _ _ _ _ _ _ _ _ vn' wx h1 h2 => HQN.out _ _ _ _ _ _ _ _ _ _ _ _ _ _ _ _ _ _ _ _ _ _ _ _ _ _ _ _ _ _ _ _ _ _ _ _ _ _ _ _ _ _ _ vn' wx (by rw [if_neg (by rw [h]; simp)]; exact h1) h2
  clear HQN
  have htri : (∃ pv cv, vn = .slice pv 0 cv ∧ NL = []) ∨ (∃ g m l1 c la, vn = .slice (some ⟨g, 0, none⟩) l1 c ∧ Hid (l1 = m + 1) ∧ Hid (NL.length = l1) ∧ Hid (addR NL nd = NL ++ [nd]) ∧ w1.cell? ⟨g, m, none⟩ = some (.string la) ∧ g < w1.heap.size ∧ ((la.toList == nd.toList) = false ∧ ¬ la.toList = nd.toList)) ∨ (∃ g m l1 c la, vn = .slice (some ⟨g, 0, none⟩) l1 c ∧ Hid (l1 = m + 1) ∧ Hid (NL.length = l1) ∧ Hid (addR NL nd = NL) ∧ w1.cell? ⟨g, m, none⟩ = some (.string la) ∧ g < w1.heap.size ∧ (la.toList == nd.toList) = true) := by
    rcases HO.out.form with ⟨hv, hl⟩ | ⟨g, c, hv, hlc, hbg, hgl, hcells⟩
    · exact .inl ⟨none, 0, hv, hl⟩
    · by_cases hl : NL = []
      · exact .inl ⟨_, c, by rw [hv, hl]; rfl, hl⟩
      · have hpos : 0 < NL.length := List.length_pos_iff.2 hl
        obtain ⟨m, hm⟩ : ∃ m, NL.length = m + 1 := ⟨NL.length - 1, by omega⟩
        have hcl := hcells m (by omega)
        by_cases e : NL.getD m ByteArray.empty = nd
        · exact .inr (.inr ⟨g, m, NL.length, c, _, hv, hm, rfl, addR_old hl (by rw [hm]; exact e), hcl, hgl, by rw [e]; simp⟩)
        · exact .inr (.inl ⟨g, m, NL.length, c, _, hv, hm, rfl, addR_new (.inr (by rw [hm]; exact e)), hcl, hgl, beq_name e⟩)
  rcases hat.out with ⟨j, hj, rfl, hfj⟩ | ⟨rfl, hfj⟩
  · have HOJ : Hid (outB ms nd = decide (2 < (ms.getD j dm).state)) := HOF.out j hj hfj
    obtain ⟨bm, om, hp2, hl2, hr2⟩ : ∃ b off, pm = some ⟨b, off, none⟩ ∧ b < w1.heap.size ∧ Row w1 b off ms := by
      rcases HMA.out with h | h
      · rw [h] at hj; simp at hj
      · exact h
    subst hp2
    obtain ⟨-, m1, -, -, -⟩ := hr2 j hj
    have hjn : j < nm := by rw [← HML.out]; exact hj
    have hj0 : (0 : Int) ≤ (j : Int) := Int.natCast_nonneg _
    have hj1 : (j : Int) < (nm : Int) := by omega
    clear hr2 hfj hat HOF HMA hj
    generalize (ms.getD j dm).state = st at *
    by_cases hst : 2 < st
    · have HT : Hid (outB ms nd = true) := HOJ.out.trans (decide_eq_true hst)
      go_wp2_with fail
      exact HQ1.out HT.out _ _ _ _ _ _ _ _ _ _ _ _ _ _ _ _ _ _ _ _ _ _ _ _ _ _ _ _ _ _ _ _ _ _ _ _ _ _ _ _ _ _ _
    · have HT : Hid (outB ms nd = false) := HOJ.out.trans (decide_eq_false hst)
      have HQ3 : Hid _ := HQ2.out HT.out
      clear HQ1 HQ2
      rcases htri with ⟨pv, cv, rfl, rfl⟩ | ⟨g, m, l1, c, la, rfl, HL1, HLM, HLA, cL, hgl, hne⟩ | ⟨g, m, l1, c, la, rfl, HL1, HLM, HLA, cL, hgl, hne⟩
      · go_wp2_with fail
        go_quiet (fail)
        go_wp2_with (at_builtin; refine wpList_append_own _ rfl _ _ 57 rfl B 9 s0 _ 1 16 Tryz.underlying57 hs0 sz0 szs szb rfl (by omega) _ 0 [] rfl ?hown _ 1 1 [.string nd] rfl rfl ?hnews (strs_one [_]) ?h63 ?hbytes ?hbase ?_)
        case hown => exact World.ownsRow.alloc (show (w1.drewN _).ownsRow _ _ _ _ _ _ from HO.out) _
        case hnews => exact cell_one_new _ _ _
        case h63 => (unfold maxLen; omega)
        case hbytes => omega
        case hbase => (simp; omega)
        intro v' w2 r1 r2 r3
        have HB2 : Hid (Below B w1 w2) := ((belowN (Below.refl _ _) _).alloc (by simp; omega) _).grown r2 (by simp; omega) (fun j hj => (World.ownsRow.lt HO.out j hj).1)
        have HO2 : Hid (OwnS B w2 v' (addR [] nd)) := ownS_snoc (l := []) r1
        clear r1 r2 r3
        go_wp2_with fail
        exact HQ3.out _ _ _ _ _ _ _ _ _ _ _ _ _ _ _ _ _ _ _ _ _ _ _ _ _ _ _ _ _ _ _ _ _ _ _ _ _ _ _ _ _ _ _ v' w2 HO2.out HB2.out
      · have h3 : (la.toList == nd.toList) = false := hne.1
        have h4 : ¬ la.toList = nd.toList := hne.2
        have hm40 : l1 ≤ 40 := by have := HLM.out; omega
        have hx0 : (0 : Int) ≤ (l1 : Int) - 1 := by have := HL1.out; omega
        have hx1 : (l1 : Int) - 1 < (l1 : Int) := by omega
        have hx2 : ((l1 : Int) - 1).toNat = m := by have := HL1.out; omega
        have HO3 : Hid (w1.ownsRow B 9 1 (.slice (some ⟨g, 0, none⟩) l1 c) l1 (NL.map Value.string)) := by have h := HO.out; unfold OwnS at h; rw [HLM.out] at h; exact h
        have hz1 : ((l1 : Int) == 0) = false := by have := HL1.out; simp; omega
        go_wp2_with fail
        go_quiet (fail)
        go_wp2_with (at_builtin; refine wpList_append_own _ rfl _ _ 57 rfl B 9 s0 _ 1 16 Tryz.underlying57 hs0 sz0 szs szb rfl (by omega) _ l1 (NL.map Value.string) rfl ?hown _ 1 1 [.string nd] rfl rfl ?hnews (strs_one [_]) ?h63 ?hbytes ?hbase ?_)
        case hown => exact World.ownsRow.alloc (show (w1.drewN _).ownsRow _ _ _ _ _ _ from HO3.out) _
        case hnews => exact cell_one_new _ _ _
        case h63 => (unfold maxLen; omega)
        case hbytes => omega
        case hbase => (simp; omega)
        intro v' w2 r1 r2 r3
        have HB2 : Hid (Below B w1 w2) := ((belowN (Below.refl _ _) _).alloc (by simp; omega) _).grown r2 (by simp; omega) (fun j hj => (World.ownsRow.lt HO3.out j hj).1)
        have HO2 : Hid (OwnS B w2 v' (addR NL nd)) := by rw [HLA.out]; exact ownS_snoc (by rw [HLM.out]; exact r1)
        clear r1 r2 r3
        go_wp2_with fail
        exact HQ3.out _ _ _ _ _ _ _ _ _ _ _ _ _ _ _ _ _ _ _ _ _ _ _ _ _ _ _ _ _ _ _ _ _ _ _ _ _ _ _ _ _ _ _ v' w2 HO2.out HB2.out
      · have hm40 : l1 ≤ 40 := by have := HLM.out; omega
        have hx0 : (0 : Int) ≤ (l1 : Int) - 1 := by have := HL1.out; omega
        have hx1 : (l1 : Int) - 1 < (l1 : Int) := by omega
        have hx2 : ((l1 : Int) - 1).toNat = m := by have := HL1.out; omega
        have hz1 : ((l1 : Int) == 0) = false := by have := HL1.out; simp; omega
        have HO2 : Hid (OwnS B w1 (.slice (some ⟨g, 0, none⟩) l1 c) (addR NL nd)) := by rw [HLA.out]; exact HO
        go_wp2_with fail
        go_quiet (fail)
        go_wp2_with fail
        exact HQ3.out _ _ _ _ _ _ _ _ _ _ _ _ _ _ _ _ _ _ _ _ _ _ _ _ _ _ _ _ _ _ _ _ _ _ _ _ _ _ _ _ _ _ _ _ _ (show OwnS B (w1.drewN _) _ _ from HO2.out) (belowN (Below.refl _ _) _)
  · have HT : Hid (outB ms nd = false) := out_none hfj
    clear hfj hat HOF HMA
    have HQ3 : Hid _ := HQ2.out HT.out
    clear HQ1 HQ2
    rcases htri with ⟨pv, cv, rfl, rfl⟩ | ⟨g, m, l1, c, la, rfl, HL1, HLM, HLA, cL, hgl, hne⟩ | ⟨g, m, l1, c, la, rfl, HL1, HLM, HLA, cL, hgl, hne⟩
    · go_wp2_with fail
      go_quiet (fail)
      go_wp2_with (at_builtin; refine wpList_append_own _ rfl _ _ 57 rfl B 9 s0 _ 1 16 Tryz.underlying57 hs0 sz0 szs szb rfl (by omega) _ 0 [] rfl ?hown _ 1 1 [.string nd] rfl rfl ?hnews (strs_one [_]) ?h63 ?hbytes ?hbase ?_)
      case hown => exact World.ownsRow.alloc (show (w1.drewN _).ownsRow _ _ _ _ _ _ from HO.out) _
      case hnews => exact cell_one_new _ _ _
      case h63 => (unfold maxLen; omega)
      case hbytes => omega
      case hbase => (simp; omega)
      intro v' w2 r1 r2 r3
      have HB2 : Hid (Below B w1 w2) := ((belowN (Below.refl _ _) _).alloc (by simp; omega) _).grown r2 (by simp; omega) (fun j hj => (World.ownsRow.lt HO.out j hj).1)
      have HO2 : Hid (OwnS B w2 v' (addR [] nd)) := ownS_snoc (l := []) r1
      clear r1 r2 r3
      go_wp2_with fail
      exact HQ3.out _ _ _ _ _ _ _ _ _ _ _ _ _ _ _ _ _ _ _ _ _ _ _ _ _ _ _ _ _ _ _ _ _ _ _ _ _ _ _ _ _ _ _ v' w2 HO2.out HB2.out
    · have h3 : (la.toList == nd.toList) = false := hne.1
      have h4 : ¬ la.toList = nd.toList := hne.2
      have hm40 : l1 ≤ 40 := by have := HLM.out; omega
      have hx0 : (0 : Int) ≤ (l1 : Int) - 1 := by have := HL1.out; omega
      have hx1 : (l1 : Int) - 1 < (l1 : Int) := by omega
      have hx2 : ((l1 : Int) - 1).toNat = m := by have := HL1.out; omega
      have HO3 : Hid (w1.ownsRow B 9 1 (.slice (some ⟨g, 0, none⟩) l1 c) l1 (NL.map Value.string)) := by have h := HO.out; unfold OwnS at h; rw [HLM.out] at h; exact h
      have hz1 : ((l1 : Int) == 0) = false := by have := HL1.out; simp; omega
      go_wp2_with fail
      go_quiet (fail)
      go_wp2_with (at_builtin; refine wpList_append_own _ rfl _ _ 57 rfl B 9 s0 _ 1 16 Tryz.underlying57 hs0 sz0 szs szb rfl (by omega) _ l1 (NL.map Value.string) rfl ?hown _ 1 1 [.string nd] rfl rfl ?hnews (strs_one [_]) ?h63 ?hbytes ?hbase ?_)
      case hown => exact World.ownsRow.alloc (show (w1.drewN _).ownsRow _ _ _ _ _ _ from HO3.out) _
      case hnews => exact cell_one_new _ _ _
      case h63 => (unfold maxLen; omega)
      case hbytes => omega
      case hbase => (simp; omega)
      intro v' w2 r1 r2 r3
      have HB2 : Hid (Below B w1 w2) := ((belowN (Below.refl _ _) _).alloc (by simp; omega) _).grown r2 (by simp; omega) (fun j hj => (World.ownsRow.lt HO3.out j hj).1)
      have HO2 : Hid (OwnS B w2 v' (addR NL nd)) := by rw [HLA.out]; exact ownS_snoc (by rw [HLM.out]; exact r1)
      clear r1 r2 r3
      go_wp2_with fail
      exact HQ3.out _ _ _ _ _ _ _ _ _ _ _ _ _ _ _ _ _ _ _ _ _ _ _ _ _ _ _ _ _ _ _ _ _ _ _ _ _ _ _ _ _ _ _ v' w2 HO2.out HB2.out
    · have hm40 : l1 ≤ 40 := by have := HLM.out; omega
      have hx0 : (0 : Int) ≤ (l1 : Int) - 1 := by have := HL1.out; omega
      have hx1 : (l1 : Int) - 1 < (l1 : Int) := by omega
      have hx2 : ((l1 : Int) - 1).toNat = m := by have := HL1.out; omega
      have hz1 : ((l1 : Int) == 0) = false := by have := HL1.out; simp; omega
      have HO2 : Hid (OwnS B w1 (.slice (some ⟨g, 0, none⟩) l1 c) (addR NL nd)) := by rw [HLA.out]; exact HO
      go_wp2_with fail
      go_quiet (fail)
      go_wp2_with fail
      exact HQ3.out _ _ _ _ _ _ _ _ _ _ _ _ _ _ _ _ _ _ _ _ _ _ _ _ _ _ _ _ _ _ _ _ _ _ _ _ _ _ _ _ _ _ _ _ _ (show OwnS B (w1.drewN _) _ _ from HO2.out) (belowN (Below.refl _ _) _)

end Go.Proofs.YtignmeaeibaejaaGreat

