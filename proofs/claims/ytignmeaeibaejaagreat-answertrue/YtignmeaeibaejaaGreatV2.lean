/- P5, LV -/
import Derived.Test.YtignmeaeibaejaaGreatV1
import Derived.Test.YtignmeaeibaejaaGreatProg
import Derived.WalkKit
import Derived.WalkSpells
import Derived.WalkLawsBesides
import Derived.Deep.QuietTactic
import Derived.BigQuiet
import Derived.Lib.Bytealg
import Derived.Shelf.RegionOpenPlain
import Derived.Lib.AppendZerosOnto
import Derived.Lib.Overlaps
import Derived.Laws.CopyRow
import Derived.Laws.Externs
import Derived.Laws.NewBlocks
import Derived.Deep.RegionWith
/- Places: the document's Check and Far; the law PlaceFar. -/
namespace Go.Proofs.YtignmeaeibaejaaGreat
open Go.RowKit

def betw (n a b : Int) : Bool := decide (a ≤ n) && decide (n ≤ b)
theorem retb {a b : Bool} (h : a = b) : Ending.returned (.bool a) = .returned (.bool b) := by rw [h]
set_option maxHeartbeats 400000 in
theorem between_any' (n a b : Int) (w : World) :
    Calls Tryz.prog 54 #[.int .i64 n, .int .i64 a, .int .i64 b] w fun e w' => e = .returned (.bool (betw n a b)) ∧ w' = w := by
  go_enter Tryz.func54, Tryz.ntmps54
  go_wp2
  all_goals
    go_ret
    exact ⟨retb (by unfold betw; rw [Bool.eq_iff_iff]; simp; try omega), rfl⟩
theorem betw_true {n a b : Int} (h : betw n a b = true) : a ≤ n ∧ n ≤ b := by simpa [betw] using h
theorem betw_false {n a b : Int} (h : betw n a b = false) : ¬ (a ≤ n ∧ n ≤ b) := by
  intro g; simp [betw, g.1, g.2] at h
theorem chkP_three {p : Pl} (h : ¬ OkP p) : chkP p = 3 := (chkP_or p).resolve_left (fun e => h ((okP_iff p).1 e))

set_option maxHeartbeats 1600000 in
theorem checkPlace_any (p : Pl) (w : World) :
    Calls Tryz.prog 31 #[.agg #[.int .i64 p.x, .int .i64 p.y, .int .i64 p.z, .int .i64 p.h, .int .i64 p.s]] w fun e w' => e = .returned (.int .i64 (chkP p)) ∧ w' = w.alloc (.cells #[.int .i64 p.x, .int .i64 p.y, .int .i64 p.z, .int .i64 p.h, .int .i64 p.s] 27) := by
  have HK := okP_iff p
  have H3 : Hid (¬ OkP p → chkP p = 3) := chkP_three
  have HX : Hid (chkP p = 0 ↔ OkP p) := HK
  clear HK
  rcases h1 : betw p.x (-10000000) 10000000 with _ | _
  · have HE : Hid (chkP p = 3) := H3.out (fun o => betw_false h1 ⟨o.x0, o.x1⟩)
    clear HX H3
    go_enter Tryz.func31, Tryz.ntmps31
    go_wp2_with (go_at_call 54; refine (between_any' _ _ _ _).mono ?_; rintro e w' ⟨rfl, rfl⟩; rw [h1])
    go_ret
    exact ⟨retn HE.out.symm, rfl⟩
  rcases h2 : betw p.y (-10000000) 10000000 with _ | _
  · have HE : Hid (chkP p = 3) := H3.out (fun o => betw_false h2 ⟨o.y0, o.y1⟩)
    clear HX H3
    go_enter Tryz.func31, Tryz.ntmps31
    go_wp2_with (go_at_call 54; refine (between_any' _ _ _ _).mono ?_; rintro e w' ⟨rfl, rfl⟩; first | rw [h1] | rw [h2])
    go_ret
    exact ⟨retn HE.out.symm, rfl⟩
  rcases h3 : betw p.z (-10000000) 10000000 with _ | _
  · have HE : Hid (chkP p = 3) := H3.out (fun o => betw_false h3 ⟨o.z0, o.z1⟩)
    clear HX H3
    go_enter Tryz.func31, Tryz.ntmps31
    go_wp2_with (go_at_call 54; refine (between_any' _ _ _ _).mono ?_; rintro e w' ⟨rfl, rfl⟩; first | rw [h1] | rw [h2] | rw [h3])
    go_ret
    exact ⟨retn HE.out.symm, rfl⟩
  rcases h4 : betw p.h 0 1000000 with _ | _
  · have HE : Hid (chkP p = 3) := H3.out (fun o => betw_false h4 ⟨o.h0, o.h1⟩)
    clear HX H3
    go_enter Tryz.func31, Tryz.ntmps31
    go_wp2_with (go_at_call 54; refine (between_any' _ _ _ _).mono ?_; rintro e w' ⟨rfl, rfl⟩; first | rw [h1] | rw [h2] | rw [h3] | rw [h4])
    go_ret
    exact ⟨retn HE.out.symm, rfl⟩
  rcases h5 : betw p.s 0 1000 with _ | _
  · have HE : Hid (chkP p = 3) := H3.out (fun o => betw_false h5 ⟨o.s0, o.s1⟩)
    clear HX H3
    go_enter Tryz.func31, Tryz.ntmps31
    go_wp2_with (go_at_call 54; refine (between_any' _ _ _ _).mono ?_; rintro e w' ⟨rfl, rfl⟩; first | rw [h1] | rw [h2] | rw [h3] | rw [h4] | rw [h5])
    go_ret
    exact ⟨retn HE.out.symm, rfl⟩
  · have HE : Hid (chkP p = 0) := HX.out.2 ⟨(betw_true h1).1, (betw_true h1).2, (betw_true h2).1, (betw_true h2).2, (betw_true h3).1, (betw_true h3).2, (betw_true h4).1, (betw_true h4).2, (betw_true h5).1, (betw_true h5).2⟩
    clear HX H3
    go_enter Tryz.func31, Tryz.ntmps31
    go_wp2_with (go_at_call 54; refine (between_any' _ _ _ _).mono ?_; rintro e w' ⟨rfl, rfl⟩; first | rw [h1] | rw [h2] | rw [h3] | rw [h4] | rw [h5])
    go_ret
    exact ⟨retn HE.out.symm, rfl⟩

set_option maxHeartbeats 1600000 in
theorem flatFar_any (a b : Pl) (w : World) (ha : OkP a) (hb : OkP b) :
    Calls Tryz.prog 75 #[.agg #[.int .i64 a.x, .int .i64 a.y, .int .i64 a.z, .int .i64 a.h, .int .i64 a.s], .agg #[.int .i64 b.x, .int .i64 b.y, .int .i64 b.z, .int .i64 b.h, .int .i64 b.s]] w fun e w' => e = .returned (.int .i64 (apartI a b)) ∧ Below w.heap.size w w' := by
  have h1 := sq_20 (x := a.x - b.x) (by have := ha.x0; have := hb.x1; omega) (by have := ha.x1; have := hb.x0; omega)
  have h2 := sq_20 (x := a.y - b.y) (by have := ha.y0; have := hb.y1; omega) (by have := ha.y1; have := hb.y0; omega)
  have h3 := sq_20 (x := a.z - b.z) (by have := ha.z0; have := hb.z1; omega) (by have := ha.z1; have := hb.z0; omega)
  have g1 := sq_nonneg (a.x - b.x)
  have g2 := sq_nonneg (a.y - b.y)
  have g3 := sq_nonneg (a.z - b.z)
  have HE : Hid (apartI a b = rt ((a.x - b.x) * (a.x - b.x) + (a.y - b.y) * (a.y - b.y) + (a.z - b.z) * (a.z - b.z))) := (show apartI a b = _ from rfl)
  obtain ⟨ax0, ax1, ay0, ay1, az0, az1, _, _, _, _⟩ := ha
  obtain ⟨bx0, bx1, by0, by1, bz0, bz1, _, _, _, _⟩ := hb
  generalize apartI a b = r at *
  obtain ⟨x1, y1, z1, p1, s1⟩ := a
  obtain ⟨x2, y2, z2, p2, s2⟩ := b
  simp only at *
  go_enter Tryz.func75, Tryz.ntmps75
  go_wp2_with (go_at_call 95; refine (rootOf_any _ _ (by omega) (by omega)).mono ?_; rintro e w' ⟨rfl, rfl⟩)
  go_ret
  exact ⟨retn HE.out.symm, ((Below.refl _ _).alloc (Nat.le_refl _) _).alloc (by simp) _⟩


set_option maxHeartbeats 1600000 in
theorem farOf_any (a b : Pl) (w : World) (ha : OkP a) (hb : OkP b) :
    Calls Tryz.prog 56 #[.agg #[.int .i64 a.x, .int .i64 a.y, .int .i64 a.z, .int .i64 a.h, .int .i64 a.s], .agg #[.int .i64 b.x, .int .i64 b.y, .int .i64 b.z, .int .i64 b.h, .int .i64 b.s]] w fun e w' => e = .returned (.int .i64 (farI a b)) ∧ Below w.heap.size w w' := by
  obtain ⟨r0, r1⟩ := apartI_bd ha hb
  have HE : Hid (farI a b = apartI a b + a.h + b.h) := (show farI a b = _ from rfl)
  have hap := fun w => flatFar_any a b w ha hb
  have h0 := ha.h0
  have h1 := ha.h1
  have g0 := hb.h0
  have g1 := hb.h1
  clear ha hb
  generalize apartI a b = r at *
  generalize farI a b = f at *
  obtain ⟨x1, y1, z1, p1, s1⟩ := a
  obtain ⟨x2, y2, z2, p2, s2⟩ := b
  simp only at *
  generalize hW : (w.alloc (.cells #[.int .i64 x1, .int .i64 y1, .int .i64 z1, .int .i64 p1, .int .i64 s1] 27)).alloc (.cells #[.int .i64 x2, .int .i64 y2, .int .i64 z2, .int .i64 p2, .int .i64 s2] 27) = W at *
  have HW : Hid (Below w.heap.size w W) := by rw [← hW]; exact ((Below.refl _ _).alloc (Nat.le_refl _) _).alloc (by simp) _
  have E0 : ∀ d os, (Go.Sort.grow (redrawn W d) os).cell? ⟨w.heap.size, 0, none⟩ = some (.int .i64 x1) := cell_regrown (by rw [← hW]; simp)
  have E1 : ∀ d os, (Go.Sort.grow (redrawn W d) os).cell? ⟨w.heap.size, 1, none⟩ = some (.int .i64 y1) := cell_regrown (by rw [← hW]; simp)
  have E2 : ∀ d os, (Go.Sort.grow (redrawn W d) os).cell? ⟨w.heap.size, 2, none⟩ = some (.int .i64 z1) := cell_regrown (by rw [← hW]; simp)
  have E3 : ∀ d os, (Go.Sort.grow (redrawn W d) os).cell? ⟨w.heap.size, 3, none⟩ = some (.int .i64 p1) := cell_regrown (by rw [← hW]; simp)
  have E4 : ∀ d os, (Go.Sort.grow (redrawn W d) os).cell? ⟨w.heap.size, 4, none⟩ = some (.int .i64 s1) := cell_regrown (by rw [← hW]; simp)
  have F0 : ∀ d os, (Go.Sort.grow (redrawn W d) os).cell? ⟨w.heap.size + 1, 0, none⟩ = some (.int .i64 x2) := cell_regrown (by rw [← hW]; simp)
  have F1 : ∀ d os, (Go.Sort.grow (redrawn W d) os).cell? ⟨w.heap.size + 1, 1, none⟩ = some (.int .i64 y2) := cell_regrown (by rw [← hW]; simp)
  have F2 : ∀ d os, (Go.Sort.grow (redrawn W d) os).cell? ⟨w.heap.size + 1, 2, none⟩ = some (.int .i64 z2) := cell_regrown (by rw [← hW]; simp)
  have F3 : ∀ d os, (Go.Sort.grow (redrawn W d) os).cell? ⟨w.heap.size + 1, 3, none⟩ = some (.int .i64 p2) := cell_regrown (by rw [← hW]; simp)
  have F4 : ∀ d os, (Go.Sort.grow (redrawn W d) os).cell? ⟨w.heap.size + 1, 4, none⟩ = some (.int .i64 s2) := cell_regrown (by rw [← hW]; simp)
  have cN : ∀ d os, Calls Tryz.prog 75 #[.agg #[.int .i64 x1, .int .i64 y1, .int .i64 z1, .int .i64 p1, .int .i64 s1], .agg #[.int .i64 x2, .int .i64 y2, .int .i64 z2, .int .i64 p2, .int .i64 s2]] (Go.Sort.grow (redrawn W d) os) fun e w'' => e = .returned (.int .i64 r) ∧ ∃ p : Regrown, w'' = Go.Sort.grow (redrawn W p.d) p.os := fun d os =>
    Calls.regrown_of ((hap _).mono (by rintro e w' ⟨rfl, hb⟩; exact ⟨rfl, hb⟩))
  clear hap
  go_enter Tryz.func56, Tryz.ntmps56
  go_wp2_with fail
  refine wp_region_quiet_below (by kernel_rfl) (by kernel_rfl) ?_
  repeat (quiet_step (exact cN _ _))
  refine wpQuiet_nil ?_
  intro _ hw'
  obtain ⟨⟨dq, osq⟩, hw''⟩ := hw'
  subst hw''
  have HBQ : Hid (Below W.heap.size W (Go.Sort.grow (redrawn W dq) osq)) := below_regrown W dq osq
  clear cN E0 E1 E2 E3 E4 F0 F1 F2 F3 F4
  go_wp2_with fail
  go_ret
  exact ⟨retn (by rw [wrapk_id (m := r + p1) (by omega) (by omega), wrapk_id (by omega) (by omega)]; exact HE.out.symm), HW.out.trans (HBQ.out.mono HW.out.size)⟩


end Go.Proofs.YtignmeaeibaejaaGreat

/- Leaves: labels, numbers within bounds, texts and their order; what the builtin copy does. -/
namespace Go.Proofs.YtignmeaeibaejaaGreat
open Go.RowKit

def within (n a b : Int) : Bool := decide (a ≤ n) && decide (n ≤ b)

def lbB (n : Int) : Bool := (decide (97 ≤ n) && decide (n ≤ 122)) || (decide (48 ≤ n) && decide (n ≤ 57)) || decide (n = 45) || decide (n = 95)

/-- A LABEL of chapter 1. -/
def labB (s : ByteArray) : Bool := decide (1 ≤ s.size) && decide (s.size ≤ 30) && s.data.toList.all (fun c => lbB c.toNat)

theorem ret_bool {a b : Bool} (h : a = b) : Ending.returned (.bool a) = .returned (.bool b) := by rw [h]
theorem ret_int {k : IntKind} {a b : Int} (h : a = b) : Ending.returned (.int k a) = .returned (.int k b) := by rw [h]
theorem take_snoc (s : ByteArray) (k : Nat) (h : k < s.size) : s.data.toList.take (k + 1) = s.data.toList.take k ++ [s[k]] := by
  rw [List.take_succ_eq_append_getElem (by simpa using h)]; rfl
theorem take_all (s : ByteArray) (k : Nat) (h : s.size ≤ k) : s.data.toList.take k = s.data.toList :=
  List.take_of_length_le (by simpa using h)
theorem labs_step (s : ByteArray) (k : Nat) (h : k < s.size) (hk : (s.data.toList.take k).all (fun c => lbB c.toNat) = true) (hb : lbB (s[k].toNat : Int) = true) :
    (s.data.toList.take (k + 1)).all (fun c => lbB c.toNat) = true := by
  rw [take_snoc s k h, List.all_append, hk]; simp [hb]
theorem labs_not (s : ByteArray) (k : Nat) (h : k < s.size) (hb : lbB (s[k].toNat : Int) = false) : labB s = false := by
  have : s.data.toList.all (fun c => lbB c.toNat) = false := by
    rw [List.all_eq_false]
    refine ⟨s[k], ?_, by simp [hb]⟩
    exact List.getElem_mem (l := s.data.toList) (n := k) (by simpa using h)
  simp [labB, this]

set_option maxHeartbeats 400000 in
theorem within_any (n a b : Int) (w : World) :
    Calls Tryz.prog 36 #[.int .i64 n, .int .i64 a, .int .i64 b] w fun e w' => e = .returned (.bool (within n a b)) ∧ w' = w := by
  go_enter Tryz.func36, Tryz.ntmps36
  go_wp2
  all_goals
    go_ret
    exact ⟨ret_bool (by unfold within; rw [Bool.eq_iff_iff]; simp; try omega), rfl⟩

set_option maxHeartbeats 400000 in
theorem between_any (n a b : Int) (w : World) :
    Calls Tryz.prog 54 #[.int .i64 n, .int .i64 a, .int .i64 b] w fun e w' => e = .returned (.bool (within n a b)) ∧ w' = w := by
  go_enter Tryz.func54, Tryz.ntmps54
  go_wp2
  all_goals
    go_ret
    exact ⟨ret_bool (by unfold within; rw [Bool.eq_iff_iff]; simp; try omega), rfl⟩

set_option maxHeartbeats 400000 in
theorem address_any (n : Int) (w : World) :
    Calls Tryz.prog 60 #[.int .i64 n] w fun e w' => e = .returned (.bool (within n 0 4294967295)) ∧ w' = w := by
  go_enter Tryz.func60, Tryz.ntmps60
  go_wp2_with (go_at_call 36; refine (within_any _ _ _ _).mono ?_; rintro e w' ⟨rfl, rfl⟩)
  go_ret
  exact ⟨rfl, rfl⟩

set_option maxHeartbeats 400000 in
theorem isAddress_any (n : Int) (w : World) :
    Calls Tryz.prog 74 #[.int .i64 n] w fun e w' => e = .returned (.bool (within n 0 4294967295)) ∧ w' = w := by
  go_enter Tryz.func74, Tryz.ntmps74
  go_wp2_with (go_at_call 54; refine (between_any _ _ _ _).mono ?_; rintro e w' ⟨rfl, rfl⟩)
  go_ret
  exact ⟨rfl, rfl⟩

set_option maxHeartbeats 800000 in
theorem labelByte_any (n : Int) (w : World) :
    Calls Tryz.prog 37 #[.int .u8 n] w fun e w' => e = .returned (.bool (lbB n)) ∧ w' = w := by
  go_enter Tryz.func37, Tryz.ntmps37
  go_wp2
  all_goals
    go_ret
    exact ⟨ret_bool (by unfold lbB; rw [Bool.eq_iff_iff]; simp; try omega), rfl⟩

set_option maxHeartbeats 800000 in
theorem label_any (s : ByteArray) (w : World) (hs : s.size ≤ maxLen) :
    Calls Tryz.prog 21 #[.string s] w fun e w' => e = .returned (.bool (labB s)) ∧ w' = w := by
  unfold maxLen at hs
  by_cases hz : within (s.size : Int) 1 30 = true
  · have hz' : 1 ≤ s.size ∧ s.size ≤ 30 := by simp [within] at hz; omega
    go_enter Tryz.func21, Tryz.ntmps21
    go_wp2_with (go_at_call 36; refine (within_any _ _ _ _).mono ?_; rintro e w' ⟨rfl, rfl⟩; rw [hz])
    go_loop [10] (fun i => ∃ k : Nat, k ≤ s.size ∧ i = .int .i64 k ∧ (s.data.toList.take k).all (fun c => lbB c.toNat) = true) (fun i => s.size - (intOf i).toNat)
    case atStart => exact ⟨0, Nat.zero_le _, rfl, rfl⟩
    case round =>
      obtain ⟨k, hk, rfl, hall⟩ := hrel
      have HA : Hid ((s.data.toList.take k).all (fun c => lbB c.toNat) = true) := hall
      clear hall
      by_cases hlt : k < s.size
      · by_cases hb : lbB (s[k].toNat : Int) = true
        · go_wp2_with (go_at_call 37; refine (labelByte_any _ _).mono ?_; rintro e w' ⟨rfl, rfl⟩; rw [hb])
          go_round
          case rel => exact ⟨k + 1, by omega, by go_num, labs_step s k hlt HA.out hb⟩
          case measure => simp [intOf]; omega
        · have hb' : lbB (s[k].toNat : Int) = false := by simpa using hb
          go_wp2_with (go_at_call 37; refine (labelByte_any _ _).mono ?_; rintro e w' ⟨rfl, rfl⟩; rw [hb'])
          go_ret
          exact ⟨ret_bool (labs_not s k hlt hb').symm, rfl⟩
      · go_wp2
        go_ret
        have h2 := HA.out
        rw [take_all s k (by omega)] at h2
        exact ⟨ret_bool (by simp [labB, h2, hz'.1, hz'.2]), rfl⟩
  · have hz' : within (s.size : Int) 1 30 = false := by simpa using hz
    go_enter Tryz.func21, Tryz.ntmps21
    go_wp2_with (go_at_call 36; refine (within_any _ _ _ _).mono ?_; rintro e w' ⟨rfl, rfl⟩; rw [hz'])
    go_ret
    refine ⟨ret_bool ?_, rfl⟩
    symm
    simp only [within, Bool.and_eq_false_iff, decide_eq_false_iff_not] at hz'
    simp only [labB, Bool.and_eq_false_iff, decide_eq_false_iff_not]
    rcases hz' with h | h
    · exact .inl (.inl (by omega))
    · exact .inl (.inr (by omega))

theorem lbB_iff (n : Int) : lbB n = true ↔ (97 ≤ n ∧ n ≤ 122) ∨ (48 ≤ n ∧ n ≤ 57) ∨ n = 45 ∨ n = 95 := by
  unfold lbB; simp [or_assoc]
theorem lbB_not (n : Int) : lbB n = false ↔ ¬ ((97 ≤ n ∧ n ≤ 122) ∨ (48 ≤ n ∧ n ≤ 57) ∨ n = 45 ∨ n = 95) := by
  rw [← lbB_iff]; simp

set_option maxHeartbeats 1600000 in
theorem isLabel_any (s : ByteArray) (w : World) (hs : s.size ≤ maxLen) :
    Calls Tryz.prog 28 #[.string s] w fun e w' => e = .returned (.bool (labB s)) ∧ w' = w := by
  unfold maxLen at hs
  go_enter Tryz.func28, Tryz.ntmps28
  go_wp2
  go_loop [3] (fun i => ∃ k : Nat, k ≤ s.size ∧ i = .int .i64 k ∧ (s.data.toList.take k).all (fun c => lbB c.toNat) = true) (fun i => s.size - (intOf i).toNat)
  case atStart => exact ⟨0, Nat.zero_le _, rfl, rfl⟩
  case round =>
    obtain ⟨k, hk, rfl, hall⟩ := hrel
    have HA : Hid ((s.data.toList.take k).all (fun c => lbB c.toNat) = true) := hall
    clear hall
    by_cases hlt : k < s.size
    · have hstep := labs_step s k hlt HA.out
      have hnot := labs_not s k hlt
      have H1 : Hid (lbB (s[k].toNat : Int) = true → (s.data.toList.take (k + 1)).all (fun c => lbB c.toNat) = true) := hstep
      have H2 : Hid (lbB (s[k].toNat : Int) = false → labB s = false) := hnot
      clear hstep hnot
      go_wp2
      all_goals first
        | (go_ret
           exact ⟨ret_bool (H2.out ((lbB_not _).2 (by simp at *; omega))).symm, rfl⟩)
        | (refine ⟨⟨k + 1, by omega, by go_num, H1.out ((lbB_iff _).2 ?_)⟩, by simp [intOf]; omega⟩
           simp at *
           omega)
    · have h2 := HA.out
      rw [take_all s k (by omega)] at h2
      have H3 : Hid (s.data.toList.all (fun c => lbB c.toNat) = true) := h2
      clear h2
      go_wp2
      all_goals
        go_ret
        refine ⟨ret_bool ?_, rfl⟩
        unfold labB
        rw [H3.out, Bool.eq_iff_iff]
        simp
        try omega

theorem bcell {W w1 : World} (hb : Below W.heap.size W w1) : (∀ b o, b < W.heap.size → w1.cell? ⟨b, o, none⟩ = W.cell? ⟨b, o, none⟩) ∧ (∀ b o, b < W.heap.size → w1.frozen? ⟨b, o, none⟩ = W.frozen? ⟨b, o, none⟩) :=
  ⟨fun b o h => hb.cell (p := ⟨b, o, none⟩) h, fun b o h => hb.frozen (p := ⟨b, o, none⟩) h⟩

def less (a b : ByteArray) : Bool := Op.bytesLess a.toList b.toList

theorem bl_irrefl : ∀ a : List UInt8, Op.bytesLess a a = false
  | [] => rfl
  | x :: r => by simp [Op.bytesLess, bl_irrefl r]

theorem bl_total : ∀ a b : List UInt8, (!(Op.bytesLess a b)) = (Op.bytesLess b a || b == a)
  | [], [] => rfl
  | [], _ :: _ => rfl
  | _ :: _, [] => rfl
  | x :: r, y :: t => by
    have := bl_total r t
    by_cases h1 : x < y
    · have h2 : ¬ y < x := by rw [UInt8.lt_iff_toNat_lt] at *; omega
      have h3 : ¬ y = x := by rintro rfl; rw [UInt8.lt_iff_toNat_lt] at *; omega
      simp [Op.bytesLess, h1, h2, h3]
    · by_cases h2 : y < x
      · have h3 : ¬ y = x := by rintro rfl; rw [UInt8.lt_iff_toNat_lt] at *; omega
        have h4 : ¬ x = y := fun h => h3 h.symm
        simp [Op.bytesLess, h1, h2, h4]
      · have h3 : y = x := by
          apply UInt8.toNat_inj.1
          rw [UInt8.lt_iff_toNat_lt] at *; omega
        subst h3
        simp [Op.bytesLess]
        simpa using this

def cmpI (a b : ByteArray) : Int := Lib.compareBytes a.data.toList b.data.toList

theorem cmpstring_run (a b : ByteArray) (w : World) : (callFunc 96 #[.string a, .string b]).run Tryz.prog w = .ok (.value (.int .i64 (cmpI a b))) w := by
  rw [run_callFunc_extern Tryz.func96 (by kernel_rfl) (by kernel_rfl) (by kernel_rfl) (e := Extern.BytealgCompare.compare) (by kernel_rfl), Lib.run_compareString]
  rfl

set_option maxHeartbeats 400000 in
theorem compare_any (a b : ByteArray) (w : World) :
    Calls Tryz.prog 62 #[.string a, .string b] w fun e w' => e = .returned (.int .i64 (cmpI a b)) ∧ w' = w := by
  have hc := cmpstring_run
  go_enter Tryz.func62, Tryz.ntmps62
  go_wp2
  go_ret
  exact ⟨rfl, rfl⟩

theorem cb_lt : ∀ a b : List UInt8, Lib.compareBytes a b < 0 ↔ Op.bytesLess a b = true
  | [], [] => by simp [Lib.compareBytes, Op.bytesLess]
  | [], _ :: _ => by simp [Lib.compareBytes, Op.bytesLess]
  | _ :: _, [] => by simp [Lib.compareBytes, Op.bytesLess]
  | x :: r, y :: t => by
    have ih := cb_lt r t
    by_cases h1 : x < y
    · simp [Lib.compareBytes, Op.bytesLess, h1]
    · by_cases h2 : y < x
      · have h3 : ¬ x = y := by rintro rfl; exact h1 h2
        simp [Lib.compareBytes, Op.bytesLess, h1, h2, h3]
      · have h3 : x = y := by
          apply UInt8.toNat_inj.1
          rw [UInt8.lt_iff_toNat_lt] at *; omega
        subst h3
        simpa [Lib.compareBytes, Op.bytesLess] using ih

theorem cb_eq : ∀ a b : List UInt8, Lib.compareBytes a b = 0 ↔ a = b
  | [], [] => by simp [Lib.compareBytes]
  | [], _ :: _ => by simp [Lib.compareBytes]
  | _ :: _, [] => by simp [Lib.compareBytes]
  | x :: r, y :: t => by
    have ih := cb_eq r t
    by_cases h1 : x < y
    · have h3 : ¬ x = y := by rintro rfl; rw [UInt8.lt_iff_toNat_lt] at *; omega
      simp [Lib.compareBytes, h1, h3]
    · by_cases h2 : y < x
      · have h3 : ¬ x = y := by rintro rfl; exact h1 h2
        simp [Lib.compareBytes, h1, h2, h3]
      · have h3 : x = y := by
          apply UInt8.toNat_inj.1
          rw [UInt8.lt_iff_toNat_lt] at *; omega
        subst h3
        simpa [Lib.compareBytes] using ih

theorem bl_trans : ∀ a b c : List UInt8, Op.bytesLess a b = true → Op.bytesLess b c = true → Op.bytesLess a c = true
  | [], [], _, h, _ => by simp [Op.bytesLess] at h
  | [], _ :: _, [], _, h => by simp [Op.bytesLess] at h
  | [], _ :: _, _ :: _, _, _ => by simp [Op.bytesLess]
  | _ :: _, [], _, h, _ => by simp [Op.bytesLess] at h
  | _ :: _, _ :: _, [], _, h => by simp [Op.bytesLess] at h
  | x :: r, y :: t, z :: u, h1, h2 => by
    have ih := bl_trans r t u
    simp only [Op.bytesLess, Bool.or_eq_true, Bool.and_eq_true, decide_eq_true_eq, beq_iff_eq] at h1 h2 ⊢
    rcases h1 with h1 | ⟨rfl, h1⟩
    · rcases h2 with h2 | ⟨rfl, h2⟩
      · left; rw [UInt8.lt_iff_toNat_lt] at *; omega
      · left; exact h1
    · rcases h2 with h2 | ⟨rfl, h2⟩
      · left; exact h2
      · right; exact ⟨rfl, ih h1 h2⟩

theorem ba_ext {a b : ByteArray} (h : a.data.toList = b.data.toList) : a = b := by
  obtain ⟨⟨la⟩⟩ := a; obtain ⟨⟨lb⟩⟩ := b; simp at h; subst h; rfl

theorem cmpI_lt (a b : ByteArray) : cmpI a b < 0 ↔ less a b = true := by
  unfold cmpI less; rw [Lib.toList_data, Lib.toList_data]; exact cb_lt _ _
theorem cmpI_eq (a b : ByteArray) : cmpI a b = 0 ↔ a = b := by
  unfold cmpI; rw [cb_eq]; exact ⟨ba_ext, fun h => by rw [h]⟩
theorem less_trans {a b c : ByteArray} (h1 : less a b = true) (h2 : less b c = true) : less a c = true := bl_trans _ _ _ h1 h2
theorem less_irrefl (a : ByteArray) : less a a = false := bl_irrefl _
theorem less_total (a b : ByteArray) : less a b = true ∨ a = b ∨ less b a = true := by
  have h := bl_total a.toList b.toList
  unfold less
  cases h1 : Op.bytesLess a.toList b.toList
  · rw [h1] at h
    cases h2 : Op.bytesLess b.toList a.toList
    · rw [h2] at h
      right; left
      have : b.toList = a.toList := by simpa using h.symm
      rw [Lib.toList_data, Lib.toList_data] at this
      exact (ba_ext this).symm
    · right; right; rfl
  · left; rfl
theorem less_asymm {a b : ByteArray} (h1 : less a b = true) : less b a = false := by
  cases h : less b a
  · rfl
  · have := less_trans h1 h; rw [less_irrefl] at this; cases this
theorem cmpI_gt (a b : ByteArray) : 0 < cmpI a b ↔ less b a = true := by
  have h1 := cmpI_lt a b
  have h2 := cmpI_eq a b
  rcases less_total a b with h | rfl | h
  · have := h1.2 h
    rw [less_asymm h]
    simp; omega
  · rw [less_irrefl]; have := h2.2 rfl; simp; omega
  · rw [h]
    have h3 : ¬ cmpI a b < 0 := fun hh => by rw [h1, less_asymm h] at hh; cases hh
    have h4 : ¬ cmpI a b = 0 := fun hh => by rw [h2] at hh; subst hh; rw [less_irrefl] at h; cases h
    simp; omega

theorem run_copy_k {P : Program} (w : World) (dT sT ty elem : TypeId) (g o dLen dCap : Nat) (a : Addr) (sLen sCap k : Nat) (cur : Array Value) (t : TypeId) (cs : List Value)
    (hu : P.underlying dT = some (.slice elem)) (hs : (P.info? elem).map (·.size) = some k)
    (hg : w.heap[g]? = some (.cells cur t (0, 0))) (hn : cs.length = Nat.min sLen dLen * k)
    (hsrc : ∀ j v, cs[j]? = some v → w.cell? (a.add j) = some v) (hfit : o + cs.length ≤ cur.size) (h1 : ∀ v ∈ cs, v.oneCell' = true) :
    (Builtin.copy_ #[dT, sT] ty #[.slice (some ⟨g, o, none⟩) dLen dCap, .slice (some a) sLen sCap]).run P w =
      .ok (goInt (Nat.min sLen dLen)) (w.setRow g (cur.toList.take o ++ cs ++ cur.toList.drop (o + cs.length)).toArray) := by
  have hl := run_loadCells_list (P := P) w a cs hsrc
  have hst := run_storeCells_at P g o t cs 0 cur w hg (by simpa using hfit) h1
  cases hq : P.info? elem with
  | none => simp [hq] at hs
  | some i =>
    have hi : i.size = k := by simpa [hq] using hs
    simp [Builtin.copy_, run_underlying hu, Builtin.lenOf, Builtin.firstCells, sizeOf, typeInfo, hq, hi, ← hn, hl, hst]

theorem wpList_copy_runM {P : Program} (w : World) {ops : Array Oper} {rest : List Oper} {o : Oper} {a : Act} {Q : Exit → Act → World → Prop} (hgd : o.guard = none) (d s : Operand) (t t' : TypeId)
    (ho : o.op = .call { callee := .builtin .copy, args := #[d, s], argTypes := #[t, t'] }) (v u : Value) (hd : a.eval d = v) (hs : a.eval s = u) {v' : Value} {w' : World}
    (hr : (Builtin.copy_ #[t, t'] o.type #[v, u]).run P w = .ok v' w') (h : wpList P ops Q rest (a.put o.dst v') w') : wpList P ops Q (o :: rest) a w := by
  refine wpList_plain hgd fun _ hK => ?_
  unfold Oper.wp execOp
  simp only [ho, resolve, invoke, builtin, Sem.run_bind, Sem.run_pure, Result.andThen_ok, List.map_toArray, List.map_cons, List.map_nil, hd, hs, hr]
  exact hK _ _ h

theorem step_copy_runM {P : Program} {ops : Array Oper} {o : Oper} {a : Act} {w : World} {K : Act → World → Prop} {Q : Exit → Act → World → Prop} {E : Prop}
    (hg : o.guard = none) (d x : Operand) (dT sT : TypeId) (hop : o.op = Op.call { callee := Callee.builtin Builtin.copy, args := #[d, x], argTypes := #[dT, sT] })
    (v u : Value) (hd : a.eval d = v) (hx : a.eval x = u) {v' : Value} {w' : World} (hr : (Builtin.copy_ #[dT, sT] o.type #[v, u]).run P w = .ok v' w') (hK : K (a.put o.dst v') w') :
    if Region.wanted o (yielded ops a.tmps) = true then Oper.wp P o a w K Q else E := by
  have hw : Region.wanted o (yielded ops a.tmps) = true := by simp [Region.wanted, hg]
  rw [if_pos hw]
  unfold Oper.wp
  simp [execOp, hop, resolve, invoke, builtin, hd, hx, hr, Result.andThen]
  exact hK

theorem cellsAt {w : World} {g : Nat} {cur : Array Value} {t : TypeId} {fr : Nat × Nat} (hg : w.heap[g]? = some (.cells cur t fr)) (o : Nat) : w.cell? ⟨g, o, none⟩ = cur[o]? := by
  simp [World.cell?, hg]

theorem beq_name {a b : ByteArray} (h : a ≠ b) : (a.toList == b.toList) = false ∧ ¬ a.toList = b.toList := by
  have h2 : ¬ a.toList = b.toList := fun e => h (ba_ext (by rw [Lib.toList_data, Lib.toList_data] at e; exact e))
  exact ⟨by simpa using h2, h2⟩

theorem cell_topL {W : World} {cs : Array Value} {t : TypeId} {g k : Nat} (hg : g = W.heap.size) : (W.alloc (.cells cs t)).cell? ⟨g, k, none⟩ = cs[k]? := by subst hg; simp
theorem grown_any {w w' : World} (h : w.grownBy w' none) (row : Option Nat) : w.grownBy w' row := ⟨h.os, h.tape, h.output, h.size, fun k hk _ => h.block k hk (by simp)⟩

end Go.Proofs.YtignmeaeibaejaaGreat

