/- MM, RU8, RU9, RU10, RU6, RU11, RU12 -/
import Derived.Test.YtigffgjkakalfaaGreatDoorV5
import Derived.Lib.QuietBelow
import Derived.Lib.ItoaNum
import Derived.Deep.RegionHeld3
/- Newer, and the laws' own walks: MemberChecks, MemberNewer. -/
namespace Go.Proofs.YtigffgjkakalfaaGreatDoor
open Go.RowKit

/-- B2: Newer's errno. -/
def newE (a b : Mem) : Int := if chkTwo [a] [b] = 0 then (if a.name = b.name then 0 else 1) else chkTwo [a] [b]

theorem bne_name (a b : ByteArray) : (a.toList != b.toList) = true ↔ a ≠ b := by
  rw [bne_iff_ne, Lib.toList_data, Lib.toList_data]
  exact ⟨fun h e => h (by rw [e]), fun h e => h (ba_ext e)⟩

theorem checkAll_alone (a b : Mem) (w : World) (ha : a.name.size ≤ maxLen) (hb : b.name.size ≤ maxLen) :
    Calls Tryz.prog 54 #[.slice (some ⟨w.heap.size + 1 + 1 + 1 + 1 + 1 + 1, 0, none⟩) 2 2]
      ((((((((w.alloc (.cells #[.string a.name, .int .i64 a.state, .int .i64 a.life, .int .i64 a.addr, .bool a.server] 24)).alloc (.cells #[.string b.name, .int .i64 b.state, .int .i64 b.life, .int .i64 b.addr, .bool b.server] 24)).alloc
        (.cells #[.string a.name, .int .i64 a.state, .int .i64 a.life, .int .i64 a.addr, .bool a.server] 24)).alloc (.cells #[.string a.name, .int .i64 a.state, .int .i64 a.life, .int .i64 a.addr, .bool a.server] 24)).alloc
        (.cells #[.string b.name, .int .i64 b.state, .int .i64 b.life, .int .i64 b.addr, .bool b.server] 24)).alloc (.cells #[.string b.name, .int .i64 b.state, .int .i64 b.life, .int .i64 b.addr, .bool b.server] 24)).alloc
        (.cells #[.slice (some ⟨w.heap.size + 1 + 1 + 1, 0, none⟩) 1 1, .slice (some ⟨w.heap.size + 1 + 1 + 1 + 1 + 1, 0, none⟩) 1 1] 22)).drew)
      fun e w' => e = .returned (.int .i64 (chkTwo [a] [b])) ∧ Below (w.heap.size + 1 + 1) ((w.alloc (.cells #[.string a.name, .int .i64 a.state, .int .i64 a.life, .int .i64 a.addr, .bool a.server] 24)).alloc (.cells #[.string b.name, .int .i64 b.state, .int .i64 b.life, .int .i64 b.addr, .bool b.server] 24)) w' := by
  obtain ⟨A, hA⟩ : ∃ A : Obj, A = .cells #[.string a.name, .int .i64 a.state, .int .i64 a.life, .int .i64 a.addr, .bool a.server] 24 := ⟨_, rfl⟩
  obtain ⟨B, hB⟩ : ∃ B : Obj, B = .cells #[.string b.name, .int .i64 b.state, .int .i64 b.life, .int .i64 b.addr, .bool b.server] 24 := ⟨_, rfl⟩
  obtain ⟨Pq, hP⟩ : ∃ P : Obj, P = .cells #[.slice (some ⟨w.heap.size + 1 + 1 + 1, 0, none⟩) 1 1, .slice (some ⟨w.heap.size + 1 + 1 + 1 + 1 + 1, 0, none⟩) 1 1] 22 := ⟨_, rfl⟩
  rw [← hA, ← hB, ← hP]
  have hbW : Below (w.heap.size + 1 + 1) ((w.alloc A).alloc B) ((((((((w.alloc A).alloc B).alloc A).alloc A).alloc B).alloc B).alloc Pq).drew) :=
    ((((((Below.refl _ _).alloc (by simp) A).alloc (by simp <;> omega) A).alloc (by simp <;> omega) B).alloc (by simp <;> omega) B).alloc (by simp <;> omega) Pq).drew
  have hgp : ((((((((w.alloc A).alloc B).alloc A).alloc A).alloc B).alloc B).alloc Pq).drew).heap[w.heap.size + 1 + 1 + 1 + 1 + 1 + 1]? = some Pq := by
    have h := heap_alloc_new ((((((w.alloc A).alloc B).alloc A).alloc A).alloc B).alloc B) Pq
    rw [show ((((((w.alloc A).alloc B).alloc A).alloc A).alloc B).alloc B).heap.size = w.heap.size + 1 + 1 + 1 + 1 + 1 + 1 by simp] at h
    exact h
  have hga : ((((((((w.alloc A).alloc B).alloc A).alloc A).alloc B).alloc B).alloc Pq).drew).heap[w.heap.size + 1 + 1 + 1]? = some A := by
    have h1 := heap_alloc_new (((w.alloc A).alloc B).alloc A) A
    rw [show (((w.alloc A).alloc B).alloc A).heap.size = w.heap.size + 1 + 1 + 1 by simp] at h1
    have h2 := Below.heap_alloc ((((w.alloc A).alloc B).alloc A).alloc A) B (w.heap.size + 1 + 1 + 1) (by simp)
    have h3 := Below.heap_alloc (((((w.alloc A).alloc B).alloc A).alloc A).alloc B) B (w.heap.size + 1 + 1 + 1) (by simp <;> omega)
    have h4 := Below.heap_alloc ((((((w.alloc A).alloc B).alloc A).alloc A).alloc B).alloc B) Pq (w.heap.size + 1 + 1 + 1) (by simp <;> omega)
    exact h4.trans (h3.trans (h2.trans h1))
  have hgb : ((((((((w.alloc A).alloc B).alloc A).alloc A).alloc B).alloc B).alloc Pq).drew).heap[w.heap.size + 1 + 1 + 1 + 1 + 1]? = some B := by
    have h1 := heap_alloc_new (((((w.alloc A).alloc B).alloc A).alloc A).alloc B) B
    rw [show (((((w.alloc A).alloc B).alloc A).alloc A).alloc B).heap.size = w.heap.size + 1 + 1 + 1 + 1 + 1 by simp] at h1
    have h4 := Below.heap_alloc ((((((w.alloc A).alloc B).alloc A).alloc A).alloc B).alloc B) Pq (w.heap.size + 1 + 1 + 1 + 1 + 1) (by simp)
    exact h4.trans h1
  have hsz : ((((((((w.alloc A).alloc B).alloc A).alloc A).alloc B).alloc B).alloc Pq).drew).heap.size = w.heap.size + 1 + 1 + 1 + 1 + 1 + 1 + 1 := by simp
  generalize ((((((((w.alloc A).alloc B).alloc A).alloc A).alloc B).alloc B).alloc Pq).drew) = W at *
  have hgp' := hgp.trans (congrArg some hP)
  refine (checkAll_two [a] [b] _ _ _ 2 W (sl_one W _ 1 a ha (hga.trans (congrArg some hA))) (sl_one W _ 1 b hb (hgb.trans (congrArg some hB))) (by omega) (cellsAt hgp' 0) (cellsAt hgp' 1)).mono ?_
  rintro e w' ⟨rfl, h⟩
  exact ⟨rfl, hbW.trans (h.mono (by omega))⟩

set_option maxHeartbeats 1600000 in
set_option maxRecDepth 100000 in
theorem newer2_bad (a b : Mem) (w : World) (ha : a.name.size ≤ maxLen) (hb : b.name.size ≤ maxLen) (hne0 : chkTwo [a] [b] ≠ 0) :
    Calls Tryz.prog 50 #[.agg #[.string a.name, .int .i64 a.state, .int .i64 a.life, .int .i64 a.addr, .bool a.server], .agg #[.string b.name, .int .i64 b.state, .int .i64 b.life, .int .i64 b.addr, .bool b.server]] w
      fun e w' => e = .returned (.tuple #[.bool (newE a b == 0 && newM a b), .int .i64 (newE a b)]) ∧ Below w.heap.size w w' := by
  have hne : (chkTwo [a] [b] != 0) = true := by simpa using hne0
  have HE : Hid (newE a b = chkTwo [a] [b]) := if_neg hne0
  have HN : Hid (chkTwo [a] [b] ≠ 0) := hne0
  clear hne0
  go_enter Tryz.func50, Tryz.ntmps50
  go_wp2_with fail
  go_region_with (first | (go_at_call 23; refine (alone_any _ _ _ _ _ _).mono ?_; rintro e w' ⟨rfl, rfl⟩) | (go_at_call 54; refine (checkAll_alone a b w ha hb).mono ?_; rintro e w1 ⟨rfl, hb1⟩))
  all_goals
    go_wp2_with fail
    go_ret2
    refine ⟨?_, ?_⟩
    · rw [HE.out, show (chkTwo [a] [b] == 0) = false by simpa using HN.out]; rfl
    · exact (((Below.refl _ _).alloc (Nat.le_refl _) _).alloc (by simp) _).trans (hb1.mono (by omega))

set_option maxHeartbeats 1600000 in
set_option maxRecDepth 100000 in
theorem newer2_form (a b : Mem) (w : World) (ha : a.name.size ≤ maxLen) (hb : b.name.size ≤ maxLen) (h0 : chkTwo [a] [b] = 0) (hnm : a.name ≠ b.name) :
    Calls Tryz.prog 50 #[.agg #[.string a.name, .int .i64 a.state, .int .i64 a.life, .int .i64 a.addr, .bool a.server], .agg #[.string b.name, .int .i64 b.state, .int .i64 b.life, .int .i64 b.addr, .bool b.server]] w
      fun e w' => e = .returned (.tuple #[.bool (newE a b == 0 && newM a b), .int .i64 (newE a b)]) ∧ Below w.heap.size w w' := by
  have hz : (chkTwo [a] [b] != 0) = false := by simpa using h0
  have hn : (a.name.toList == b.name.toList) = false := by have h := (bne_name a.name b.name).2 hnm; simpa using h
  have hn3 : ¬ a.name.toList = b.name.toList := by simpa using hn
  have HE : Hid (newE a b = 1) := (show newE a b = 1 by rw [newE, if_pos h0, if_neg hnm])
  clear hnm h0
  go_enter Tryz.func50, Tryz.ntmps50
  go_wp2_with fail
  go_region_with (first | (go_at_call 23; refine (alone_any _ _ _ _ _ _).mono ?_; rintro e w' ⟨rfl, rfl⟩) | (go_at_call 54; refine (checkAll_alone a b w ha hb).mono ?_; rintro e w1 ⟨rfl, hb1⟩))
  all_goals
    have hsz := hb1.size
    have hbc : ∀ k o, k < w.heap.size + 1 + 1 → w1.cell? ⟨k, o, none⟩ = ((w.alloc (.cells #[.string a.name, .int .i64 a.state, .int .i64 a.life, .int .i64 a.addr, .bool a.server] 24)).alloc (.cells #[.string b.name, .int .i64 b.state, .int .i64 b.life, .int .i64 b.addr, .bool b.server] 24)).cell? ⟨k, o, none⟩ := fun k o h => hb1.cell (p := ⟨k, o, none⟩) h
    have hwl : w.heap.size < w.heap.size + 1 + 1 := by omega
    have hwl2 : w.heap.size + 1 < w.heap.size + 1 + 1 := by omega
    go_wp2_with fail
    go_ret2
    refine ⟨?_, ?_⟩
    · rw [HE.out]; rfl
    · exact (((Below.refl _ _).alloc (Nat.le_refl _) _).alloc (by simp) _).trans (hb1.mono (by omega))

set_option maxHeartbeats 1600000 in
set_option maxRecDepth 100000 in
theorem newer2_same (na : ByteArray) (sa la aa : Int) (va : Bool) (sb lb ab : Int) (vb : Bool) (w : World) (ha : na.size ≤ maxLen) (h0 : chkTwo [⟨na, sa, la, aa, va⟩] [⟨na, sb, lb, ab, vb⟩] = 0) :
    Calls Tryz.prog 50 #[.agg #[.string na, .int .i64 sa, .int .i64 la, .int .i64 aa, .bool va], .agg #[.string na, .int .i64 sb, .int .i64 lb, .int .i64 ab, .bool vb]] w
      fun e w' => e = .returned (.tuple #[.bool (newB sa la aa va sb lb ab vb), .int .i64 0]) ∧ Below w.heap.size w w' := by
  have hz : (chkTwo [⟨na, sa, la, aa, va⟩] [⟨na, sb, lb, ab, vb⟩] != 0) = false := by simpa using h0
  clear h0
  go_enter Tryz.func50, Tryz.ntmps50
  go_wp2_with fail
  go_region_with (first | (go_at_call 23; refine (alone_any _ _ _ _ _ _).mono ?_; rintro e w' ⟨rfl, rfl⟩) | (go_at_call 54; refine (checkAll_alone ⟨na, sa, la, aa, va⟩ ⟨na, sb, lb, ab, vb⟩ w ha ha).mono ?_; rintro e w1 ⟨rfl, hb1⟩))
  all_goals
    have hsz := hb1.size
    have hbc : ∀ k o, k < w.heap.size + 1 + 1 → w1.cell? ⟨k, o, none⟩ = ((w.alloc (.cells #[.string na, .int .i64 sa, .int .i64 la, .int .i64 aa, .bool va] 24)).alloc (.cells #[.string na, .int .i64 sb, .int .i64 lb, .int .i64 ab, .bool vb] 24)).cell? ⟨k, o, none⟩ := fun k o h => hb1.cell (p := ⟨k, o, none⟩) h
    have hwl : w.heap.size < w.heap.size + 1 + 1 := by omega
    have hwl2 : w.heap.size + 1 < w.heap.size + 1 + 1 := by omega
    go_wp2_with (go_at_call 56; refine (newer_any _ _ _ _ _ _ _ _ _ _ _).mono ?_; rintro e w' ⟨rfl, rfl⟩)
    go_ret2
    refine ⟨rfl, ?_⟩
    have h0 := (((Below.refl w.heap.size w).alloc (Nat.le_refl _) (.cells #[.string na, .int .i64 sa, .int .i64 la, .int .i64 aa, .bool va] 24)).alloc (by simp) (.cells #[.string na, .int .i64 sb, .int .i64 lb, .int .i64 ab, .bool vb] 24)).trans (hb1.mono (by omega))
    exact (h0.alloc h0.size _).alloc (by have := h0.size; simp; omega) _

theorem newer2_any (a b : Mem) (w : World) (ha : a.name.size ≤ maxLen) (hb : b.name.size ≤ maxLen) :
    Calls Tryz.prog 50 #[.agg #[.string a.name, .int .i64 a.state, .int .i64 a.life, .int .i64 a.addr, .bool a.server], .agg #[.string b.name, .int .i64 b.state, .int .i64 b.life, .int .i64 b.addr, .bool b.server]] w
      fun e w' => e = .returned (.tuple #[.bool (newE a b == 0 && newM a b), .int .i64 (newE a b)]) ∧ Below w.heap.size w w' := by
  by_cases h0 : chkTwo [a] [b] = 0
  · by_cases hnm : a.name = b.name
    · have hE : newE a b = 0 := by rw [newE, if_pos h0, if_pos hnm]
      rw [hE]
      obtain ⟨na, sa, la, aa, va⟩ := a
      obtain ⟨nb, sb, lb, ab, vb⟩ := b
      simp only at hnm
      subst hnm
      exact newer2_same na sa la aa va sb lb ab vb w ha h0
    · exact newer2_form a b w ha hb h0 hnm
  · exact newer2_bad a b w ha hb h0

end Go.Proofs.YtigffgjkakalfaaGreatDoor

/- Put: of a name that is there, and of too many. -/
namespace Go.Proofs.YtigffgjkakalfaaGreatDoor
open Go.RowKit Go.WideMaps Go.Maps

theorem chkR_zero {rs : List Rum} (h : chkR rs = 0) : rs.length ≤ 20 ∧ (∀ j, j < rs.length → (rs.getD j dr).m.e = 0) ∧ AllTold rs ∧ Distinct rs := by
  unfold chkR at h
  by_cases h1 : 20 < rs.length
  · rw [if_pos h1] at h; omega
  rw [if_neg h1] at h
  by_cases h2 : firstE (rmems rs) = 0
  · rw [if_pos h2] at h
    by_cases h3 : AllTold rs
    · rw [if_pos h3] at h
      by_cases h4 : Distinct rs
      · refine ⟨by omega, fun j hj => ?_, h3, h4⟩
        have := firstE_at0 h2 j (by rw [rmems_len]; exact hj)
        rwa [rmems_get] at this
      · rw [if_neg h4] at h; omega
    · rw [if_neg h3] at h; omega
  · rw [if_neg h2] at h; exact absurd h h2

theorem newE_zero {a b : Mem} (ha : a.e = 0) (hb : b.e = 0) (hn : a.name = b.name) : newE a b = 0 := by
  have h : chkTwo [a] [b] = 0 := by rw [chkTwo, chk_oneR, chk_oneR]; simp [ha, hb]
  rw [newE, if_pos h, if_pos hn]

set_option maxHeartbeats 3200000 in
set_option maxRecDepth 100000 in
theorem put_full (rs : List Rum) (v : Value) (m : Mem) (w : World) (hv : RSl w v rs) (hm : m.name.size ≤ maxLen) (h0 : chkR rs = 0) (he : m.e = 0) (hno : NotIn rs m.name) (hl : rs.length = 20) :
    Calls Tryz.prog 20 #[v, .agg #[.string m.name, .int .i64 m.state, .int .i64 m.life, .int .i64 m.addr, .bool m.server]] w fun e w' => e = .returned (.tuple #[.slice none 0 0, .int .i64 2]) ∧ Below w.heap.size w w' := by
  obtain ⟨i0, hi0, hz0, hzs, hzb⟩ := info_parts Tryz.infoR
  have HV : Hid (RSl w v rs) := hv
  have hchk := fun (w : World) (h : RSl w v rs) => checkR_any rs v w h
  rw [h0] at hchk
  have hcm := fun w => checkMember_any m w hm
  rw [he] at hcm
  have HH : Hid (Maps.has (Dm (rnames rs) rs.length) (kS m.name) = false) := has_not hno
  clear h0 he hv
  obtain ⟨nm, st, lf, ad, sv⟩ := m
  simp only at *
  have hB0 : Below w.heap.size w (w.alloc (.cells #[.string nm, .int .i64 st, .int .i64 lf, .int .i64 ad, .bool sv] 24)) := (Below.refl _ _).alloc (Nat.le_refl _) _
  go_enter Tryz.func20, Tryz.ntmps20
  go_wp2_with fail
  refine (hchk _ (HV.out.below hB0)).mono ?_
  rintro e w1 ⟨rfl, hb1⟩
  have c1 : ∀ o, w1.cell? ⟨w.heap.size, o, none⟩ = #[Value.string nm, .int .i64 st, .int .i64 lf, .int .i64 ad, .bool sv][o]? := fun o => by
    rw [hb1.cell (p := ⟨w.heap.size, o, none⟩) (by simp)]; exact cell_top' rfl
  have HB1 : Hid (Below w.heap.size w w1) := hB0.trans (hb1.mono (by simp))
  have hz1 : w.heap.size < w1.heap.size := by have := hb1.size; simp at this; omega
  clear hb1 hB0 hchk
  go_wp2_with fail
  refine (hcm _).mono ?_
  rintro e w2 ⟨rfl, hb2⟩
  have c2 : ∀ o, w2.cell? ⟨w.heap.size, o, none⟩ = #[Value.string nm, .int .i64 st, .int .i64 lf, .int .i64 ad, .bool sv][o]? := fun o => by
    rw [hb2.cell (p := ⟨w.heap.size, o, none⟩) (by simp only; omega)]; exact c1 o
  have HB2 : Hid (Below w.heap.size w w2) := HB1.out.trans (hb2.mono HB1.out.size)
  have hz2 : w.heap.size < w2.heap.size := by have := hb2.size; omega
  clear hb2 c1 hz1 HB1 hcm
  go_wp2_with fail
  refine (rclone_any rs v _ (HV.out.below HB2.out) (by omega)).mono ?_
  rintro e w3 ⟨v3, rfl, ho3, hb3⟩
  have HO3 : Hid (ROwn w2.heap.size w3 v3 rs) := ho3
  have c3 : w3.cell? ⟨w.heap.size, 0, none⟩ = some (.string nm) := by
    rw [hb3.cell (p := ⟨w.heap.size, 0, none⟩) (by simp only; omega)]; exact c2 0
  have C3 : Hid (∀ o, w3.cell? ⟨w.heap.size, o, none⟩ = #[Value.string nm, .int .i64 st, .int .i64 lf, .int .i64 ad, .bool sv][o]?) := fun o => by
    rw [hb3.cell (p := ⟨w.heap.size, o, none⟩) (by simp only; omega)]; exact c2 o
  have HB3 : Hid (Below w.heap.size w w3) := HB2.out.trans (hb3.mono HB2.out.size)
  have hz3 : w.heap.size < w3.heap.size := by have := hb3.size; omega
  have hz23 : w2.heap.size ≤ w3.heap.size := hb3.size
  clear hb3 ho3 c2
  go_wp2_with fail
  go_region_held3 (fun w' => w'.cell? ⟨w.heap.size, 0, none⟩ = some (.string nm)) (first | assumption | go_keep) (first | (go_at_call 49; refine (met_any rs v _ ((HV.out.below HB3.out).below (Below.refl _ _).drew) (by omega)).mono ?_; rintro e w4 ⟨rfl, hown, hb4⟩; obtain ⟨cq, hrun, hat⟩ := look_any hown hm; rw [HH.out] at hrun; have hr2 : (Instr.lookup 91 (.map (some w3.heap.size)) (.string nm) true).run Tryz.prog w4 = .ok (.tuple #[.int .i64 cq, .bool false]) w4 := hrun; clear hrun hat hown; have HB4 : Hid (Below w3.heap.size w3 w4) := (Below.refl w3.heap.size w3).drew.trans hb4; have hS : w4.cell? ⟨w.heap.size, 0, none⟩ = some (.string nm) := ((hb4.cell (p := ⟨w.heap.size, 0, none⟩) hz3).trans c3); clear hb4))
  obtain ⟨a3, ca3, hv3⟩ := HO3.out.slice
  subst hv3
  have HB5 : Hid (Below w.heap.size w w4) := HB3.out.trans (HB4.out.mono HB3.out.size)
  clear HO3 C3 HB4 HB3 c3 hr2
  rw [hl]
  go_wp2_with fail
  go_ret2
  exact ⟨rfl, HB5.out⟩

set_option maxHeartbeats 1600000 in
set_option maxRecDepth 100000 in
theorem put_old (rs : List Rum) (v : Value) (m : Mem) (w : World) (hv : RSl w v rs) (hm : m.name.size ≤ maxLen) (h0 : chkR rs = 0) (he : m.e = 0) (p : Nat) (hp : p < rs.length) (hpn : (rs.getD p dr).m.name = m.name) (HNEW : newM m (rs.getD p dr).m = false) :
    Calls Tryz.prog 20 #[v, .agg #[.string m.name, .int .i64 m.state, .int .i64 m.life, .int .i64 m.addr, .bool m.server]] w fun e w' => ∃ v', e = .returned (.tuple #[v', .int .i64 0]) ∧ ROwn w.heap.size w' v' rs ∧ Below w.heap.size w w' := by
  obtain ⟨i0, hi0, hz0, hzs, hzb⟩ := info_parts Tryz.infoR
  have HV : Hid (RSl w v rs) := hv
  have hchk := fun (w : World) (h : RSl w v rs) => checkR_any rs v w h
  rw [h0] at hchk
  have hcm := fun w => checkMember_any m w hm
  rw [he] at hcm
  have HH : Hid (Maps.has (Dm (rnames rs) rs.length) (kS m.name) = true) := (Dm_has _ _ _).2 ⟨p, hp, by rw [rnames_get]; exact hpn⟩
  have HAT : Hid ((Dm (rnames rs) rs.length).atKey (kS m.name) (.lit (.int .i64 0)) = .lit (.int .i64 p)) := Dm_at _ _ _ _ p hp (by rw [rnames_get]; exact hpn) (fun i hi hk => by rw [rnames_get, ← hpn]; exact fun e => (chkR_zero h0).2.2.2 p i hi hk e.symm)
  have hn20 : rs.length ≤ 20 := (chkR_zero h0).1
  have HEP : Hid ((rs.getD p dr).m.e = 0) := (chkR_zero h0).2.1 p hp
  have hnp : (rs.getD p dr).m.name.size ≤ maxLen := by obtain ⟨_, _, _, h, _⟩ := hv; exact h p
  have HN0 : Hid (newE m (rs.getD p dr).m = 0) := newE_zero he HEP.out hpn.symm
  clear h0 he hv HEP
  obtain ⟨nm, st, lf, ad, sv⟩ := m
  simp only at *
  have hB0 : Below w.heap.size w (w.alloc (.cells #[.string nm, .int .i64 st, .int .i64 lf, .int .i64 ad, .bool sv] 24)) := (Below.refl _ _).alloc (Nat.le_refl _) _
  go_enter Tryz.func20, Tryz.ntmps20
  go_wp2_with fail
  refine (hchk _ (HV.out.below hB0)).mono ?_
  rintro e w1 ⟨rfl, hb1⟩
  have c1 : ∀ o, w1.cell? ⟨w.heap.size, o, none⟩ = #[Value.string nm, .int .i64 st, .int .i64 lf, .int .i64 ad, .bool sv][o]? := fun o => by
    rw [hb1.cell (p := ⟨w.heap.size, o, none⟩) (by simp)]; exact cell_top' rfl
  have HB1 : Hid (Below w.heap.size w w1) := hB0.trans (hb1.mono (by simp))
  have hz1 : w.heap.size < w1.heap.size := by have := hb1.size; simp at this; omega
  clear hb1 hB0 hchk
  go_wp2_with fail
  refine (hcm _).mono ?_
  rintro e w2 ⟨rfl, hb2⟩
  have c2 : ∀ o, w2.cell? ⟨w.heap.size, o, none⟩ = #[Value.string nm, .int .i64 st, .int .i64 lf, .int .i64 ad, .bool sv][o]? := fun o => by
    rw [hb2.cell (p := ⟨w.heap.size, o, none⟩) (by simp only; omega)]; exact c1 o
  have HB2 : Hid (Below w.heap.size w w2) := HB1.out.trans (hb2.mono HB1.out.size)
  have hz2 : w.heap.size < w2.heap.size := by have := hb2.size; omega
  clear hb2 c1 hz1 HB1 hcm
  go_wp2_with fail
  refine (rclone_any rs v _ (HV.out.below HB2.out) (by omega)).mono ?_
  rintro e w3 ⟨v3, rfl, ho3, hb3⟩
  have HO3 : Hid (ROwn w2.heap.size w3 v3 rs) := ho3
  have c3 : w3.cell? ⟨w.heap.size, 0, none⟩ = some (.string nm) := by
    rw [hb3.cell (p := ⟨w.heap.size, 0, none⟩) (by simp only; omega)]; exact c2 0
  have C3 : Hid (∀ o, w3.cell? ⟨w.heap.size, o, none⟩ = #[Value.string nm, .int .i64 st, .int .i64 lf, .int .i64 ad, .bool sv][o]?) := fun o => by
    rw [hb3.cell (p := ⟨w.heap.size, o, none⟩) (by simp only; omega)]; exact c2 o
  have HB3 : Hid (Below w.heap.size w w3) := HB2.out.trans (hb3.mono HB2.out.size)
  have hz3 : w.heap.size < w3.heap.size := by have := hb3.size; omega
  have hz23 : w2.heap.size ≤ w3.heap.size := hb3.size
  clear hb3 ho3 c2
  go_wp2_with fail
  go_region_held3 (fun w' => w'.cell? ⟨w.heap.size, 0, none⟩ = some (.string nm)) (first | assumption | go_keep) (first | (go_at_call 49; refine (met_any rs v _ ((HV.out.below HB3.out).below (Below.refl _ _).drew) (by omega)).mono ?_; rintro e w4 ⟨rfl, hown, hb4⟩; obtain ⟨cq, hrun, hat⟩ := look_any hown hm; rw [HH.out] at hrun; rw [HAT.out] at hat; have hcq : cq = p := (by simp at hat; exact hat.symm); subst hcq; have hr2 : (Instr.lookup 91 (.map (some w3.heap.size)) (.string nm) true).run Tryz.prog w4 = .ok (.tuple #[.int .i64 p, .bool true]) w4 := hrun; clear hrun hat hown; have HB4 : Hid (Below w3.heap.size w3 w4) := (Below.refl w3.heap.size w3).drew.trans hb4; have hS : w4.cell? ⟨w.heap.size, 0, none⟩ = some (.string nm) := ((hb4.cell (p := ⟨w.heap.size, 0, none⟩) hz3).trans c3); clear hb4))
  obtain ⟨a3, ca3, hv3⟩ := HO3.out.slice
  subst hv3
  have C4 : ∀ o, w4.cell? ⟨w.heap.size, o, none⟩ = #[Value.string nm, .int .i64 st, .int .i64 lf, .int .i64 ad, .bool sv][o]? := fun o => by
    rw [HB4.out.cell (p := ⟨w.heap.size, o, none⟩) hz3]; exact C3.out o
  have HO4 : Hid (ROwn w2.heap.size w4 (.slice a3 rs.length ca3) rs) := HO3.out.below HB4.out
  have HB5 : Hid (Below w.heap.size w w4) := HB3.out.trans (HB4.out.mono HB3.out.size)
  have hz5 : w2.heap.size ≤ w4.heap.size := by have := HB4.out.size; omega
  have HV4 : Hid (RSl w4 v rs) := HV.out.below HB5.out
  clear HO3 C3 HB4 HB3 c3 hr2 HV
  obtain ⟨pa, ca, hvv, _, hrow⟩ := HV4.out
  subst hvv
  obtain ⟨b, off, hpa, hlb, hr⟩ : ∃ b off, pa = some ⟨b, off, none⟩ ∧ b < w4.heap.size ∧ RRow w4 b off rs := by
    rcases hrow with h | h
    · rw [h] at hp; simp at hp
    · exact h
  subst hpa
  obtain ⟨e0, e1, e2, e3, e4, e5⟩ := hr p hp
  have hN := fun w => newer2_any ⟨nm, st, lf, ad, sv⟩ (rs.getD p dr).m w hm hnp
  rw [HN0.out, HNEW] at hN
  simp only [beq_self_eq_true, Bool.true_and] at hN
  clear hrow hr HV4
  generalize (rs.getD p dr) = rp at *
  obtain ⟨⟨yn, ys, yl, ya, yv⟩, ytd⟩ := rp
  simp only at e0 e1 e2 e3 e4 e5 hN hpn
  have hpn2 := hpn.symm
  clear hpn
  subst hpn2
  generalize hN' : rs.length = n at *
  have HN : Hid (rs.length = n) := hN'
  clear hN'
  go_wp2_with fail
  have E0 : ∀ d os, (Go.Sort.grow (redrawn w4 d) os).cell? ⟨w.heap.size, 0, none⟩ = some (.string nm) := cell_regrown (C4 0)
  have E1 : ∀ d os, (Go.Sort.grow (redrawn w4 d) os).cell? ⟨w.heap.size, 1, none⟩ = some (.int .i64 st) := cell_regrown (C4 1)
  have E2 : ∀ d os, (Go.Sort.grow (redrawn w4 d) os).cell? ⟨w.heap.size, 2, none⟩ = some (.int .i64 lf) := cell_regrown (C4 2)
  have E3 : ∀ d os, (Go.Sort.grow (redrawn w4 d) os).cell? ⟨w.heap.size, 3, none⟩ = some (.int .i64 ad) := cell_regrown (C4 3)
  have E4 : ∀ d os, (Go.Sort.grow (redrawn w4 d) os).cell? ⟨w.heap.size, 4, none⟩ = some (.bool sv) := cell_regrown (C4 4)
  have F0 : ∀ d os, (Go.Sort.grow (redrawn w4 d) os).cell? ⟨b, off + p * 6, none⟩ = some (.string nm) := cell_regrown e0
  have F1 : ∀ d os, (Go.Sort.grow (redrawn w4 d) os).cell? ⟨b, off + p * 6 + 1, none⟩ = some (.int .i64 ys) := cell_regrown e1
  have F2 : ∀ d os, (Go.Sort.grow (redrawn w4 d) os).cell? ⟨b, off + p * 6 + 2, none⟩ = some (.int .i64 yl) := cell_regrown e2
  have F3 : ∀ d os, (Go.Sort.grow (redrawn w4 d) os).cell? ⟨b, off + p * 6 + 3, none⟩ = some (.int .i64 ya) := cell_regrown e3
  have F4 : ∀ d os, (Go.Sort.grow (redrawn w4 d) os).cell? ⟨b, off + p * 6 + 4, none⟩ = some (.bool yv) := cell_regrown e4
  have cN : ∀ d os, Calls Tryz.prog 50 #[.agg #[.string nm, .int .i64 st, .int .i64 lf, .int .i64 ad, .bool sv], .agg #[.string nm, .int .i64 ys, .int .i64 yl, .int .i64 ya, .bool yv]] (Go.Sort.grow (redrawn w4 d) os) fun e w'' => e = .returned (.tuple #[.bool false, .int .i64 0]) ∧ ∃ p : Regrown, w'' = Go.Sort.grow (redrawn w4 p.d) p.os := fun d os =>
    Calls.regrown_of ((hN _).mono (by rintro e w' ⟨rfl, hb⟩; exact ⟨rfl, hb⟩))
  clear e0 e1 e2 e3 e4 e5 hN
  refine wp_region_quiet_below (by kernel_rfl) (by kernel_rfl) ?_
  repeat (quiet_step (exact cN _ _))
  refine wpQuiet_nil ?_
  intro _ hw'
  obtain ⟨⟨dq, osq⟩, hw''⟩ := hw'
  subst hw''
  have HBQ : Hid (Below w4.heap.size w4 (Go.Sort.grow (redrawn w4 dq) osq)) := below_regrown w4 dq osq
  clear cN E0 E1 E2 E3 E4 F0 F1 F2 F3 F4
  have HO6 : Hid (ROwn w.heap.size (Go.Sort.grow (redrawn w4 dq) osq) (.slice a3 n ca3) rs) := (HO4.out.below HBQ.out).base (by omega)
  have HB6 : Hid (Below w.heap.size w (Go.Sort.grow (redrawn w4 dq) osq)) := HB5.out.trans (HBQ.out.mono HB5.out.size)
  clear HO4 HBQ
  go_wp2_with fail
  go_ret2
  exact ⟨_, rfl, HO6.out, HB6.out⟩

set_option maxHeartbeats 3200000 in
set_option maxRecDepth 100000 in
theorem put_newer (rs : List Rum) (v : Value) (m : Mem) (w : World) (hv : RSl w v rs) (hm : m.name.size ≤ maxLen) (h0 : chkR rs = 0) (he : m.e = 0) (p : Nat) (hp : p < rs.length) (hpn : (rs.getD p dr).m.name = m.name) (HNEW : newM m (rs.getD p dr).m = true) :
    Calls Tryz.prog 20 #[v, .agg #[.string m.name, .int .i64 m.state, .int .i64 m.life, .int .i64 m.addr, .bool m.server]] w fun e w' => ∃ v', e = .returned (.tuple #[v', .int .i64 0]) ∧ ROwn w.heap.size w' v' (rs.eraseIdx p ++ [⟨m, 0⟩]) ∧ Below w.heap.size w w' := by
  obtain ⟨i0, hi0, hz0, hzs, hzb⟩ := info_parts Tryz.infoR
  have HV : Hid (RSl w v rs) := hv
  have hchk := fun (w : World) (h : RSl w v rs) => checkR_any rs v w h
  rw [h0] at hchk
  have hcm := fun w => checkMember_any m w hm
  rw [he] at hcm
  have HH : Hid (Maps.has (Dm (rnames rs) rs.length) (kS m.name) = true) := (Dm_has _ _ _).2 ⟨p, hp, by rw [rnames_get]; exact hpn⟩
  have HAT : Hid ((Dm (rnames rs) rs.length).atKey (kS m.name) (.lit (.int .i64 0)) = .lit (.int .i64 p)) := Dm_at _ _ _ _ p hp (by rw [rnames_get]; exact hpn) (fun i hi hk => by rw [rnames_get, ← hpn]; exact fun e => (chkR_zero h0).2.2.2 p i hi hk e.symm)
  have hn20 : rs.length ≤ 20 := (chkR_zero h0).1
  have HEP : Hid ((rs.getD p dr).m.e = 0) := (chkR_zero h0).2.1 p hp
  have hnp : (rs.getD p dr).m.name.size ≤ maxLen := by obtain ⟨_, _, _, h, _⟩ := hv; exact h p
  have HN0 : Hid (newE m (rs.getD p dr).m = 0) := newE_zero he HEP.out hpn.symm
  clear h0 he hv HEP
  obtain ⟨nm, st, lf, ad, sv⟩ := m
  simp only at *
  have hB0 : Below w.heap.size w (w.alloc (.cells #[.string nm, .int .i64 st, .int .i64 lf, .int .i64 ad, .bool sv] 24)) := (Below.refl _ _).alloc (Nat.le_refl _) _
  go_enter Tryz.func20, Tryz.ntmps20
  go_wp2_with fail
  refine (hchk _ (HV.out.below hB0)).mono ?_
  rintro e w1 ⟨rfl, hb1⟩
  have c1 : ∀ o, w1.cell? ⟨w.heap.size, o, none⟩ = #[Value.string nm, .int .i64 st, .int .i64 lf, .int .i64 ad, .bool sv][o]? := fun o => by
    rw [hb1.cell (p := ⟨w.heap.size, o, none⟩) (by simp)]; exact cell_top' rfl
  have HB1 : Hid (Below w.heap.size w w1) := hB0.trans (hb1.mono (by simp))
  have hz1 : w.heap.size < w1.heap.size := by have := hb1.size; simp at this; omega
  clear hb1 hB0 hchk
  go_wp2_with fail
  refine (hcm _).mono ?_
  rintro e w2 ⟨rfl, hb2⟩
  have c2 : ∀ o, w2.cell? ⟨w.heap.size, o, none⟩ = #[Value.string nm, .int .i64 st, .int .i64 lf, .int .i64 ad, .bool sv][o]? := fun o => by
    rw [hb2.cell (p := ⟨w.heap.size, o, none⟩) (by simp only; omega)]; exact c1 o
  have HB2 : Hid (Below w.heap.size w w2) := HB1.out.trans (hb2.mono HB1.out.size)
  have hz2 : w.heap.size < w2.heap.size := by have := hb2.size; omega
  clear hb2 c1 hz1 HB1 hcm
  go_wp2_with fail
  refine (rclone_any rs v _ (HV.out.below HB2.out) (by omega)).mono ?_
  rintro e w3 ⟨v3, rfl, ho3, hb3⟩
  have HO3 : Hid (ROwn w2.heap.size w3 v3 rs) := ho3
  have c3 : w3.cell? ⟨w.heap.size, 0, none⟩ = some (.string nm) := by
    rw [hb3.cell (p := ⟨w.heap.size, 0, none⟩) (by simp only; omega)]; exact c2 0
  have C3 : Hid (∀ o, w3.cell? ⟨w.heap.size, o, none⟩ = #[Value.string nm, .int .i64 st, .int .i64 lf, .int .i64 ad, .bool sv][o]?) := fun o => by
    rw [hb3.cell (p := ⟨w.heap.size, o, none⟩) (by simp only; omega)]; exact c2 o
  have HB3 : Hid (Below w.heap.size w w3) := HB2.out.trans (hb3.mono HB2.out.size)
  have hz3 : w.heap.size < w3.heap.size := by have := hb3.size; omega
  have hz23 : w2.heap.size ≤ w3.heap.size := hb3.size
  clear hb3 ho3 c2
  go_wp2_with fail
  go_region_held3 (fun w' => w'.cell? ⟨w.heap.size, 0, none⟩ = some (.string nm)) (first | assumption | go_keep) (first | (go_at_call 49; refine (met_any rs v _ ((HV.out.below HB3.out).below (Below.refl _ _).drew) (by omega)).mono ?_; rintro e w4 ⟨rfl, hown, hb4⟩; obtain ⟨cq, hrun, hat⟩ := look_any hown hm; rw [HH.out] at hrun; rw [HAT.out] at hat; have hcq : cq = p := (by simp at hat; exact hat.symm); subst hcq; have hr2 : (Instr.lookup 91 (.map (some w3.heap.size)) (.string nm) true).run Tryz.prog w4 = .ok (.tuple #[.int .i64 p, .bool true]) w4 := hrun; clear hrun hat hown; have HB4 : Hid (Below w3.heap.size w3 w4) := (Below.refl w3.heap.size w3).drew.trans hb4; have hS : w4.cell? ⟨w.heap.size, 0, none⟩ = some (.string nm) := ((hb4.cell (p := ⟨w.heap.size, 0, none⟩) hz3).trans c3); clear hb4))
  obtain ⟨a3, ca3, hv3⟩ := HO3.out.slice
  subst hv3
  have C4 : ∀ o, w4.cell? ⟨w.heap.size, o, none⟩ = #[Value.string nm, .int .i64 st, .int .i64 lf, .int .i64 ad, .bool sv][o]? := fun o => by
    rw [HB4.out.cell (p := ⟨w.heap.size, o, none⟩) hz3]; exact C3.out o
  have HO4 : Hid (ROwn w2.heap.size w4 (.slice a3 rs.length ca3) rs) := HO3.out.below HB4.out
  have HB5 : Hid (Below w.heap.size w w4) := HB3.out.trans (HB4.out.mono HB3.out.size)
  have hz5 : w2.heap.size ≤ w4.heap.size := by have := HB4.out.size; omega
  have HV4 : Hid (RSl w4 v rs) := HV.out.below HB5.out
  clear HO3 C3 HB4 HB3 c3 hr2 HV
  obtain ⟨pa, ca, hvv, _, hrow⟩ := HV4.out
  subst hvv
  obtain ⟨b, off, hpa, hlb, hr⟩ : ∃ b off, pa = some ⟨b, off, none⟩ ∧ b < w4.heap.size ∧ RRow w4 b off rs := by
    rcases hrow with h | h
    · rw [h] at hp; simp at hp
    · exact h
  subst hpa
  obtain ⟨e0, e1, e2, e3, e4, e5⟩ := hr p hp
  have hN := fun w => newer2_any ⟨nm, st, lf, ad, sv⟩ (rs.getD p dr).m w hm hnp
  rw [HN0.out, HNEW] at hN
  simp only [beq_self_eq_true, Bool.true_and] at hN
  clear hrow hr HV4
  generalize (rs.getD p dr) = rp at *
  obtain ⟨⟨yn, ys, yl, ya, yv⟩, ytd⟩ := rp
  simp only at e0 e1 e2 e3 e4 e5 hN hpn
  have hpn2 := hpn.symm
  clear hpn
  subst hpn2
  generalize hN' : rs.length = n at *
  have HN : Hid (rs.length = n) := hN'
  clear hN'
  go_wp2_with fail
  have E0 : ∀ d os, (Go.Sort.grow (redrawn w4 d) os).cell? ⟨w.heap.size, 0, none⟩ = some (.string nm) := cell_regrown (C4 0)
  have E1 : ∀ d os, (Go.Sort.grow (redrawn w4 d) os).cell? ⟨w.heap.size, 1, none⟩ = some (.int .i64 st) := cell_regrown (C4 1)
  have E2 : ∀ d os, (Go.Sort.grow (redrawn w4 d) os).cell? ⟨w.heap.size, 2, none⟩ = some (.int .i64 lf) := cell_regrown (C4 2)
  have E3 : ∀ d os, (Go.Sort.grow (redrawn w4 d) os).cell? ⟨w.heap.size, 3, none⟩ = some (.int .i64 ad) := cell_regrown (C4 3)
  have E4 : ∀ d os, (Go.Sort.grow (redrawn w4 d) os).cell? ⟨w.heap.size, 4, none⟩ = some (.bool sv) := cell_regrown (C4 4)
  have F0 : ∀ d os, (Go.Sort.grow (redrawn w4 d) os).cell? ⟨b, off + p * 6, none⟩ = some (.string nm) := cell_regrown e0
  have F1 : ∀ d os, (Go.Sort.grow (redrawn w4 d) os).cell? ⟨b, off + p * 6 + 1, none⟩ = some (.int .i64 ys) := cell_regrown e1
  have F2 : ∀ d os, (Go.Sort.grow (redrawn w4 d) os).cell? ⟨b, off + p * 6 + 2, none⟩ = some (.int .i64 yl) := cell_regrown e2
  have F3 : ∀ d os, (Go.Sort.grow (redrawn w4 d) os).cell? ⟨b, off + p * 6 + 3, none⟩ = some (.int .i64 ya) := cell_regrown e3
  have F4 : ∀ d os, (Go.Sort.grow (redrawn w4 d) os).cell? ⟨b, off + p * 6 + 4, none⟩ = some (.bool yv) := cell_regrown e4
  have cN : ∀ d os, Calls Tryz.prog 50 #[.agg #[.string nm, .int .i64 st, .int .i64 lf, .int .i64 ad, .bool sv], .agg #[.string nm, .int .i64 ys, .int .i64 yl, .int .i64 ya, .bool yv]] (Go.Sort.grow (redrawn w4 d) os) fun e w'' => e = .returned (.tuple #[.bool true, .int .i64 0]) ∧ ∃ p : Regrown, w'' = Go.Sort.grow (redrawn w4 p.d) p.os := fun d os =>
    Calls.regrown_of ((hN _).mono (by rintro e w' ⟨rfl, hb⟩; exact ⟨rfl, hb⟩))
  clear e0 e1 e2 e3 e4 e5 hN
  refine wp_region_quiet_below (by kernel_rfl) (by kernel_rfl) ?_
  repeat (quiet_step (exact cN _ _))
  refine wpQuiet_nil ?_
  intro _ hw'
  obtain ⟨⟨dq, osq⟩, hw''⟩ := hw'
  subst hw''
  have HBQ : Hid (Below w4.heap.size w4 (Go.Sort.grow (redrawn w4 dq) osq)) := below_regrown w4 dq osq
  clear cN E0 E1 E2 E3 E4 F0 F1 F2 F3 F4
  have HN1 : Hid (rs.length = n) := HN
  obtain ⟨g, c, ha3, hc3⟩ : ∃ g c, a3 = some ⟨g, 0, none⟩ ∧ ca3 = c := by
    rcases HO4.out.2 with ⟨_, h0⟩ | ⟨g, c, cur, h, _⟩
    · have := HN.out; omega
    · simp only [Value.slice.injEq] at h
      exact ⟨g, c, h.1, h.2.2⟩
  subst ha3
  subst hc3
  have HO6 : Hid (ROwn w2.heap.size (Go.Sort.grow (redrawn w4 dq) osq) (.slice (some ⟨g, 0, none⟩) n ca3) rs) := HO4.out.below HBQ.out
  have HB6 : Hid (Below w.heap.size w (Go.Sort.grow (redrawn w4 dq) osq)) := HB5.out.trans (HBQ.out.mono HB5.out.size)
  have C6 : ∀ o, (Go.Sort.grow (redrawn w4 dq) osq).cell? ⟨w.heap.size, o, none⟩ = #[Value.string nm, .int .i64 st, .int .i64 lf, .int .i64 ad, .bool sv][o]? := fun o => by
    rw [HBQ.out.cell (p := ⟨w.heap.size, o, none⟩) (by simp only; omega)]; exact C4 o
  have hz6 : w2.heap.size ≤ (Go.Sort.grow (redrawn w4 dq) osq).heap.size := by have := HBQ.out.size; omega
  clear HO4 HBQ C4
  generalize Go.Sort.grow (redrawn w4 dq) osq = w6 at *
  go_wp2_with fail
  refine (delete_any rs n p g ca3 w2.heap.size _ HN.out HO6.out hp (by omega)).mono ?_
  rintro e w7 ⟨rfl, ho7, hb7⟩
  have C7 : ∀ o, w7.cell? ⟨w.heap.size, o, none⟩ = #[Value.string nm, .int .i64 st, .int .i64 lf, .int .i64 ad, .bool sv][o]? := fun o => by
    rw [hb7.cell (p := ⟨w.heap.size, o, none⟩) (by simp only; omega)]; exact C6 o
  have HB7 : Hid (Below w.heap.size w w7) := HB6.out.trans (hb7.mono (by omega))
  have hz7 : w2.heap.size ≤ w7.heap.size := by have := hb7.size; omega
  have HLE : Hid ((rs.eraseIdx p).length = n - 1) := (show (rs.eraseIdx p).length = n - 1 by rw [List.length_eraseIdx, if_pos (by rw [HN.out]; exact hp), HN.out])
  have HO8 : Hid (∀ ob, (w7.alloc ob).ownsRow w2.heap.size 57 6 (.slice (some ⟨g, 0, none⟩) (n - 1) ca3) (n - 1) (flR (rs.eraseIdx p))) := fun ob => by
    have h := ROwn.below (ms := rs.eraseIdx p) ho7 ((Below.refl _ _).alloc (Nat.le_refl _) ob)
    have h2 : (w7.alloc ob).ownsRow w2.heap.size 57 6 (.slice (some ⟨g, 0, none⟩) (n - 1) ca3) (rs.eraseIdx p).length (flR (rs.eraseIdx p)) := h
    rw [HLE.out] at h2
    exact h2
  have HLT : Hid (∀ k, (Value.slice (some ⟨g, 0, none⟩) (n - 1) ca3).ownBlock = some k → w.heap.size ≤ k) := fun k hk => by have := (ROwn.lt (ms := rs.eraseIdx p) ho7 k hk).1; omega
  have HSN : Hid (∀ (w' : World) (v' : Value), w'.ownsRow w2.heap.size 57 6 v' (n - 1 + 1) (flR (rs.eraseIdx p) ++ (Rum.mk ⟨nm, st, lf, ad, sv⟩ 0).cs) → ROwn w.heap.size w' v' (rs.eraseIdx p ++ [⟨⟨nm, st, lf, ad, sv⟩, 0⟩])) := fun w' v' h => (rown_snoc (by rw [HLE.out]; exact h)).base (by omega)
  have hn19 : n - 1 ≤ 19 := by omega
  clear hb7 ho7 C6 HB6 HO6 HLE
  generalize hn1 : n - 1 = n1 at *
  clear hn1
  go_wp2_with (at_builtin; refine wpList_append_own _ rfl _ _ 25 rfl w2.heap.size 57 i0 _ 6 56 Tryz.underlying25 hi0 hz0 hzs hzb rfl (by omega) _ n1 (flR (rs.eraseIdx p)) rfl ?hown ⟨w7.heap.size, 0, none⟩ 1 1 (Rum.mk ⟨nm, st, lf, ad, sv⟩ 0).cs rfl rfl ?hnews (rcs_one _) ?h63 ?hbytes ?hbase ?_)
  case hown => exact HO8.out _
  case hnews => (intro j u hj; rw [Addr.add_lit]; exact (cell_top' (by simp)).trans (by simpa [Rum.cs] using hj))
  case h63 => (unfold maxLen; omega)
  case hbytes => omega
  case hbase => (simp; omega)
  intro v' w8 r1 r2 r3
  have R1 : Hid (ROwn w.heap.size w8 v' (rs.eraseIdx p ++ [⟨⟨nm, st, lf, ad, sv⟩, 0⟩])) := HSN.out w8 v' r1
  have R2 : Hid (Below w.heap.size w w8) := (HB7.out.alloc HB7.out.size _).grown r2 (by have := HB7.out.size; simp; omega) (fun k hk => HLT.out k hk)
  clear r1 r2 r3
  go_wp2_with fail
  go_ret2
  exact ⟨v', rfl, R1.out, R2.out⟩

end Go.Proofs.YtigffgjkakalfaaGreatDoor

/- Rumors: the document's Check, and whether lists are the same. -/
namespace Go.Proofs.YtigffgjkakalfaaGreatDoor
open Go.RowKit Go.WideMaps Go.Maps

set_option maxHeartbeats 800000 in
theorem eqInM (d : Nat) (m : Mem) (w : World) : (Op.equalIn (d + 1 + 1) 24 (.agg #[.string m.name, .int .i64 m.state, .int .i64 m.life, .int .i64 m.addr, .bool m.server]) (.agg #[.string m.name, .int .i64 m.state, .int .i64 m.life, .int .i64 m.addr, .bool m.server])).run Tryz.prog w = .ok true w := by
  obtain ⟨n1, s1, l1, a1, v1⟩ := m
  have u3 := run_underlying Tryz.underlying3
  have a3 := Tryz.isAgg3
  have z3 := Tryz.sizeOf3
  have u4 := run_underlying Tryz.underlying4
  have a4 := Tryz.isAgg4
  have z4 := Tryz.sizeOf4
  have u9 := run_underlying Tryz.underlying9
  have a9 := Tryz.isAgg9
  have z9 := Tryz.sizeOf9
  have hS : Tryz.prog.underlying 24 = some (.struct (Tryz.prog.fieldsOf 24)) := by kernel_rfl
  have hp : Tryz.prog.stoodInHeld 24 = false := by kernel_rfl
  rw [run_equalIn_agg w (d + 1) 24 _ _ hS hp]
  simp only [Program.fieldsOf, Tryz.underlying24]
  go_simp

set_option maxHeartbeats 800000 in
theorem eqInR (r : Rum) (w : World) : (Op.equalIn 10000 57 (.agg #[.string r.m.name, .int .i64 r.m.state, .int .i64 r.m.life, .int .i64 r.m.addr, .bool r.m.server, .int .i64 r.told]) (.agg #[.string r.m.name, .int .i64 r.m.state, .int .i64 r.m.life, .int .i64 r.m.addr, .bool r.m.server, .int .i64 r.told])).run Tryz.prog w = .ok true w := by
  have hM := fun w => eqInM 9997 r.m w
  obtain ⟨⟨n1, s1, l1, a1, v1⟩, t1⟩ := r
  have u3 := run_underlying Tryz.underlying3
  have a3 := Tryz.isAgg3
  have z3 := Tryz.sizeOf3
  have a24 := Tryz.isAgg24
  have z24 := Tryz.sizeOf24
  have hS : Tryz.prog.underlying 57 = some (.struct (Tryz.prog.fieldsOf 57)) := by kernel_rfl
  have hp : Tryz.prog.stoodInHeld 57 = false := by kernel_rfl
  simp only at hM
  rw [show (10000 : Nat) = 9999 + 1 from rfl, run_equalIn_agg w 9999 57 _ _ hS hp]
  simp only [Program.fieldsOf, Tryz.underlying57]
  go_simp

theorem neqR (r : Rum) (w : World) : Sem.run Tryz.prog (binOp .neq 57 (.agg #[.string r.m.name, .int .i64 r.m.state, .int .i64 r.m.life, .int .i64 r.m.addr, .bool r.m.server, .int .i64 r.told]) (.agg #[.string r.m.name, .int .i64 r.m.state, .int .i64 r.m.life, .int .i64 r.m.addr, .bool r.m.server, .int .i64 r.told])) w = .ok (.bool false) w := by
  rw [run_neq_struct, eqInR]
  rfl

set_option maxHeartbeats 1600000 in
theorem sameR_self (rs : List Rum) (va vb : Value) (w : World) (ha : RSl w va rs) (hb : RSl w vb rs) (hsm : rs.length ≤ 1000) :
    Calls Tryz.prog 14 #[va, vb] w fun e w' => e = .returned (.bool true) ∧ Below w.heap.size w w' := by
  obtain ⟨pa, ca, rfl, _, ha⟩ := ha
  obtain ⟨pv, cb, rfl, _, hb⟩ := hb
  have HA : Hid (rs = [] ∨ ∃ b off, pa = some ⟨b, off, none⟩ ∧ b < w.heap.size ∧ RRow w b off rs) := ha
  have HB : Hid (rs = [] ∨ ∃ b off, pv = some ⟨b, off, none⟩ ∧ b < w.heap.size ∧ RRow w b off rs) := hb
  clear ha hb
  generalize hna : rs.length = n at *
  have HN : Hid (rs.length = n) := hna
  clear hna
  have hgR : Tryz.prog.eqGuardType Tryz.prog.depth 57 = false := by kernel_rfl
  go_enter Tryz.func14, Tryz.ntmps14
  go_wp2_with fail
  go_loopw [5] (fun i w' => ∃ k : Nat, k ≤ n ∧ i = .int .i64 k ∧ Hid (Below w.heap.size w w')) (fun i _ => n - (intOf i).toNat)
  case atStart => exact ⟨0, Nat.zero_le _, rfl, Below.refl _ _⟩
  case round =>
    obtain ⟨k, hk, rfl, HBL⟩ := hrel
    by_cases hlt : k < n
    · obtain ⟨b1, o1, hp1, hl1, hr1⟩ : ∃ b off, pa = some ⟨b, off, none⟩ ∧ b < w.heap.size ∧ RRow w b off rs := by
        rcases HA.out with h | h
        · have := HN.out; rw [h] at this; simp at this; omega
        · exact h
      obtain ⟨b2, o2, hp2, hl2, hr2⟩ : ∃ b off, pv = some ⟨b, off, none⟩ ∧ b < w.heap.size ∧ RRow w b off rs := by
        rcases HB.out with h | h
        · have := HN.out; rw [h] at this; simp at this; omega
        · exact h
      subst hp1
      subst hp2
      obtain ⟨c0, c1, c2, c3, c4, c5⟩ := hr1.below HBL.out hl1 k (by rw [HN.out]; exact hlt)
      obtain ⟨d0, d1, d2, d3, d4, d5⟩ := hr2.below HBL.out hl2 k (by rw [HN.out]; exact hlt)
      clear hr1 hr2
      have hneq := neqR (rs.getD k dr)
      generalize rs.getD k dr = rk at *
      obtain ⟨⟨n1, s1, l1, a1, v1⟩, t1⟩ := rk
      simp only at c0 c1 c2 c3 c4 c5 d0 d1 d2 d3 d4 d5 hneq
      go_wp2_with fail
      go_quiet (fail)
      go_wp2_with fail
      go_roundw
      case rel => exact ⟨k + 1, by omega, by go_num, below_drewN HBL.out _⟩
      case measure => simp [intOf]; omega
    · go_wp2_with fail
      go_ret
      exact ⟨rfl, HBL.out⟩

theorem beq_names (a b : ByteArray) : (a.toList == b.toList) = decide (a = b) := by
  by_cases h : a = b
  · subst h; simp
  · have h2 : ¬ a.toList = b.toList := fun e => h (ba_ext (by rw [Lib.toList_data, Lib.toList_data] at e; exact e))
    simp [h, h2]

end Go.Proofs.YtigffgjkakalfaaGreatDoor

/- Rumors: the document's Put. -/
namespace Go.Proofs.YtigffgjkakalfaaGreatDoor
open Go.RowKit Go.WideMaps Go.Maps

theorem beq_name' {a b : ByteArray} (h : a ≠ b) : (a.toList == b.toList) = false ∧ ¬ a.toList = b.toList := by
  have h2 : ¬ a.toList = b.toList := fun e => h (ba_ext (by rw [Lib.toList_data, Lib.toList_data] at e; exact e))
  exact ⟨by simpa using h2, h2⟩
/-- What stands in the document's list behind k rounds, where the name stands at p (or nowhere: p is the length). -/
def outR (rs : List Rum) (p k : Nat) : List Rum := (rs.take k).eraseIdx p
theorem outR_zero (rs : List Rum) (p : Nat) : outR rs p 0 = [] := by simp [outR]
theorem take_snocR {rs : List Rum} {k : Nat} (hk : k < rs.length) : rs.take (k + 1) = rs.take k ++ [rs.getD k dr] := by
  rw [List.take_succ_eq_append_getElem hk]; simp [List.getD, List.getElem?_eq_getElem hk]
theorem outR_step {rs : List Rum} {p k : Nat} (hk : k < rs.length) (h : k ≠ p) : outR rs p (k + 1) = outR rs p k ++ [rs.getD k dr] := by
  unfold outR
  rw [take_snocR hk]
  have hl : (rs.take k).length = k := by rw [List.length_take]; omega
  by_cases hkp : k < p
  · rw [List.eraseIdx_of_length_le (by simp; omega), List.eraseIdx_of_length_le (by omega)]
  · rw [List.eraseIdx_append_of_lt_length (by omega)]
theorem outR_skip {rs : List Rum} {p : Nat} (hk : p < rs.length) : outR rs p (p + 1) = outR rs p p := by
  unfold outR
  have hl : (rs.take p).length = p := by rw [List.length_take]; omega
  rw [take_snocR hk, List.eraseIdx_append_of_length_le (by omega), hl, List.eraseIdx_of_length_le (l := rs.take p) (by omega)]
  simp
theorem outR_all (rs : List Rum) (p : Nat) : outR rs p rs.length = rs.eraseIdx p := by simp [outR]
theorem outR_len_le (rs : List Rum) (p k : Nat) : (outR rs p k).length ≤ k := by
  unfold outR
  have := List.length_eraseIdx_le (rs.take k) p
  rw [List.length_take] at this
  omega
theorem outR_names {rs : List Rum} {p k : Nat} (h : ∀ r ∈ rs, r.m.name.size ≤ maxLen) : ∀ r ∈ outR rs p k, r.m.name.size ≤ maxLen := fun r hr =>
  h r (List.mem_of_mem_take (List.mem_of_mem_eraseIdx hr))

end Go.Proofs.YtigffgjkakalfaaGreatDoor

/- What must be in any case of rumors; the law RumorTimes. -/
namespace Go.Proofs.YtigffgjkakalfaaGreatDoor
open Go.RowKit

def mB : Mem := ⟨⟨#[97]⟩, 1, 1, 0, false⟩
theorem e_mB : mB.e = 0 := by decide
theorem chkR_nil : chkR [] = 0 := chkR_ok (by simp) (fun j hj => by simp at hj) (fun j hj => by simp at hj) (fun i j _ hj => by simp at hj)
theorem chkR_mB : chkR [⟨mB, 0⟩] = 0 := chkR_ok (by simp) (fun j hj => by
    have : j = 0 := by simpa using hj
    subst this; exact e_mB) (fun j hj => by
    have : j = 0 := by simpa using hj
    subst this; decide) (fun i j hi hj => by
    have : j = 0 := by simpa using hj
    omega)

set_option maxHeartbeats 800000 in
theorem rumorBegun_any (w : World) : Calls Tryz.prog 5 #[] w fun e w' => e = .returned (.bool true) ∧ Below w.heap.size w w' := by
  go_enter Tryz.func5, Tryz.ntmps5
  go_wp2_with fail
  refine (put_new [] _ mB _ ⟨none, 0, rfl, rns_get (by simp), .inl rfl⟩ (by decide) chkR_nil e_mB (fun j hj => by simp at hj) (by simp)).mono ?_
  rintro e w1 ⟨v1, rfl, ho1, hb1⟩
  have HO1 : Hid (ROwn w.heap.size w1 v1 [⟨mB, 0⟩]) := ho1
  have HB1 : Hid (Below w.heap.size w w1) := hb1
  clear ho1 hb1
  go_wp2_with fail
  refine (take_one _ ⟨mB, 0⟩ 5 2 _ (HO1.out.sl (rns_get (by simp; decide))) chkR_mB (by decide) (by decide) (by decide) (by decide)).mono ?_
  rintro e w2 ⟨v2, v3, rfl, ho2, ho3, hb2⟩
  have HB2 : Hid (Below w.heap.size w w2) := HB1.out.trans (hb2.mono HB1.out.size)
  obtain ⟨g2, c2, hv2⟩ : ∃ g c, v2 = .slice (some ⟨g, 0, none⟩) 1 c := by
    rcases ho2.2 with ⟨_, h0⟩ | ⟨g, c, cur, h, _⟩
    · simp at h0
    · exact ⟨g, c, h⟩
  obtain ⟨g3, c3, hv3⟩ : ∃ g c, v3 = .slice (some ⟨g, 0, none⟩) 1 c := by
    rcases ho3.2 with ⟨_, h0⟩ | ⟨g, c, cur, h, _⟩
    · simp at h0
    · exact ⟨g, c, h⟩
  subst hv2 hv3
  have d5 : w2.cell? ⟨g3, 5, none⟩ = some (.int .i64 1) := World.ownsRow.cellAt ho3 5 (by decide)
  clear ho2 ho3 hb2
  go_wp2_with fail
  go_ret
  exact ⟨rfl, HB2.out⟩

theorem len_is {m k : Nat} (h64 : m < 2 ^ 64) (h0 : k = 0 ∨ 2 ^ (k - 1) ≤ m) (h1 : m < 2 ^ k) : Lib.bitLen m = k := by
  by_cases hm : m = 0
  · subst hm
    rcases h0 with h0 | h0
    · subst h0; decide
    · have := Nat.two_pow_pos (k - 1); omega
  · obtain ⟨a1, a2, a3⟩ := Lib.bitLenAux_bounds 64 m h64 hm
    have hB : Lib.bitLen m = Lib.bitLenAux 64 m := rfl
    rw [hB]
    generalize Lib.bitLenAux 64 m = B at *
    rcases Nat.lt_trichotomy B k with c | c | c
    · have hk : 2 ^ (k - 1) ≤ m := by rcases h0 with h0 | h0; omega; exact h0
      have := Nat.pow_le_pow_right (n := 2) (by omega) (show B ≤ k - 1 by omega)
      omega
    · exact c
    · have := Nat.pow_le_pow_right (n := 2) (by omega) (show k ≤ B - 1 by omega)
      omega

theorem pow_small {k : Nat} (h : k ≤ 6) : (2 : Int) ^ k ≤ 64 := by
  have : (2 : Nat) ^ k ≤ 2 ^ 6 := Nat.pow_le_pow_right (by omega) h
  have h2 : ((2 ^ k : Nat) : Int) ≤ ((2 ^ 6 : Nat) : Int) := by exact_mod_cast this
  simpa using h2
theorem k_small {k : Nat} {m : Int} (hm : m ≤ 20) (h : k = 0 ∨ (2 : Int) ^ (k - 1) ≤ m) : k ≤ 5 := by
  rcases h with h | h
  · omega
  · apply Classical.byContradiction; intro c
    have h1 : (2 : Nat) ^ 5 ≤ 2 ^ (k - 1) := Nat.pow_le_pow_right (by omega) (by omega)
    have h2 : ((2 ^ 5 : Nat) : Int) ≤ ((2 ^ (k - 1) : Nat) : Int) := by exact_mod_cast h1
    simp at h2
    omega

end Go.Proofs.YtigffgjkakalfaaGreatDoor

/- The law RumorPuts. -/
namespace Go.Proofs.YtigffgjkakalfaaGreatDoor
open Go.RowKit

theorem rsl_nil (w : World) : RSl w (.slice none 0 0) [] := ⟨none, 0, rfl, rns_get (by simp), .inl rfl⟩
theorem ROwn.names {base : Nat} {w : World} {v : Value} {ms : List Rum} (h : ROwn base w v ms) (hs : ∀ r ∈ ms, r.m.name.size ≤ maxLen) : RSl w v ms := h.sl (rns_get hs)

set_option maxHeartbeats 800000 in
theorem put_bad1 (rs : List Rum) (v : Value) (m : Mem) (w : World) (hv : RSl w v rs) (h0 : chkR rs ≠ 0) :
    Calls Tryz.prog 20 #[v, .agg #[.string m.name, .int .i64 m.state, .int .i64 m.life, .int .i64 m.addr, .bool m.server]] w fun e w' => e = .returned (.tuple #[.slice none 0 0, .int .i64 (chkR rs)]) ∧ Below w.heap.size w w' := by
  have HV : Hid (RSl w v rs) := hv
  have hne : (chkR rs != 0) = true := by simpa using h0
  have hchk := fun (w : World) (h : RSl w v rs) => checkR_any rs v w h
  clear hv h0
  generalize chkR rs = q at *
  have hB0 : Below w.heap.size w (w.alloc (.cells #[.string m.name, .int .i64 m.state, .int .i64 m.life, .int .i64 m.addr, .bool m.server] 24)) := (Below.refl _ _).alloc (Nat.le_refl _) _
  go_enter Tryz.func20, Tryz.ntmps20
  go_wp2_with fail
  refine (hchk _ (HV.out.below hB0)).mono ?_
  rintro e w1 ⟨rfl, hb1⟩
  have HB1 : Hid (Below w.heap.size w w1) := hB0.trans (hb1.mono (by simp))
  clear hb1 hB0 hchk
  go_wp2_with fail
  go_ret2
  exact ⟨rfl, HB1.out⟩

set_option maxHeartbeats 800000 in
theorem put_bad2 (rs : List Rum) (v : Value) (m : Mem) (w : World) (hv : RSl w v rs) (hm : m.name.size ≤ maxLen) (h0 : chkR rs = 0) (he : m.e ≠ 0) :
    Calls Tryz.prog 20 #[v, .agg #[.string m.name, .int .i64 m.state, .int .i64 m.life, .int .i64 m.addr, .bool m.server]] w fun e w' => e = .returned (.tuple #[.slice none 0 0, .int .i64 m.e]) ∧ Below w.heap.size w w' := by
  have HV : Hid (RSl w v rs) := hv
  have hne : (m.e != 0) = true := by simpa using he
  have hchk := fun (w : World) (h : RSl w v rs) => checkR_any rs v w h
  rw [h0] at hchk
  have hcm := fun w => checkMember_any m w hm
  clear hv h0 he
  generalize m.e = q at *
  have hB0 : Below w.heap.size w (w.alloc (.cells #[.string m.name, .int .i64 m.state, .int .i64 m.life, .int .i64 m.addr, .bool m.server] 24)) := (Below.refl _ _).alloc (Nat.le_refl _) _
  go_enter Tryz.func20, Tryz.ntmps20
  go_wp2_with fail
  refine (hchk _ (HV.out.below hB0)).mono ?_
  rintro e w1 ⟨rfl, hb1⟩
  have c1 : ∀ o, w1.cell? ⟨w.heap.size, o, none⟩ = #[Value.string m.name, .int .i64 m.state, .int .i64 m.life, .int .i64 m.addr, .bool m.server][o]? := fun o => by
    rw [hb1.cell (p := ⟨w.heap.size, o, none⟩) (by simp)]; exact cell_top' rfl
  have HB1 : Hid (Below w.heap.size w w1) := hB0.trans (hb1.mono (by simp))
  clear hb1 hB0 hchk
  go_wp2_with fail
  refine (hcm _).mono ?_
  rintro e w2 ⟨rfl, hb2⟩
  have HB2 : Hid (Below w.heap.size w w2) := HB1.out.trans (hb2.mono HB1.out.size)
  clear hb2 c1 hcm
  go_wp2_with fail
  go_ret2
  exact ⟨rfl, HB2.out⟩

theorem find_name (rs : List Rum) (nm : ByteArray) : NotIn rs nm ∨ ∃ p, p < rs.length ∧ (rs.getD p dr).m.name = nm := by
  by_cases h : ∃ p, p < rs.length ∧ (rs.getD p dr).m.name = nm
  · exact .inr h
  · exact .inl (fun j hj e => h ⟨j, hj, e⟩)

end Go.Proofs.YtigffgjkakalfaaGreatDoor

/- Take in general: whose turn it is. -/
namespace Go.Proofs.YtigffgjkakalfaaGreatDoor
open Go.RowKit

def cmpZ (a b : Int) : Int := if a < b then -1 else if b < a then 1 else 0
set_option maxHeartbeats 800000 in
theorem compareZ_any (a b : Int) (w : World) :
    Calls Tryz.prog 60 #[.int .i64 a, .int .i64 b] w fun e w' => e = .returned (.int .i64 (cmpZ a b)) ∧ w' = w := by
  go_enter Tryz.func60, Tryz.ntmps60
  go_wp2
  all_goals
    go_ret
    exact ⟨ret_int (by unfold cmpZ; (repeat' split) <;> omega), rfl⟩

def orZ (a b : Int) : Int := if a = 0 then b else a
set_option maxHeartbeats 800000 in
theorem or_any (a b : Int) (g : Nat) (c : Nat) (w : World) (h0 : w.cell? ⟨g, 0, none⟩ = some (.int .i64 a)) (h1 : w.cell? ⟨g, 1, none⟩ = some (.int .i64 b)) :
    Calls Tryz.prog 59 #[.slice (some ⟨g, 0, none⟩) 2 c] w fun e w' => e = .returned (.int .i64 (orZ a b)) ∧ w' = w := by
  by_cases ha : a = 0
  · subst ha
    by_cases hb : b = 0
    · subst hb
      go_enter Tryz.func59, Tryz.ntmps59
      go_wp2_with fail
      refine wp_loop_rounds 3 ?_
      rw [rounds_succ]
      go_wp2_with fail
      rw [rounds_succ]
      go_wp2_with fail
      rw [rounds_succ]
      go_wp2_with fail
      go_ret
      exact ⟨rfl, rfl⟩
    · have hb' : (b != 0) = true := by simpa using hb
      go_enter Tryz.func59, Tryz.ntmps59
      go_wp2_with fail
      refine wp_loop_rounds 3 ?_
      rw [rounds_succ]
      go_wp2_with fail
      rw [rounds_succ]
      go_wp2_with fail
      go_ret
      exact ⟨rfl, rfl⟩
  · have ha' : (a != 0) = true := by simpa using ha
    go_enter Tryz.func59, Tryz.ntmps59
    go_wp2_with fail
    refine wp_loop_rounds 3 ?_
    rw [rounds_succ]
    go_wp2_with fail
    go_ret
    exact ⟨ret_int (by unfold orZ; rw [if_neg ha]), rfl⟩

def cfR (rs : List Rum) (i k : Nat) : Int := orZ (cmpZ (rs.getD i dr).told (rs.getD k dr).told) (cmpZ k i)
set_option maxHeartbeats 1600000 in
theorem turnF_any (ti tk : Int) (lb b off n ca i k : Nat) (w : World) (hl : w.cell? ⟨lb, 0, none⟩ = some (.slice (some ⟨b, off, none⟩) n ca)) (hi : i < n) (hk : k < n) (hti : w.cell? ⟨b, off + i * 6 + 5, none⟩ = some (.int .i64 ti)) (htk : w.cell? ⟨b, off + k * 6 + 5, none⟩ = some (.int .i64 tk)) :
    Calls Tryz.prog 58 #[.int .i64 i, .int .i64 k, .pointer (some ⟨lb, 0, none⟩)] w fun e w' => e = .returned (.int .i64 (orZ (cmpZ ti tk) (cmpZ k i))) ∧ w' = (w.alloc (.cells #[.int .i64 (cmpZ ti tk), .int .i64 (cmpZ k i)] 3)).drew := by
  have hi0 : (0 : Int) ≤ (i : Int) := Int.natCast_nonneg _
  have hi1 : (i : Int) < (n : Int) := by omega
  have hk0 : (0 : Int) ≤ (k : Int) := Int.natCast_nonneg _
  have hk1 : (k : Int) < (n : Int) := by omega
  have h1 := World.new_ne w _ hl
  have h2 := World.new_ne w _ hti
  have h3 := World.new_ne w _ htk
  go_enter Tryz.func58, Tryz.ntmps58
  go_wp2_with fail
  go_region_held3 (fun w' => w'.cell? ⟨lb, 0, none⟩ = some (.slice (some ⟨b, off, none⟩) n ca) ∧ w'.cell? ⟨b, off + i * 6 + 5, none⟩ = some (.int .i64 ti) ∧ w'.cell? ⟨b, off + k * 6 + 5, none⟩ = some (.int .i64 tk)) (go_keep) (first | (go_at_call 60; refine (compareZ_any _ _ _).mono ?_; rintro e w' ⟨rfl, rfl⟩) | (go_at_call 59; refine (or_any (cmpZ ti tk) (cmpZ k i) _ _ _ (cell_top' rfl) (cell_top' rfl)).mono ?_; rintro e w' ⟨rfl, rfl⟩))
  go_wp2_with fail
  go_ret
  exact ⟨rfl, rfl⟩

end Go.Proofs.YtigffgjkakalfaaGreatDoor

