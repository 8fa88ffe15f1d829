/- SKW, RC6, RC7, RC8, RC9, RCO -/
import Derived.Test.YtkicpbomjpgjpaaGreatV6
import Derived.Test.YtkicpbomjpgjpaaGreatV21
import Derived.Deep.DeepCutAuto
import Derived.Deep.CutBlock
import Derived.Test.YtkicpbomjpgjpaaGreatV14
import Derived.Test.YtkicpbomjpgjpaaGreatV16
import Derived.Test.YtkicpbomjpgjpaaGreatV10
import Derived.Test.YtkicpbomjpgjpaaGreatV9
import Derived.Test.YtkicpbomjpgjpaaGreatRows
import Derived.Deep.Slices
import Derived.ProofKit
import Derived.OpenShut
import Derived.Handed
/- Great lists of services that are the same. -/
namespace Go.Proofs.YtkicpbomjpgjpaaGreat
namespace Sv
open Go.RowKit

set_option maxHeartbeats 800000 in
theorem same_big (a b : List Svc) (va vb : Value) (w : World) (ha : Sl w va a) (hb : Sl w vb b) (hsm : a.length ≤ 4000000000) :
    Calls Tryz.prog 12 #[va, vb] w fun e w' => ∃ r : Bool, e = .returned (.bool r) ∧ (r = true ↔ a = b) ∧ Below w.heap.size w w' := by
  obtain ⟨pa, ca, rfl, _, ha⟩ := ha
  obtain ⟨pv, cb, rfl, _, hb⟩ := hb
  by_cases hl : a.length = b.length
  · have HA : Hid (a = [] ∨ ∃ b off, pa = some ⟨b, off, none⟩ ∧ b < w.heap.size ∧ Row w b off a) := ha
    have HB : Hid (b = [] ∨ ∃ b_1 off, pv = some ⟨b_1, off, none⟩ ∧ b_1 < w.heap.size ∧ Row w b_1 off b) := hb
    have HL : Hid (a.length = b.length) := hl
    clear ha hb
    rw [← hl]
    clear hl
    generalize hna : a.length = n at *
    have HN : Hid (a.length = n) := hna
    clear hna
    have hg28 : Tryz.prog.eqGuardType Tryz.prog.depth 24 = false := by kernel_rfl
    go_enter Tryz.func12, Tryz.ntmps12
    go_wp2_with fail
    go_loopw [5] (fun i w' => ∃ k : Nat, k ≤ n ∧ i = .int .i64 k ∧ Below w.heap.size w w' ∧ Hid (∀ j, j < k → a.getD j dm = b.getD j dm)) (fun i _ => n - (intOf i).toNat)
    case atStart => exact ⟨0, Nat.zero_le _, rfl, Below.refl _ _, fun j h => absurd h (Nat.not_lt_zero _)⟩
    case round =>
      obtain ⟨k, hk, rfl, hbl, hz⟩ := hrel
      obtain ⟨hbc, hbf⟩ := bcell hbl
      have hsz := hbl.size
      by_cases hlt : k < n
      · obtain ⟨b1, o1, hp1, hl1, hr1⟩ : ∃ b off, pa = some ⟨b, off, none⟩ ∧ b < w.heap.size ∧ Row w b off a := by
          rcases HA.out with h | h
          · have := HN.out; rw [h] at this; simp at this; omega
          · exact h
        obtain ⟨b2, o2, hp2, hl2, hr2⟩ : ∃ b_1 off, pv = some ⟨b_1, off, none⟩ ∧ b_1 < w.heap.size ∧ Row w b_1 off b := by
          rcases HB.out with h | h
          · have h2 := HN.out; have h3 := HL.out; rw [h] at h3; simp at h3; omega
          · exact h
        subst hp1
        subst hp2
        obtain ⟨c0, c1, c2, c3, c4, c5, c6, c7, c8⟩ := hr1 k (by rw [HN.out]; exact hlt)
        obtain ⟨d0, d1, d2, d3, d4, d5, d6, d7, d8⟩ := hr2 k (by have h2 := HN.out; have h3 := HL.out; omega)
        clear hr1 hr2
        have HF : Hid (a.getD k dm ≠ b.getD k dm → a ≠ b) := fun h e => h (by rw [e])
        have HZ : Hid (a.getD k dm = b.getD k dm → ∀ j, j < k + 1 → a.getD j dm = b.getD j dm) := fun h j hj => by
          rcases Nat.lt_succ_iff_lt_or_eq.1 hj with h2 | rfl
          · exact hz.out j h2
          · exact h
        have hneq := neqE (a.getD k dm) (b.getD k dm)
        generalize a.getD k dm = m1 at *
        generalize b.getD k dm = m2 at *
        rcases hs : sameM m1 m2 with _ | _
        · rw [hs] at hneq
          have hne : Hid (a ≠ b) := HF.out (fun e => by rw [← sameM_iff, hs] at e; cases e)
          go_wp2_with fail
          go_quiet (fail)
          go_wp2_with fail
          go_ret
          exact ⟨false, rfl, ⟨fun h => (by cases h), fun h => absurd h hne.out⟩, below_drewN hbl _⟩
        · rw [hs] at hneq
          have heq : Hid (m1 = m2) := (sameM_iff m1 m2).1 hs
          go_wp2_with fail
          go_quiet (fail)
          go_wp2_with fail
          go_roundw
          case rel => exact ⟨k + 1, by omega, by go_num, below_drewN hbl _, HZ.out heq.out⟩
          case measure => simp [intOf]; omega
      · have hfin : Hid (a = b) := by
          apply List.ext_getElem (HN.out.trans HL.out)
          intro j h1 h2
          have := hz.out j (by have := HN.out; omega)
          simpa [List.getD, List.getElem?_eq_getElem h1, List.getElem?_eq_getElem h2] using this
        go_wp2_with fail
        go_ret
        exact ⟨true, rfl, ⟨fun _ => hfin.out, fun _ => rfl⟩, hbl⟩
  · have hne : ((a.length : Int) != (b.length : Int)) = true := by rw [bne_iff_ne]; omega
    have HF : Hid (a ≠ b) := fun e => hl (by rw [e])
    clear ha hb
    go_enter Tryz.func12, Tryz.ntmps12
    go_wp2_with fail
    go_ret
    exact ⟨false, rfl, ⟨fun h => (by cases h), fun h => absurd h HF.out⟩, Below.refl _ _⟩

end Sv
end Go.Proofs.YtkicpbomjpgjpaaGreat

/- RestCatalogs: services are held against the document. -/
namespace Go.Proofs.YtkicpbomjpgjpaaGreat
open Go.RowKit

set_option maxHeartbeats 3200000 in
set_option maxRecDepth 1000000 in
theorem rc14 {u1 u2 u3 u4 u6 u7 u8 u9 u10 u11 u12 u17 u18 u19 u20 u21 u22 u23 u24 u25 u26 u27 u28 u29 u30 u31 u32 u33 u34 u35 u36 u37 u38 u39 u40 u41 u42 u43 u44 u45 u46 u47 u48 u49 u50 u51 u52 u53 u54 u55 u56 u57 u58 u59 u60 u61 u62 u63 u64 u65 u66 u67 u68 u69 u70 u71 u72 u73 u74 u75 u76 u77 u78 u79 u80 u81 u82 u83 u84 u85 u86 u87 u88 u89 u90 u91 u92 u93 u94 u95 u96 u97 u98 u100 u101 u102 u103 u104 u105 u106 u107 u108 u109 u110 u111 u112 u113 u114 u115 u116 u117 u118 u119 u120 u121 u122 u123 u124 u125 u126 u127 u128 u129 u130 u131 u132 u133 u134 u135 u136 u137 u138 u139 u140 u141 u142 u143 u144 u145 u146 u147 u148 u149 u150 u151 u152 u153 u154 u155 u156 u157 u158 u159 u160 u161 u162 u163 u164 u165 u166 u167 u168 u169 u170 u171 u172 u173 u174 u175 u176 u177 u178 u179 u180 u181 u182 u183 u184 u185 u186 u187 u188 u189 u190 u191 : Value} (w : World) (cb : Bool) (ms LX LY : List Sv.Svc) (s : Sv.Svc) (HCB : Hid ((Sv.chk ms == 0) = cb)) (EX EY : Int) (pl px py : Option Addr) (cl nx cx ny cy mbx : Nat) (HL : Hid (Sv.Sl w (.slice pl ms.length cl) ms)) (HMB : Hid (w.heap[mbx]? = some (.cells #[.string s.node, .string s.idn, .string s.name, .string s.tag, .int .i64 s.addr, .int .i64 s.port, .bool s.passing, .int .i64 s.version, .bool s.gone] 24 (0, 0)))) (HX : Hid (Sv.Sl w (.slice px nx cx) LX)) (HY : Hid (Sv.Sl w (.slice py ny cy) LY)) (hlx : LX.length ≤ 1000) (hly : LY.length ≤ 1000)
    (HD : Hid (Sv.chk ms = 0 → ∀ v W, Sv.Sl W v ms → Calls Tryz.prog 16 #[v, svA s] W fun e w' => ∃ v', e = .returned (.tuple #[v', .int .i64 EX]) ∧ Hid (EX = 0 → Sv.Sl w' v' LX) ∧ Below W.heap.size W w'))
    (HF0 : Hid (Sv.chk ms = 0 → EY = 0 → ∀ v W, Sv.Sl W v ms → Calls Tryz.prog 17 #[v, .string s.name, .string ⟨#[]⟩] W fun e w' => ∃ v', e = .returned v' ∧ Hid (Sv.Sl w' v' LY) ∧ Below W.heap.size W w')) (Q : Exit → Act → World → Prop)
    (hN : ∀ (y23 y24 y100 y101 y102 y103 y104 y105 y106 y107 y108 y109 y110 y111 y112 y113 y114 y115 y116 y117 y118 y119 y120 y121 y122 y123 y124 y125 y126 y127 y128 y129 y130 y131 : Value) (wx : World), Hid (Below w.heap.size w wx) → Q .normal ⟨#[.slice pl ms.length cl, u1, u2, u3, u4, .pointer (some ⟨mbx, 0, none⟩), u6, u7, u8, u9, u10, u11, u12, .slice px nx cx, .int .i64 EX, .slice py ny cy, .int .i64 EY, u17, u18, u19, u20, u21, u22, y23, y24, u25, u26, u27, u28, u29, u30, u31, u32, u33, u34, u35, u36, u37, u38, u39, u40, u41, u42, u43, u44, u45, u46, u47, u48, u49, u50, u51, u52, u53, u54, u55, u56, u57, u58, u59, u60, u61, u62, u63, u64, u65, u66, u67, u68, u69, u70, u71, u72, u73, u74, u75, u76, u77, u78, u79, u80, u81, u82, u83, u84, u85, u86, u87, u88, u89, u90, u91, u92, u93, u94, u95, u96, u97, u98, .bool cb, y100, y101, y102, y103, y104, y105, y106, y107, y108, y109, y110, y111, y112, y113, y114, y115, y116, y117, y118, y119, y120, y121, y122, y123, y124, y125, y126, y127, y128, y129, y130, y131, u132, u133, u134, u135, u136, u137, u138, u139, u140, u141, u142, u143, u144, u145, u146, u147, u148, u149, u150, u151, u152, u153, u154, u155, u156, u157, u158, u159, u160, u161, u162, u163, u164, u165, u166, u167, u168, u169, u170, u171, u172, u173, u174, u175, u176, u177, u178, u179, u180, u181, u182, u183, u184, u185, u186, u187, u188, u189, u190, u191], []⟩ wx) :
    Code.wp Tryz.prog ((Tryz.f3.body.bind (condIn 99)).getD .skip) Q ⟨#[.slice pl ms.length cl, u1, u2, u3, u4, .pointer (some ⟨mbx, 0, none⟩), u6, u7, u8, u9, u10, u11, u12, .slice px nx cx, .int .i64 EX, .slice py ny cy, .int .i64 EY, u17, u18, u19, u20, u21, u22, u23, u24, u25, u26, u27, u28, u29, u30, u31, u32, u33, u34, u35, u36, u37, u38, u39, u40, u41, u42, u43, u44, u45, u46, u47, u48, u49, u50, u51, u52, u53, u54, u55, u56, u57, u58, u59, u60, u61, u62, u63, u64, u65, u66, u67, u68, u69, u70, u71, u72, u73, u74, u75, u76, u77, u78, u79, u80, u81, u82, u83, u84, u85, u86, u87, u88, u89, u90, u91, u92, u93, u94, u95, u96, u97, u98, .bool cb, u100, u101, u102, u103, u104, u105, u106, u107, u108, u109, u110, u111, u112, u113, u114, u115, u116, u117, u118, u119, u120, u121, u122, u123, u124, u125, u126, u127, u128, u129, u130, u131, u132, u133, u134, u135, u136, u137, u138, u139, u140, u141, u142, u143, u144, u145, u146, u147, u148, u149, u150, u151, u152, u153, u154, u155, u156, u157, u158, u159, u160, u161, u162, u163, u164, u165, u166, u167, u168, u169, u170, u171, u172, u173, u174, u175, u176, u177, u178, u179, u180, u181, u182, u183, u184, u185, u186, u187, u188, u189, u190, u191], []⟩ w := by
  conv => arg 2; whnf
  have HQN : Hid _ := hN
  clear hN
  cases cb with
  | true =>
    have h0 : Sv.chk ms = 0 := by simpa using HCB.out
    have HT : Hid (Calls Tryz.prog 16 #[.slice pl ms.length cl, .agg #[.string s.node, .string s.idn, .string s.name, .string s.tag, .int .i64 s.addr, .int .i64 s.port, .bool s.passing, .int .i64 s.version, .bool s.gone]] w fun e w' => ∃ v', e = .returned (.tuple #[v', .int .i64 EX]) ∧ Hid (EX = 0 → Sv.Sl w' v' LX) ∧ Below w.heap.size w w') := HD.out h0 _ w HL.out
    have HF : Hid (EY = 0 → ∀ v W, Sv.Sl W v ms → Calls Tryz.prog 17 #[v, .string s.name, .string ⟨#[]⟩] W fun e w' => ∃ v', e = .returned v' ∧ Hid (Sv.Sl w' v' LY) ∧ Below W.heap.size W w') := HF0.out h0
    clear h0 HD HCB HF0
    have c0 : w.cell? ⟨mbx, 0, none⟩ = some (.string s.node) := cellsAt HMB.out 0
    have c1 : w.cell? ⟨mbx, 1, none⟩ = some (.string s.idn) := cellsAt HMB.out 1
    have c2 : w.cell? ⟨mbx, 2, none⟩ = some (.string s.name) := cellsAt HMB.out 2
    have c3 : w.cell? ⟨mbx, 3, none⟩ = some (.string s.tag) := cellsAt HMB.out 3
    have c4 : w.cell? ⟨mbx, 4, none⟩ = some (.int .i64 s.addr) := cellsAt HMB.out 4
    have c5 : w.cell? ⟨mbx, 5, none⟩ = some (.int .i64 s.port) := cellsAt HMB.out 5
    have c6 : w.cell? ⟨mbx, 6, none⟩ = some (.bool s.passing) := cellsAt HMB.out 6
    have c7 : w.cell? ⟨mbx, 7, none⟩ = some (.int .i64 s.version) := cellsAt HMB.out 7
    have c8 : w.cell? ⟨mbx, 8, none⟩ = some (.bool s.gone) := cellsAt HMB.out 8
    go_wp2_with fail
    refine HT.out.mono ?_
    rintro e w1 ⟨v1, rfl, HS1, hb1⟩
    have HB1 : Hid (Below w.heap.size w w1) := hb1
    have hxx : (EX != EX) = false := by simp
    clear hb1 HT c0 c1 c2 c3 c4 c5 c6 c7 c8
    by_cases hex : EX = 0
    · have hexb : (EX == 0) = true := by simp [hex]
      have HS : Hid (Sv.Sl w1 v1 LX) := HS1.out hex
      clear hex HS1
      go_wp2_with fail
      refine (Sv.same_big LX LX _ _ w1 (HX.out.below HB1.out) HS.out (by omega)).mono ?_
      rintro e w2 ⟨r2, rfl, hr2, hb2⟩
      have e2 : r2 = true := hr2.2 rfl
      subst e2
      have HB2 : Hid (Below w.heap.size w w2) := HB1.out.trans (hb2.mono HB1.out.size)
      clear hb2 hr2
      by_cases hey : EY = 0
      · have heyb : (EY == 0) = true := by simp [hey]
        have HT2 : Hid (∀ v W, Sv.Sl W v ms → Calls Tryz.prog 17 #[v, .string s.name, .string ⟨#[]⟩] W fun e w' => ∃ v', e = .returned v' ∧ Hid (Sv.Sl w' v' LY) ∧ Below W.heap.size W w') := HF.out hey
        have HM2 : Hid (w2.heap[mbx]? = some (.cells #[.string s.node, .string s.idn, .string s.name, .string s.tag, .int .i64 s.addr, .int .i64 s.port, .bool s.passing, .int .i64 s.version, .bool s.gone] 24 (0, 0))) := (HB2.out.block _ (Array.getElem?_eq_some_iff.1 HMB.out).1).trans HMB.out
        have d2 : w2.cell? ⟨mbx, 2, none⟩ = some (.string s.name) := cellsAt HM2.out 2
        clear hey HF
        go_wp2_with fail
        refine (HT2.out _ w2 (HL.out.below HB2.out)).mono ?_
        rintro e w5 ⟨v5, rfl, HS5, hb5⟩
        have HB5 : Hid (Below w.heap.size w w5) := HB2.out.trans (hb5.mono HB2.out.size)
        clear hb5 HT2 d2 HM2
        go_wp2_with fail
        refine (Sv.same_big LY LY _ _ w5 (HY.out.below HB5.out) HS5.out (by omega)).mono ?_
        rintro e w6 ⟨r6, rfl, hr6, hb6⟩
        have e6 : r6 = true := hr6.2 rfl
        subst e6
        have HB6 : Hid (Below w.heap.size w w6) := HB5.out.trans (hb6.mono HB5.out.size)
        clear hb6 hr6
        go_wp2_with fail
        exact HQN.out _ _ _ _ _ _ _ _ _ _ _ _ _ _ _ _ _ _ _ _ _ _ _ _ _ _ _ _ _ _ _ _ _ _ _ HB6
      · have heyb : (EY == 0) = false := by simp [hey]
        clear hey HF
        go_wp2_with fail
        exact HQN.out _ _ _ _ _ _ _ _ _ _ _ _ _ _ _ _ _ _ _ _ _ _ _ _ _ _ _ _ _ _ _ _ _ _ _ HB2
    · have hexb : (EX == 0) = false := by simp [hex]
      clear hex HS1
      by_cases hey : EY = 0
      · have heyb : (EY == 0) = true := by simp [hey]
        have HT2 : Hid (∀ v W, Sv.Sl W v ms → Calls Tryz.prog 17 #[v, .string s.name, .string ⟨#[]⟩] W fun e w' => ∃ v', e = .returned v' ∧ Hid (Sv.Sl w' v' LY) ∧ Below W.heap.size W w') := HF.out hey
        have HM2 : Hid (w1.heap[mbx]? = some (.cells #[.string s.node, .string s.idn, .string s.name, .string s.tag, .int .i64 s.addr, .int .i64 s.port, .bool s.passing, .int .i64 s.version, .bool s.gone] 24 (0, 0))) := (HB1.out.block _ (Array.getElem?_eq_some_iff.1 HMB.out).1).trans HMB.out
        have d2 : w1.cell? ⟨mbx, 2, none⟩ = some (.string s.name) := cellsAt HM2.out 2
        clear hey HF
        go_wp2_with fail
        refine (HT2.out _ w1 (HL.out.below HB1.out)).mono ?_
        rintro e w5 ⟨v5, rfl, HS5, hb5⟩
        have HB5 : Hid (Below w.heap.size w w5) := HB1.out.trans (hb5.mono HB1.out.size)
        clear hb5 HT2 d2 HM2
        go_wp2_with fail
        refine (Sv.same_big LY LY _ _ w5 (HY.out.below HB5.out) HS5.out (by omega)).mono ?_
        rintro e w6 ⟨r6, rfl, hr6, hb6⟩
        have e6 : r6 = true := hr6.2 rfl
        subst e6
        have HB6 : Hid (Below w.heap.size w w6) := HB5.out.trans (hb6.mono HB5.out.size)
        clear hb6 hr6
        go_wp2_with fail
        exact HQN.out _ _ _ _ _ _ _ _ _ _ _ _ _ _ _ _ _ _ _ _ _ _ _ _ _ _ _ _ _ _ _ _ _ _ _ HB6
      · have heyb : (EY == 0) = false := by simp [hey]
        clear hey HF
        go_wp2_with fail
        exact HQN.out _ _ _ _ _ _ _ _ _ _ _ _ _ _ _ _ _ _ _ _ _ _ _ _ _ _ _ _ _ _ _ _ _ _ _ HB1
  | false =>
    go_wp2_with fail
    exact HQN.out _ _ _ _ _ _ _ _ _ _ _ _ _ _ _ _ _ _ _ _ _ _ _ _ _ _ _ _ _ _ _ _ _ _ _ (Below.refl _ _)

end Go.Proofs.YtkicpbomjpgjpaaGreat

/- RestCatalogs: one round. -/
namespace Go.Proofs.YtkicpbomjpgjpaaGreat
open Go.RowKit

theorem Sv.own_ok {B : Nat} {w : World} {v : Value} {L : List Sv.Svc} (h : Sv.Own B w v L) (hx : ∀ x ∈ L, x.ok) : Sv.Sl w v L := h.sl (Sv.ns_get hx)
theorem Gw.own_ok {B : Nat} {w : World} {v : Value} {L : List Gw.Gwy} (h : Gw.Own B w v L) (hx : ∀ x ∈ L, x.ok) : Gw.Sl w v L := h.sl (Gw.ns_get hx)
theorem tsl_chg {v u : Value} {W W' : World} {L : List ByteArray} (h : Chg v W W') (ht : TSl W u L) (hne : ∀ k, u.ownBlock = some k → v.ownBlock ≠ some k) : TSl W' u L := by
  obtain ⟨a, c, hv, hs, hr⟩ := ht
  refine ⟨a, c, hv, hs, hr.imp id ?_⟩
  rintro ⟨b, off, rfl, hlt, hrow⟩
  refine ⟨b, off, rfl, by rw [h.size]; exact hlt, fun j hj => ?_⟩
  have hb := h.block b (fun e => hne b (by rw [hv]; rfl) e.symm)
  rw [← hrow j hj]
  simp only [World.cell?, hb]
theorem frB_chg {v u : Value} {B : Nat} {W W' : World} (h : Chg v W W') (hf : FrB B W u) (hne : ∀ k, u.ownBlock = some k → v.ownBlock ≠ some k) : FrB B W' u := fun g hg => by
  obtain ⟨h1, h2, h3⟩ := hf g hg
  have hb := h.block g (fun e => hne g hg e.symm)
  refine ⟨h1, by rw [h.size]; exact h2, fun j => ?_⟩
  rw [← h3 j]
  simp only [World.frozen?, hb]
theorem frB_below {u : Value} {B : Nat} {W W' : World} (h : Below W.heap.size W W') (hf : FrB B W u) : FrB B W' u := fun g hg => by
  obtain ⟨h1, h2, h3⟩ := hf g hg
  have hb := h.block g h2
  refine ⟨h1, Nat.lt_of_lt_of_le h2 h.size, fun j => ?_⟩
  rw [← h3 j]
  simp only [World.frozen?, hb]

end Go.Proofs.YtkicpbomjpgjpaaGreat

/- RestCatalogs: one round. -/
namespace Go.Proofs.YtkicpbomjpgjpaaGreat
open Go.RowKit

theorem rt_chg {u v : Value} {B : Nat} {W W' : World} {ms : List Rt.Rte} (h : Chg v W W') (ho : Rt.Own B W u ms) (hne : ∀ k, u.ownBlock = some k → v.ownBlock ≠ some k) : Rt.Own B W' u ms := by
  rcases ho.2 with ⟨rfl, h0⟩ | ⟨g, c, cur, rfl, hbg, hg, hr⟩
  · exact ⟨ho.1, .inl ⟨rfl, h0⟩⟩
  · exact ⟨ho.1, .inr ⟨g, c, cur, rfl, hbg, (h.block g (fun e => hne g rfl e.symm)).trans hg, hr⟩⟩

set_option maxHeartbeats 6400000 in
set_option maxRecDepth 1000000 in
theorem rcbody {u1 u4 u6 u7 u8 u12 u13 u14 u15 u16 u17 u18 u19 u20 u21 u22 u23 u24 u25 u26 u27 u28 u29 u30 u31 u32 u33 u34 u35 u36 u37 u38 u39 u40 u41 u42 u43 u44 u45 u46 u47 u48 u49 u50 u51 u52 u53 u54 u55 u56 u57 u58 u59 u60 u61 u62 u63 u64 u65 u66 u67 u68 u69 u70 u71 u72 u73 u74 u75 u76 u77 u78 u79 u80 u81 u82 u83 u84 u85 u86 u87 u88 u89 u90 u91 u92 u93 u94 u95 u96 u97 u98 u99 u100 u101 u102 u103 u104 u105 u106 u107 u108 u109 u110 u111 u112 u113 u114 u115 u116 u117 u118 u119 u120 u121 u122 u123 u124 u125 u126 u127 u128 u129 u130 u131 u132 u133 u134 u135 u136 u137 u138 u139 u140 u141 u142 u143 u144 u145 u146 u147 u148 u149 u150 u151 u152 u153 u154 u155 u156 u157 u158 u159 u160 u161 u162 u163 u164 u165 u166 u167 u168 u169 u170 u171 u172 u173 u174 u175 u176 u177 u178 u179 u180 u181 u182 u183 u184 u185 u186 u187 u188 u189 u190 u191 : Value} (w0 wr : World) (ms : List Sv.Svc) (s : Sv.Svc) (gs : List Gw.Gwy) (ns : List ByteArray) (pl pg pn p1 p2 p3 : Option Addr) (cl cg cn c1 c2 c3 mbx : Nat) (hn : ms.length ≤ 2000000) (hgn : gs.length ≤ 2000000) (hnn : ns.length ≤ 2000000) (hs : s.ok) (hsn : s.name.size ≤ maxLen) (hq : labB ⟨#[113]⟩ = true)
    (HLL : Hid (Sv.Sl w0 (.slice pl ms.length cl) ms)) (HI1 : Hid (Sv.Sl w0 (.slice p1 ms.length c1) ms)) (HGG : Hid (Gw.Sl w0 (.slice pg gs.length cg) gs)) (HI2 : Hid (Gw.Sl w0 (.slice p2 gs.length c2) gs)) (HNN : Hid (TSl w0 (.slice pn ns.length cn) ns)) (HI3 : Hid (TSl w0 (.slice p3 ns.length c3) ns)) (HMB : Hid (w0.heap[mbx]? = some (.cells #[.string s.node, .string s.idn, .string s.name, .string s.tag, .int .i64 s.addr, .int .i64 s.port, .bool s.passing, .int .i64 s.version, .bool s.gone] 24 (0, 0)))) (HB0 : Hid (Below w0.heap.size w0 wr)) (Q : Exit → Act → World → Prop)
    (hN : ∀ (y13 y14 y15 y16 y17 y18 y19 y20 y21 y22 y23 y24 y25 y26 y27 y28 y52 y53 y54 y55 y56 y57 y58 y59 y60 y61 y62 y63 y64 y65 y66 y67 y68 y69 y70 y71 y72 y73 y74 y75 y76 y77 y78 y79 y80 y81 y82 y83 y84 y85 y86 y87 y88 y89 y90 y91 y92 y93 y94 y95 y96 y97 y98 y99 y100 y101 y102 y103 y104 y105 y106 y107 y108 y109 y110 y111 y112 y113 y114 y115 y116 y117 y118 y119 y120 y121 y122 y123 y124 y125 y126 y127 y128 y129 y130 y131 y132 y133 y134 y135 y136 y137 y138 y139 y140 y141 y142 y143 y144 y145 y146 y147 y148 y149 y150 y151 y152 y153 y154 y155 y156 y157 y158 y159 y160 y161 y162 y163 y164 y165 y166 y167 y168 y169 y170 y171 y172 y173 y174 y175 y176 y177 y178 y179 y180 y181 y182 y183 y184 y185 y186 y187 y188 y189 y190 y191 : Value) (wx : World), Hid (Below w0.heap.size w0 wx) → Q .normal ⟨#[.slice pl ms.length cl, u1, .slice pg gs.length cg, .slice pn ns.length cn, u4, .pointer (some ⟨mbx, 0, none⟩), u6, u7, u8, .slice p1 ms.length c1, .slice p2 gs.length c2, .slice p3 ns.length c3, u12, y13, y14, y15, y16, y17, y18, y19, y20, y21, y22, y23, y24, y25, y26, y27, y28, u29, u30, u31, u32, u33, u34, u35, u36, u37, u38, u39, u40, u41, u42, u43, u44, u45, u46, u47, u48, u49, u50, u51, y52, y53, y54, y55, y56, y57, y58, y59, y60, y61, y62, y63, y64, y65, y66, y67, y68, y69, y70, y71, y72, y73, y74, y75, y76, y77, y78, y79, y80, y81, y82, y83, y84, y85, y86, y87, y88, y89, y90, y91, y92, y93, y94, y95, y96, y97, y98, y99, y100, y101, y102, y103, y104, y105, y106, y107, y108, y109, y110, y111, y112, y113, y114, y115, y116, y117, y118, y119, y120, y121, y122, y123, y124, y125, y126, y127, y128, y129, y130, y131, y132, y133, y134, y135, y136, y137, y138, y139, y140, y141, y142, y143, y144, y145, y146, y147, y148, y149, y150, y151, y152, y153, y154, y155, y156, y157, y158, y159, y160, y161, y162, y163, y164, y165, y166, y167, y168, y169, y170, y171, y172, y173, y174, y175, y176, y177, y178, y179, y180, y181, y182, y183, y184, y185, y186, y187, y188, y189, y190, y191], []⟩ wx) :
    Code.wp Tryz.prog ((Tryz.f3.body.bind (blkIn 1)).getD .skip) Q ⟨#[.slice pl ms.length cl, u1, .slice pg gs.length cg, .slice pn ns.length cn, u4, .pointer (some ⟨mbx, 0, none⟩), u6, u7, u8, .slice p1 ms.length c1, .slice p2 gs.length c2, .slice p3 ns.length c3, u12, u13, u14, u15, u16, u17, u18, u19, u20, u21, u22, u23, u24, u25, u26, u27, u28, u29, u30, u31, u32, u33, u34, u35, u36, u37, u38, u39, u40, u41, u42, u43, u44, u45, u46, u47, u48, u49, u50, u51, u52, u53, u54, u55, u56, u57, u58, u59, u60, u61, u62, u63, u64, u65, u66, u67, u68, u69, u70, u71, u72, u73, u74, u75, u76, u77, u78, u79, u80, u81, u82, u83, u84, u85, u86, u87, u88, u89, u90, u91, u92, u93, u94, u95, u96, u97, u98, u99, u100, u101, u102, u103, u104, u105, u106, u107, u108, u109, u110, u111, u112, u113, u114, u115, u116, u117, u118, u119, u120, u121, u122, u123, u124, u125, u126, u127, u128, u129, u130, u131, u132, u133, u134, u135, u136, u137, u138, u139, u140, u141, u142, u143, u144, u145, u146, u147, u148, u149, u150, u151, u152, u153, u154, u155, u156, u157, u158, u159, u160, u161, u162, u163, u164, u165, u166, u167, u168, u169, u170, u171, u172, u173, u174, u175, u176, u177, u178, u179, u180, u181, u182, u183, u184, u185, u186, u187, u188, u189, u190, u191], []⟩ wr := by
  conv => arg 2; whnf
  have HQN : Hid _ := hN
  clear hN
  have hms : ∀ x ∈ ms, x.ok := by obtain ⟨_, _, _, h, _⟩ := HLL.out; exact Sv.ns_mem h
  have hgs : ∀ x ∈ gs, x.ok := by obtain ⟨_, _, _, h, _⟩ := HGG.out; exact Gw.ns_mem h
  obtain ⟨EX, LX, hlx, hox, hR, hRO⟩ := reg_own ms s hs hms
  obtain ⟨EY, LY, hly, hoy, hfl, hF⟩ := find_own ms s.name hsn
  obtain ⟨ET, LT, hlt, het, hT⟩ := table_own gs ⟨#[113]⟩ (by unfold maxLen; decide) hq
  obtain ⟨EO, LO, hlo, hoo, hO, hOO⟩ := open_own gs ⟨#[113]⟩ 5 (by unfold maxLen; decide) hgs
  obtain ⟨ES, LS, hls, hS, hSO⟩ := sort_own ns
  have HR : Hid _ := hR
  have HRO : Hid _ := hRO
  have HF : Hid _ := hF
  have HT : Hid _ := hT
  have HO : Hid _ := hO
  have HOO : Hid _ := hOO
  have HS : Hid _ := hS
  have HSO : Hid _ := hSO
  have HET : Hid _ := het
  have HOX : Hid _ := hox
  have HOY : Hid _ := hoy hms
  have HOG : Hid _ := hoo
  have HFO : Hid (Sv.chk ms = 0 → EY = 0 → ∀ v W, Sv.Sl W v ms → Calls Tryz.prog 17 #[v, .string s.name, .string ⟨#[]⟩] W fun e w' => ∃ v', e = .returned v' ∧ Hid (Sv.Sl w' v' LY) ∧ Below W.heap.size W w') := fun h0 hE v W h => by
    have hL := hfl h0 hE
    have h40 := (Sv.chk_zero h0).1
    refine (Sv.refFind_any ms v s.name ⟨#[]⟩ W h (by omega)).mono ?_
    rintro e w' ⟨v', rfl, ho, hb⟩
    rw [← hL] at ho
    exact ⟨v', rfl, Sv.own_ok ho HOY.out, hb⟩
  clear hR hRO hF hT hO hOO hS hSO het hox hoy hoo hfl hms hgs
  have hz0 := HB0.out.size
  have HG0 : Hid (wr.heap[mbx]? = some (.cells #[.string s.node, .string s.idn, .string s.name, .string s.tag, .int .i64 s.addr, .int .i64 s.port, .bool s.passing, .int .i64 s.version, .bool s.gone] 24 (0, 0))) := (HB0.out.block _ (Array.getElem?_eq_some_iff.1 HMB.out).1).trans HMB.out
  have b0 : wr.cell? ⟨mbx, 0, none⟩ = some (.string s.node) := cellsAt HG0.out 0
  have b1 : wr.cell? ⟨mbx, 1, none⟩ = some (.string s.idn) := cellsAt HG0.out 1
  have b2 : wr.cell? ⟨mbx, 2, none⟩ = some (.string s.name) := cellsAt HG0.out 2
  have b3 : wr.cell? ⟨mbx, 3, none⟩ = some (.string s.tag) := cellsAt HG0.out 3
  have b4 : wr.cell? ⟨mbx, 4, none⟩ = some (.int .i64 s.addr) := cellsAt HG0.out 4
  have b5 : wr.cell? ⟨mbx, 5, none⟩ = some (.int .i64 s.port) := cellsAt HG0.out 5
  have b6 : wr.cell? ⟨mbx, 6, none⟩ = some (.bool s.passing) := cellsAt HG0.out 6
  have b7 : wr.cell? ⟨mbx, 7, none⟩ = some (.int .i64 s.version) := cellsAt HG0.out 7
  have b8 : wr.cell? ⟨mbx, 8, none⟩ = some (.bool s.gone) := cellsAt HG0.out 8
  go_wp2_with fail
  refine (HR.out _ wr (HI1.out.below HB0.out)).mono ?_
  rintro e w1 ⟨px, nx, cx, rfl, HXw1, hb1⟩
  have HB1 : Hid (Below w0.heap.size w0 w1) := HB0.out.trans (hb1.mono hz0)
  have hz1 := hb1.size
  have HKX : Hid (∀ k, (Value.slice px nx cx).ownBlock = some k → wr.heap.size ≤ k ∧ k < w1.heap.size) := fun k hk => HXw1.out.lt k hk
  have HG1 : Hid (w1.heap[mbx]? = some (.cells #[.string s.node, .string s.idn, .string s.name, .string s.tag, .int .i64 s.addr, .int .i64 s.port, .bool s.passing, .int .i64 s.version, .bool s.gone] 24 (0, 0))) := (HB1.out.block _ (Array.getElem?_eq_some_iff.1 HMB.out).1).trans HMB.out
  have d2 : w1.cell? ⟨mbx, 2, none⟩ = some (.string s.name) := cellsAt HG1.out 2
  clear hb1 b0 b1 b2 b3 b4 b5 b6 b7 b8 HG0 HR
  go_wp2_with fail
  refine (HF.out _ w1 (HI1.out.below HB1.out)).mono ?_
  rintro e w2 ⟨py, ny, cy, rfl, HYw2, hb2⟩
  have HB2 : Hid (Below w0.heap.size w0 w2) := HB1.out.trans (hb2.mono (by omega))
  have hz2 := hb2.size
  have HKY : Hid (∀ k, (Value.slice py ny cy).ownBlock = some k → w1.heap.size ≤ k ∧ k < w2.heap.size) := fun k hk => HYw2.out.lt k hk
  have HXw2 : Hid (Sv.Own wr.heap.size w2 (.slice px nx cx) LX) := HXw1.out.below hb2
  clear hb2 HXw1 HF HG1 d2
  go_wp2_with fail
  refine (HT.out _ w2 (HI2.out.below HB2.out)).mono ?_
  rintro e w3 ⟨pt, nt, ct, rfl, HTw3, hb3⟩
  have HB3 : Hid (Below w0.heap.size w0 w3) := HB2.out.trans (hb3.mono (by omega))
  have hz3 := hb3.size
  have HKT : Hid (∀ k, (Value.slice pt nt ct).ownBlock = some k → w2.heap.size ≤ k ∧ k < w3.heap.size) := fun k hk => HTw3.out.lt k hk
  have HXw3 : Hid (Sv.Own wr.heap.size w3 (.slice px nx cx) LX) := HXw2.out.below hb3
  have HYw3 : Hid (Sv.Own w1.heap.size w3 (.slice py ny cy) LY) := HYw2.out.below hb3
  clear hb3 HXw2 HYw2 HT
  go_wp2_with fail
  refine (HO.out _ w3 (HI2.out.below HB3.out)).mono ?_
  rintro e w4 ⟨po, no, co, rfl, HOw4, hb4⟩
  have HB4 : Hid (Below w0.heap.size w0 w4) := HB3.out.trans (hb4.mono (by omega))
  have hz4 := hb4.size
  have HKO : Hid (∀ k, (Value.slice po no co).ownBlock = some k → w3.heap.size ≤ k ∧ k < w4.heap.size) := fun k hk => HOw4.out.lt k hk
  have HXw4 : Hid (Sv.Own wr.heap.size w4 (.slice px nx cx) LX) := HXw3.out.below hb4
  have HYw4 : Hid (Sv.Own w1.heap.size w4 (.slice py ny cy) LY) := HYw3.out.below hb4
  have HTw4 : Hid (Rt.Own w2.heap.size w4 (.slice pt nt ct) LT) := HTw3.out.below hb4
  clear hb4 HXw3 HYw3 HTw3 HO
  go_wp2_with fail
  refine (HS.out _ w4 (HI3.out.below HB4.out)).mono ?_
  rintro e w5 ⟨sp, sl, sk, rfl, HNw5, HFw5, hb5⟩
  have HB5 : Hid (Below w0.heap.size w0 w5) := HB4.out.trans (hb5.mono (by omega))
  have hz5 := hb5.size
  have HKS : Hid (∀ k, (Value.slice sp sl sk).ownBlock = some k → w4.heap.size ≤ k ∧ k < w5.heap.size) := fun k hk => ⟨(HFw5.out k hk).1, (HFw5.out k hk).2.1⟩
  have HXw5 : Hid (Sv.Own wr.heap.size w5 (.slice px nx cx) LX) := HXw4.out.below hb5
  have HYw5 : Hid (Sv.Own w1.heap.size w5 (.slice py ny cy) LY) := HYw4.out.below hb5
  have HTw5 : Hid (Rt.Own w2.heap.size w5 (.slice pt nt ct) LT) := HTw4.out.below hb5
  have HOw5 : Hid (Gw.Own w3.heap.size w5 (.slice po no co) LO) := HOw4.out.below hb5
  clear hb5 HXw4 HYw4 HTw4 HOw4 HS
  go_wp2_with fail
  refine (Sv.same_big ms ms _ _ w5 (HI1.out.below HB5.out) (HLL.out.below HB5.out) (by omega)).mono ?_
  rintro e w6 ⟨r6, rfl, hr6, hb6⟩
  have e6 : r6 = true := hr6.2 rfl
  subst e6
  have HC6 : Hid (Below w5.heap.size w5 w6) := hb6
  have HB6 : Hid (Below w0.heap.size w0 w6) := HB5.out.trans (hb6.mono (by omega))
  clear hb6 hr6
  go_wp2_with fail
  refine (Gw.same_big gs gs _ _ w6 (HI2.out.below HB6.out) (HGG.out.below HB6.out) (by omega)).mono ?_
  rintro e w7 ⟨r7, rfl, hr7, hb7⟩
  have e7 : r7 = true := hr7.2 rfl
  subst e7
  have HC7 : Hid (Below w5.heap.size w5 w7) := HC6.out.trans (hb7.mono HC6.out.size)
  have HB7 : Hid (Below w0.heap.size w0 w7) := HB6.out.trans (hb7.mono HB6.out.size)
  clear hb7 hr7 HC6 HB6
  go_wp2_with fail
  refine (sameT_big ns _ _ w7 (HI3.out.below HB7.out) (HNN.out.below HB7.out) (by omega)).mono ?_
  rintro e w8 ⟨rfl, hb8⟩
  have HC8 : Hid (Below w5.heap.size w5 w8) := HC7.out.trans (hb8.mono HC7.out.size)
  have HB8 : Hid (Below w0.heap.size w0 w8) := HB7.out.trans (hb8.mono HB7.out.size)
  clear hb8 HC7 HB7
  obtain ⟨cb, hcb⟩ : ∃ x, (Sv.chk ms == 0) = x := ⟨_, rfl⟩
  go_wp2_with fail
  refine (Sv.refCheck_any ms _ w8 (HLL.out.below HB8.out)).mono ?_
  rintro e w9 ⟨rfl, hb9⟩
  have HC9 : Hid (Below w5.heap.size w5 w9) := HC8.out.trans (hb9.mono HC8.out.size)
  have HB9 : Hid (Below w0.heap.size w0 w9) := HB8.out.trans (hb9.mono HB8.out.size)
  have HG9 : Hid (w9.heap[mbx]? = some (.cells #[.string s.node, .string s.idn, .string s.name, .string s.tag, .int .i64 s.addr, .int .i64 s.port, .bool s.passing, .int .i64 s.version, .bool s.gone] 24 (0, 0))) := (HB9.out.block _ (Array.getElem?_eq_some_iff.1 HMB.out).1).trans HMB.out
  clear hb9 HC8 HB8
  go_upto_if 99 with fail
  have HCB : Hid ((Sv.chk ms == 0) = cb) := hcb
  clear hcb
  refine rc14 w9 cb ms LX LY s HCB EX EY pl px py cl nx cx ny cy mbx (HLL.out.below HB9.out) HG9 (Sv.own_ok (HXw5.out.below HC9.out) HOX.out) (Sv.own_ok (HYw5.out.below HC9.out) HOY.out) hlx hly HRO HFO _ ?_
  intro y23 y24 y100 y101 y102 y103 y104 y105 y106 y107 y108 y109 y110 y111 y112 y113 y114 y115 y116 y117 y118 y119 y120 y121 y122 y123 y124 y125 y126 y127 y128 y129 y130 y131 wA hbA
  have HCA : Hid (Below w5.heap.size w5 wA) := HC9.out.trans (hbA.out.mono HC9.out.size)
  have HBA : Hid (Below w0.heap.size w0 wA) := HB9.out.trans (hbA.out.mono HB9.out.size)
  clear hbA HC9 HB9 HG9
  obtain ⟨gb, hgb⟩ : ∃ x, (Gw.chk gs == 0) = x := ⟨_, rfl⟩
  go_wp2_with fail
  refine (Gw.refCheck_any gs _ wA (HGG.out.below HBA.out)).mono ?_
  rintro e wB ⟨rfl, hbB⟩
  have HCB2 : Hid (Below w5.heap.size w5 wB) := HCA.out.trans (hbB.mono HCA.out.size)
  have HBB : Hid (Below w0.heap.size w0 wB) := HBA.out.trans (hbB.mono HBA.out.size)
  clear hbB HCA HBA
  go_upto_if 134 with fail
  have HGB : Hid ((Gw.chk gs == 0) = gb) := hgb
  clear hgb
  refine rc18 wB gb gs LO HGB ET EO pg po cg no co (HGG.out.below HBB.out) (Gw.own_ok (HOw5.out.below HCB2.out) HOG.out) hlo HET HOO _ ?_
  intro y25 y26 y135 y136 y137 y138 y139 y140 y141 y142 y143 y144 y145 y146 y147 y148 y149 y150 y151 y152 y153 y154 y155 y156 wC hbC
  have HCC : Hid (Below w5.heap.size w5 wC) := HCB2.out.trans (hbC.out.mono HCB2.out.size)
  have HBC : Hid (Below w0.heap.size w0 wC) := HBB.out.trans (hbC.out.mono HBB.out.size)
  clear hbC HCB2 HBB
  go_upto_region 22 with fail
  refine rc22 wC ns LS ES pn sp cn sl sk (HNN.out.below HBC.out) (HNw5.out.below HCC.out) hls HSO _ ?_
  intro y157 y158 y159 y160 y161 y162 y163 y164 y165 wD hbD
  have HCD : Hid (Below w5.heap.size w5 wD) := HCC.out.trans (hbD.out.mono HCC.out.size)
  have HBD : Hid (Below w0.heap.size w0 wD) := HBC.out.trans (hbD.out.mono HBC.out.size)
  have HXwD : Hid (Sv.Own wr.heap.size wD (.slice px nx cx) LX) := HXw5.out.below HCD.out
  have HYwD : Hid (Sv.Own w1.heap.size wD (.slice py ny cy) LY) := HYw5.out.below HCD.out
  have HTwD : Hid (Rt.Own w2.heap.size wD (.slice pt nt ct) LT) := HTw5.out.below HCD.out
  have HOwD : Hid (Gw.Own w3.heap.size wD (.slice po no co) LO) := HOw5.out.below HCD.out
  have HND : Hid (TSl wD (.slice sp sl sk) LS) := HNw5.out.below HCD.out
  have HFD : Hid (FrB w4.heap.size wD (.slice sp sl sk)) := frB_below HCD.out HFw5.out
  clear hbD HCC HBC HCD HXw5 HYw5 HTw5 HOw5 HNw5 HFw5
  go_wp2_with fail
  refine (Sv.spoil_chg wr.heap.size _ LX wD HXwD.out (by omega)).mono ?_
  rintro e wE ⟨rfl, hcE⟩
  have HBE : Hid (Below w0.heap.size w0 wE) := hcE.below HBD.out (fun k hk => by have := (HKX.out k hk).1; omega)
  have HYE : Hid (Sv.Own w1.heap.size wE (.slice py ny cy) LY) := Sv.chg_own hcE HYwD.out (fun k hk e => by have := (HKX.out k e).2; have := (HKY.out k hk).1; omega)
  have HOE : Hid (Gw.Own w3.heap.size wE (.slice po no co) LO) := Gw.chg_own hcE HOwD.out (fun k hk e => by have := (HKX.out k e).2; have := (HKO.out k hk).1; omega)
  have HTE : Hid (Rt.Own w2.heap.size wE (.slice pt nt ct) LT) := rt_chg hcE HTwD.out (fun k hk e => by have := (HKX.out k e).2; have := (HKT.out k hk).1; omega)
  have HNE : Hid (TSl wE (.slice sp sl sk) LS) := tsl_chg hcE HND.out (fun k hk e => by have := (HKX.out k e).2; have := (HKS.out k hk).1; omega)
  have HFE : Hid (FrB w4.heap.size wE (.slice sp sl sk)) := frB_chg hcE HFD.out (fun k hk e => by have := (HKX.out k e).2; have := (HKS.out k hk).1; omega)
  clear hcE HXwD HYwD HTwD HOwD HND HFD HBD
  go_wp2_with fail
  refine (Sv.spoil_chg w1.heap.size _ LY wE HYE.out (by omega)).mono ?_
  rintro e wF ⟨rfl, hcF⟩
  have HBF : Hid (Below w0.heap.size w0 wF) := hcF.below HBE.out (fun k hk => by have := (HKY.out k hk).1; omega)
  have HOF : Hid (Gw.Own w3.heap.size wF (.slice po no co) LO) := Gw.chg_own hcF HOE.out (fun k hk e => by have := (HKY.out k e).2; have := (HKO.out k hk).1; omega)
  have HTF : Hid (Rt.Own w2.heap.size wF (.slice pt nt ct) LT) := rt_chg hcF HTE.out (fun k hk e => by have := (HKY.out k e).2; have := (HKT.out k hk).1; omega)
  have HNF : Hid (TSl wF (.slice sp sl sk) LS) := tsl_chg hcF HNE.out (fun k hk e => by have := (HKY.out k e).2; have := (HKS.out k hk).1; omega)
  have HFF : Hid (FrB w4.heap.size wF (.slice sp sl sk)) := frB_chg hcF HFE.out (fun k hk e => by have := (HKY.out k e).2; have := (HKS.out k hk).1; omega)
  clear hcF HYE HOE HTE HNE HFE HBE
  go_wp2_with fail
  refine (Gw.spoil_chg w3.heap.size _ LO wF HOF.out (by omega)).mono ?_
  rintro e wG ⟨rfl, hcG⟩
  have HBG : Hid (Below w0.heap.size w0 wG) := hcG.below HBF.out (fun k hk => by have := (HKO.out k hk).1; omega)
  have HTG : Hid (Rt.Own w2.heap.size wG (.slice pt nt ct) LT) := rt_chg hcG HTF.out (fun k hk e => by have := (HKO.out k e).1; have := (HKT.out k hk).2; omega)
  have HNG : Hid (TSl wG (.slice sp sl sk) LS) := tsl_chg hcG HNF.out (fun k hk e => by have := (HKO.out k e).2; have := (HKS.out k hk).1; omega)
  have HFG : Hid (FrB w4.heap.size wG (.slice sp sl sk)) := frB_chg hcG HFF.out (fun k hk e => by have := (HKO.out k e).2; have := (HKS.out k hk).1; omega)
  clear hcG HOF HTF HNF HFF HBF
  go_upto_block 2 with fail
  refine rc28 wG LT w2.heap.size pt nt ct HTG hlt _ ?_
  intro y173 y174 y175 y176 y177 y178 y179 y180 y181 y182 y27 wH hcH
  have HBH : Hid (Below w0.heap.size w0 wH) := hcH.out.below HBG.out (fun k hk => by have := (HKT.out k hk).1; omega)
  have HNH : Hid (TSl wH (.slice sp sl sk) LS) := tsl_chg hcH.out HNG.out (fun k hk e => by have := (HKT.out k e).2; have := (HKS.out k hk).1; omega)
  have HFH : Hid (FrB w4.heap.size wH (.slice sp sl sk)) := frB_chg hcH.out HFG.out (fun k hk e => by have := (HKT.out k e).2; have := (HKS.out k hk).1; omega)
  clear hcH HTG HNG HFG HBG
  go_upto_block 4 with fail
  refine rc32 wH LS w4.heap.size sp sl sk HNH HFH hls _ ?_
  intro y183 y184 y185 y186 y187 y188 y189 y190 y191 y28 wI hcI
  have HBI : Hid (Below w0.heap.size w0 wI) := hcI.out.below HBH.out (fun k hk => by have := (HKS.out k hk).1; omega)
  go_wp2_with fail
  exact HQN.out _ _ _ _ _ _ _ _ _ _ _ _ _ _ _ _ _ _ _ _ _ _ _ _ _ _ _ _ _ _ _ _ _ _ _ _ _ _ _ _ _ _ _ _ _ _ _ _ _ _ _ _ _ _ _ _ _ _ _ _ _ _ _ _ _ _ _ _ _ _ _ _ _ _ _ _ _ _ _ _ _ _ _ _ _ _ _ _ _ _ _ _ _ _ _ _ _ _ _ _ _ _ _ _ _ _ _ _ _ _ _ _ _ _ _ _ _ _ _ _ _ _ _ _ _ _ _ _ _ _ _ _ _ _ _ _ _ _ _ _ _ _ _ _ _ _ _ _ _ _ _ _ _ _ _ _ _ HBI

end Go.Proofs.YtkicpbomjpgjpaaGreat

/- RestCatalogs. -/
namespace Go.Proofs.YtkicpbomjpgjpaaGreat
open Go.RowKit

set_option maxHeartbeats 3200000 in
set_option maxRecDepth 1000000 in
theorem restCatalogs_walk (ms : List Sv.Svc) (s : Sv.Svc) (gs : List Gw.Gwy) (ns : List ByteArray) (vl vg vn : Value) (w : World) (hl : Sv.Sl w vl ms) (hs : s.ok) (hg : Gw.Sl w vg gs) (ht : TSl w vn ns) (hn : ms.length ≤ 2000000) (hgn : gs.length ≤ 2000000) (hnn : ns.length ≤ 2000000) :
    Calls Tryz.prog 3 #[vl, .agg #[.string s.node, .string s.idn, .string s.name, .string s.tag, .int .i64 s.addr, .int .i64 s.port, .bool s.passing, .int .i64 s.version, .bool s.gone], vg, vn] w fun e w' => e = .returned (.bool true) ∧ Below w.heap.size w w' := by
  have HL : Hid (Sv.Sl w vl ms) := hl
  have HG : Hid (Gw.Sl w vg gs) := hg
  have HT : Hid (TSl w vn ns) := ht
  have hsn : s.name.size ≤ maxLen := hs.2.2.1
  have hq : labB ⟨#[113]⟩ = true := by decide
  obtain ⟨pl, cl, hvl, hsm, _⟩ := hl
  obtain ⟨pg, cg, hvg, hsg, _⟩ := hg
  obtain ⟨pn, cn, hvn, hst, _⟩ := ht
  subst hvl
  subst hvg
  subst hvn
  go_enter Tryz.func3, Tryz.ntmps3
  go_wp2_with fail
  obtain ⟨wa, hwa⟩ : ∃ wa, wa = w.alloc (.cells #[.string s.node, .string s.idn, .string s.name, .string s.tag, .int .i64 s.addr, .int .i64 s.port, .bool s.passing, .int .i64 s.version, .bool s.gone] 24) := ⟨_, rfl⟩
  obtain ⟨mbx, hmbx⟩ : ∃ q, q = w.heap.size := ⟨_, rfl⟩
  have HBwa : Hid (Below w.heap.size w wa) := (show Below _ _ _ by rw [hwa]; exact (Below.refl _ _).alloc (Nat.le_refl _) _)
  have HGwa : Hid (wa.heap[mbx]? = some (.cells #[.string s.node, .string s.idn, .string s.name, .string s.tag, .int .i64 s.addr, .int .i64 s.port, .bool s.passing, .int .i64 s.version, .bool s.gone] 24 (0, 0))) := (show _ = _ by rw [hmbx, hwa]; exact heap_alloc_new w _)
  rw [← hwa]
  clear hwa
  subst hmbx
  refine (Sv.begun_any wa).mono ?_
  rintro e wb ⟨rfl, hbx⟩
  have HBwb : Hid (Below w.heap.size w wb) := HBwa.out.trans (hbx.mono HBwa.out.size)
  have HGwb : Hid (wb.heap[w.heap.size]? = some (.cells #[.string s.node, .string s.idn, .string s.name, .string s.tag, .int .i64 s.addr, .int .i64 s.port, .bool s.passing, .int .i64 s.version, .bool s.gone] 24 (0, 0))) := (hbx.block _ (Array.getElem?_eq_some_iff.1 HGwa.out).1).trans HGwa.out
  clear hbx HBwa HGwa
  go_wp2_with fail
  refine (Gw.begun_any wb).mono ?_
  rintro e wc ⟨rfl, hbx⟩
  have HBwc : Hid (Below w.heap.size w wc) := HBwb.out.trans (hbx.mono HBwb.out.size)
  have HGwc : Hid (wc.heap[w.heap.size]? = some (.cells #[.string s.node, .string s.idn, .string s.name, .string s.tag, .int .i64 s.addr, .int .i64 s.port, .bool s.passing, .int .i64 s.version, .bool s.gone] 24 (0, 0))) := (hbx.block _ (Array.getElem?_eq_some_iff.1 HGwb.out).1).trans HGwb.out
  clear hbx HBwb HGwb
  go_wp2_with fail
  refine (placeBegun_any wc).mono ?_
  rintro e wd ⟨rfl, hbx⟩
  have HBwd : Hid (Below w.heap.size w wd) := HBwc.out.trans (hbx.mono HBwc.out.size)
  have HGwd : Hid (wd.heap[w.heap.size]? = some (.cells #[.string s.node, .string s.idn, .string s.name, .string s.tag, .int .i64 s.addr, .int .i64 s.port, .bool s.passing, .int .i64 s.version, .bool s.gone] 24 (0, 0))) := (hbx.block _ (Array.getElem?_eq_some_iff.1 HGwc.out).1).trans HGwc.out
  clear hbx HBwc HGwc
  go_upto_region 3 with fail
  refine rc3 wd ms gs ns pl pg pn cl cg cn (HL.out.below HBwd.out) (HG.out.below HBwd.out) (HT.out.below HBwd.out) (by omega) (by omega) (by omega) _ ?_
  intro y39 y40 y41 y42 y43 y44 y45 y46 y47 p1 p2 p3 c1 c2 c3 w6 HO1 HO2 HO3 hb6
  have HB6 : Hid (Below w.heap.size w w6) := HBwd.out.trans (hb6.out.mono HBwd.out.size)
  have HG6 : Hid (w6.heap[w.heap.size]? = some (.cells #[.string s.node, .string s.idn, .string s.name, .string s.tag, .int .i64 s.addr, .int .i64 s.port, .bool s.passing, .int .i64 s.version, .bool s.gone] 24 (0, 0))) := (hb6.out.block _ (Array.getElem?_eq_some_iff.1 HGwd.out).1).trans HGwd.out
  have HI1 : Hid (Sv.Sl w6 (.slice p1 ms.length c1) ms) := HO1.out.sl hsm
  have HI2 : Hid (Gw.Sl w6 (.slice p2 gs.length c2) gs) := HO2.out.sl hsg
  have HI3 : Hid (TSl w6 (.slice p3 ns.length c3) ns) := own_tsl HO3.out (fun x hx => by
    obtain ⟨i, hi, rfl⟩ := List.getElem_of_mem hx
    have := hst i
    simpa [List.getD, List.getElem?_eq_getElem hi] using this)
  have HLL : Hid (Sv.Sl w6 (.slice pl ms.length cl) ms) := HL.out.below HB6.out
  have HGG : Hid (Gw.Sl w6 (.slice pg gs.length cg) gs) := HG.out.below HB6.out
  have HNN : Hid (TSl w6 (.slice pn ns.length cn) ns) := HT.out.below HB6.out
  have hz6 := HB6.out.size
  clear hb6 HBwd HGwd HO1 HO2 HO3 hsm hsg hst
  go_wp2_with fail
  go_loopw [12] (fun i wr => ∃ k : Nat, k ≤ 2 ∧ i = .int .i64 k ∧ Hid (Below w6.heap.size w6 wr)) (fun i _ => 2 - (intOf i).toNat)
  case atStart => exact ⟨0, by omega, rfl, Below.refl _ _⟩
  case round =>
    obtain ⟨k, hk, rfl, HBR⟩ := hrel
    by_cases hlt : k < 2
    · have hd : decide ((k : Int) < 2) = true := by simp; omega
      go_upto_block 1 with fail
      refine rcbody w6 wr ms s gs ns pl pg pn p1 p2 p3 cl cg cn c1 c2 c3 w.heap.size hn hgn hnn hs hsn hq HLL HI1 HGG HI2 HNN HI3 HG6 HBR _ ?_
      intro y13 y14 y15 y16 y17 y18 y19 y20 y21 y22 y23 y24 y25 y26 y27 y28 y52 y53 y54 y55 y56 y57 y58 y59 y60 y61 y62 y63 y64 y65 y66 y67 y68 y69 y70 y71 y72 y73 y74 y75 y76 y77 y78 y79 y80 y81 y82 y83 y84 y85 y86 y87 y88 y89 y90 y91 y92 y93 y94 y95 y96 y97 y98 y99 y100 y101 y102 y103 y104 y105 y106 y107 y108 y109 y110 y111 y112 y113 y114 y115 y116 y117 y118 y119 y120 y121 y122 y123 y124 y125 y126 y127 y128 y129 y130 y131 y132 y133 y134 y135 y136 y137 y138 y139 y140 y141 y142 y143 y144 y145 y146 y147 y148 y149 y150 y151 y152 y153 y154 y155 y156 y157 y158 y159 y160 y161 y162 y163 y164 y165 y166 y167 y168 y169 y170 y171 y172 y173 y174 y175 y176 y177 y178 y179 y180 y181 y182 y183 y184 y185 y186 y187 y188 y189 y190 y191 wx HBX
      go_wp2_with fail
      exact ⟨⟨k + 1, by omega, by go_num, HBX⟩, by simp [intOf]; omega⟩
    · have hd : decide ((k : Int) < 2) = false := by simp; omega
      go_wp2_with fail
      go_ret
      exact ⟨rfl, HB6.out.trans (HBR.out.mono hz6)⟩

end Go.Proofs.YtkicpbomjpgjpaaGreat

/- What RestCatalogs is handed, and its bulk. -/
namespace Go.Proofs.YtkicpbomjpgjpaaGreat
open Go.ChangeShapes Go.WideShapes Go.ChangeAt Go.RowKit

section
variable {H : Type} {enc : TypeId × Value → H} {w : World} {base : Nat} {spare : Nat → Bool} {held : Bool}

theorem bulk_pos (d : DataW H) : 1 ≤ Rows.uptoBulk d := by
  cases d with
  | lit l => cases l <;> simp [Rows.uptoBulk]
  | _ => simp [Rows.uptoBulk]
theorem bulk_len : ∀ l : List (DataW H), l.length ≤ Rows.uptoBulkAll l
  | [] => by simp
  | d :: r => by
    have h1 := bulk_pos d
    have h2 := bulk_len r
    simp only [Rows.uptoBulkAll, List.length_cons]
    omega
theorem slice_bulk {t e : TypeId} (ht : Tryz.prog.underlying t = some (.slice e)) {a : Option Addr} {len cap : Nat} {d : DataW H} {p : List MemPlace} (h : DataW.Trod enc Tryz.prog w base spare held t (.slice a len cap) d p) : len ≤ Rows.uptoBulk d := by
  obtain ⟨fuel, hf⟩ := h
  rcases Go.Deep.open_slice ht hf with ⟨hcs, _⟩ | ⟨x, l, c, m, n, D, Pl, hcs, _, _, _, _, hx, _⟩
  · simp [Value.cells] at hcs
    omega
  · simp [Value.cells] at hcs
    obtain ⟨_, rfl, _⟩ := hcs
    have hd : d = .slice ((List.range len).map D) ((List.range (m - len)).map fun j => D (len + j)) := (Prod.mk.inj hx).1
    have h1 := bulk_len ((List.range len).map D)
    rw [hd]
    simp only [Rows.uptoBulk]
    simp only [List.length_map, List.length_range] at h1
    omega
set_option maxRecDepth 100000 in
theorem open_svs_b {r : Reach} {b0 : Nat} {v : Value} {d : DataW H} {p : List MemPlace} (hv : Value.okWide Tryz.prog w r b0 22 v) (h : DataW.Trod enc Tryz.prog w base spare held 22 v d p) : ∃ ms : List Sv.Svc, Sv.Sl w v ms ∧ ms.length ≤ Rows.uptoBulk d := by
  obtain ⟨ms, hs, _⟩ := Sv.open_els hv h
  have hs2 := hs
  obtain ⟨a, cap, rfl, _⟩ := hs2
  exact ⟨ms, hs, slice_bulk Tryz.underlying22 h⟩
set_option maxRecDepth 100000 in
theorem open_gws_b {r : Reach} {b0 : Nat} {v : Value} {d : DataW H} {p : List MemPlace} (hv : Value.okWide Tryz.prog w r b0 25 v) (h : DataW.Trod enc Tryz.prog w base spare held 25 v d p) : ∃ ms : List Gw.Gwy, Gw.Sl w v ms ∧ ms.length ≤ Rows.uptoBulk d := by
  obtain ⟨ms, hs, _⟩ := Gw.open_els hv h
  have hs2 := hs
  obtain ⟨a, cap, rfl, _⟩ := hs2
  exact ⟨ms, hs, slice_bulk Tryz.underlying25 h⟩
set_option maxRecDepth 100000 in
theorem open_txts_b {r : Reach} {b0 : Nat} {v : Value} {d : DataW H} {p : List MemPlace} (hv : Value.okWide Tryz.prog w r b0 26 v) (h : DataW.Trod enc Tryz.prog w base spare held 26 v d p) : ∃ ms : List ByteArray, TSl w v ms ∧ ms.length ≤ Rows.uptoBulk d := by
  obtain ⟨ms, hs, _⟩ := open_txts hv h
  have hs2 := hs
  obtain ⟨a, cap, rfl, _⟩ := hs2
  exact ⟨ms, hs, slice_bulk Tryz.underlying26 h⟩

end
end Go.Proofs.YtkicpbomjpgjpaaGreat

