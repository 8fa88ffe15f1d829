/- WE, F1, FB, FC, FD, FE, FG, TS, FH, LB, Q0 -/
import Derived.Test.YtigffgjkakalfaaGreatDoorV10
import Derived.Test.YtigffgjkakalfaaGreatDoorV1
import Derived.Defers
import Derived.Recover
import Derived.Laws.Pointers
import Derived.Deep.RegionHeld3
import Derived.StillTactics
import Derived.Lib.ConvBytes
import Derived.Laws.IdiomStrings
import Derived.OwnWalk
/- RestLists: what is asked, and the records that are spoilt. -/
namespace Go.Proofs.YtigffgjkakalfaaGreatDoor
open Go.RowKit

/-- The question at that slot. -/
def condIn (n : Nat) : Code → Option Code
  | .cond (.tmp m) a b => if m = n then some (.cond (.tmp m) a b) else match condIn n a with
    | some c => some c
    | none => condIn n b
  | .seq a b => match condIn n a with
    | some c => some c
    | none => condIn n b
  | .loop c => condIn n c
  | .block _ c => condIn n c
  | _ => none

set_option maxHeartbeats 3200000 in
set_option maxRecDepth 1000000 in
theorem rl16 {u1 u2 u3 u4 u6 u7 u8 u9 u10 u11 u12 u14 u18 u19 u20 u21 u22 u23 u24 u25 u26 u27 u28 u29 u30 u31 u32 u33 u34 u35 u36 u37 u38 u39 u40 u41 u42 u43 u44 u45 u46 u47 u48 u49 u50 u51 u52 u53 u54 u55 u56 u57 u58 u59 u60 u61 u62 u63 u64 u65 u66 u67 u68 u69 u70 u71 u72 u73 u74 u75 u76 u77 u78 u79 u80 u81 u82 u83 u84 u85 u86 u87 u88 u89 u90 u91 u92 u93 u94 u95 u96 u97 u98 u99 u100 u101 u102 u103 u104 u105 u106 u107 u108 u109 u110 u111 u112 u113 u114 u115 u116 u117 u119 u120 u121 u122 u123 u124 u125 u126 u127 u128 u129 u130 u131 u132 u133 u134 u135 u136 u137 u138 u139 u140 u141 u142 u143 u144 u145 u146 u147 u148 u149 u150 u151 u152 u153 u154 u155 u156 u157 u158 u159 u160 u161 u162 u163 u164 u165 u166 u167 u168 u169 u170 u171 : Value} (w : World) (cb : Bool) (ms : List Mem) (m : Mem) (HCB : Hid ((chk ms == 0) = cb)) (pl px py : Option Addr) (nl cl nx cx ny cy mbx B1 B2 : Nat) (hl : Sl w (.slice pl nl cl) ms) (hm : m.name.size ≤ maxLen) (HMB : Hid (w.heap[mbx]? = some (.cells #[.string m.name, .int .i64 m.state, .int .i64 m.life, .int .i64 m.addr, .bool m.server] 24 (0, 0)))) (HX : Hid (Own B1 w (.slice px nx cx) (if joinE ms [m] = 0 then hearL ms m else []))) (HY : Hid (Own B2 w (.slice py ny cy) (if joinE ms ms = 0 then joinL ms ms else []))) (Q : Exit → Act → World → Prop)
    (hN : ∀ (y25 y26 y119 y120 y121 y122 y123 y124 y125 y126 y127 y128 y129 y130 y131 y132 y133 y134 y135 y136 y137 y138 y139 y140 y141 y142 : Value) (wx : World), Hid (Below w.heap.size w wx) → Q .normal ⟨#[.slice pl nl cl, u1, u2, u3, u4, .pointer (some ⟨mbx, 0, none⟩), u6, u7, u8, u9, u10, u11, u12, .slice px nx cx, u14, .int .i64 (joinE ms [m]), .slice py ny cy, .int .i64 (joinE ms ms), u18, u19, u20, u21, u22, u23, u24, y25, y26, u27, u28, u29, u30, u31, u32, u33, u34, u35, u36, u37, u38, u39, u40, u41, u42, u43, u44, u45, u46, u47, u48, u49, u50, u51, u52, u53, u54, u55, u56, u57, u58, u59, u60, u61, u62, u63, u64, u65, u66, u67, u68, u69, u70, u71, u72, u73, u74, u75, u76, u77, u78, u79, u80, u81, u82, u83, u84, u85, u86, u87, u88, u89, u90, u91, u92, u93, u94, u95, u96, u97, u98, u99, u100, u101, u102, u103, u104, u105, u106, u107, u108, u109, u110, u111, u112, u113, u114, u115, u116, u117, .bool cb, y119, y120, y121, y122, y123, y124, y125, y126, y127, y128, y129, y130, y131, y132, y133, y134, y135, y136, y137, y138, y139, y140, y141, y142, u143, u144, u145, u146, u147, u148, u149, u150, u151, u152, u153, u154, u155, u156, u157, u158, u159, u160, u161, u162, u163, u164, u165, u166, u167, u168, u169, u170, u171], []⟩ wx) :
    Code.wp Tryz.prog ((Tryz.f3.body.bind (condIn 118)).getD .skip) Q ⟨#[.slice pl nl cl, u1, u2, u3, u4, .pointer (some ⟨mbx, 0, none⟩), u6, u7, u8, u9, u10, u11, u12, .slice px nx cx, u14, .int .i64 (joinE ms [m]), .slice py ny cy, .int .i64 (joinE ms ms), u18, u19, u20, u21, u22, u23, u24, u25, u26, u27, u28, u29, u30, u31, u32, u33, u34, u35, u36, u37, u38, u39, u40, u41, u42, u43, u44, u45, u46, u47, u48, u49, u50, u51, u52, u53, u54, u55, u56, u57, u58, u59, u60, u61, u62, u63, u64, u65, u66, u67, u68, u69, u70, u71, u72, u73, u74, u75, u76, u77, u78, u79, u80, u81, u82, u83, u84, u85, u86, u87, u88, u89, u90, u91, u92, u93, u94, u95, u96, u97, u98, u99, u100, u101, u102, u103, u104, u105, u106, u107, u108, u109, u110, u111, u112, u113, u114, u115, u116, u117, .bool cb, u119, u120, u121, u122, u123, u124, u125, u126, u127, u128, u129, u130, u131, u132, u133, u134, u135, u136, u137, u138, u139, u140, u141, u142, u143, u144, u145, u146, u147, u148, u149, u150, u151, u152, u153, u154, u155, u156, u157, u158, u159, u160, u161, u162, u163, u164, u165, u166, u167, u168, u169, u170, u171], []⟩ w := by
  conv => arg 2; whnf
  have HQN : Hid _ := hN
  clear hN
  have hns : ∀ x ∈ ms, x.name.size ≤ maxLen := by obtain ⟨_, _, _, h, _⟩ := hl; exact ns_mem h
  have HL : Hid (Sl w (.slice pl nl cl) ms) := hl
  cases cb with
  | true =>
    have h0 : chk ms = 0 := by simpa using HCB.out
    obtain ⟨hj1, hj2⟩ := join_same h0
    obtain ⟨h20, hri, _⟩ := chk_zero h0
    have HYS : Hid (Sl w (.slice py ny cy) ms) := (show Sl _ _ _ by
      have h := HY.out
      rw [if_pos hj1, hj2] at h
      exact own_names h hns)
    have HHM : Hid (∀ W, Below w.heap.size w W → Calls Tryz.prog 16 #[.slice pl nl cl, .agg #[.string m.name, .int .i64 m.state, .int .i64 m.life, .int .i64 m.addr, .bool m.server]] W fun e w' => ∃ (v' : Value) (r : Bool), e = .returned (.tuple #[v', .bool r]) ∧ Sl w' v' (hearL ms m) ∧ (r = true ↔ hearL ms m ≠ ms) ∧ Below W.heap.size W w') := fun W hW => hearMember_any ms _ m W (hl.below hW) (by omega) hri hm
    have HSM : Hid (∀ a b va vb W, Sl W va a → Sl W vb b → a.length ≤ 1000 → Calls Tryz.prog 13 #[va, vb] W fun e w' => ∃ r : Bool, e = .returned (.bool r) ∧ (r = true ↔ a = b) ∧ Below W.heap.size W w') := fun a b va vb W ha hb hn => same_any a b va vb W ha hb hn
    have HXS : Hid (joinE ms [m] = 0 → Sl w (.slice px nx cx) (hearL ms m) ∧ (hearL ms m).length ≤ 1000) := fun h => by
      have h1 := HX.out
      rw [if_pos h] at h1
      refine ⟨own_names h1 (ns_hear hns hm), ?_⟩
      have h2 : ¬ 20 < (joinL ms [m]).length := fun h3 => by
        unfold joinE at h
        by_cases hc : chkTwo ms [m] = 0
        · rw [if_pos hc, if_pos h3] at h
          exact absurd h (by decide)
        · rw [if_neg hc] at h
          exact hc h
      have h3 : joinL ms [m] = hearL ms m := rfl
      rw [h3] at h2
      omega
    rw [hj1] at HQN ⊢
    generalize joinE ms [m] = EX at *
    clear h0 hj1 hj2 hri HY HX hl hns
    have hm20 : ms.length ≤ 1000 := by omega
    have c0 : w.cell? ⟨mbx, 0, none⟩ = some (.string m.name) := cellsAt HMB.out 0
    have c1 : w.cell? ⟨mbx, 1, none⟩ = some (.int .i64 m.state) := cellsAt HMB.out 1
    have c2 : w.cell? ⟨mbx, 2, none⟩ = some (.int .i64 m.life) := cellsAt HMB.out 2
    have c3 : w.cell? ⟨mbx, 3, none⟩ = some (.int .i64 m.addr) := cellsAt HMB.out 3
    have c4 : w.cell? ⟨mbx, 4, none⟩ = some (.bool m.server) := cellsAt HMB.out 4
    clear HCB
    go_wp2_with fail
    refine (HHM.out w (Below.refl _ _)).mono ?_
    rintro e w2 ⟨vh, rb, rfl, hs2, _, hb2⟩
    have HB2 : Hid (Below w.heap.size w w2) := hb2
    have HH2 : Hid (Sl w2 vh (hearL ms m)) := hs2
    obtain ⟨ph, ch, hvh, _, _⟩ := hs2
    subst hvh
    clear hb2 c0 c1 c2 c3 c4 HHM
    go_wp2_with fail
    refine (HSM.out ms ms _ _ w2 (HYS.out.below HB2.out) (HL.out.below HB2.out) hm20).mono ?_
    rintro e w3 ⟨r3, rfl, hr3, hb3⟩
    have e3 : r3 = true := hr3.2 rfl
    subst e3
    have HB3 : Hid (Below w.heap.size w w3) := HB2.out.trans (hb3.mono HB2.out.size)
    have HH3 : Hid (Sl w3 (.slice ph (hearL ms m).length ch) (hearL ms m)) := HH2.out.below hb3
    clear hb3 HB2 HH2 hr3
    by_cases hex : EX = 0
    · have hexb : (EX == 0) = true := by simp [hex]
      obtain ⟨hxs, hxl⟩ := HXS.out hex
      have HXX : Hid (Sl w3 (.slice px nx cx) (hearL ms m)) := hxs.below HB3.out
      clear hex hxs HXS
      go_wp2_with fail
      refine (HSM.out (hearL ms m) (hearL ms m) _ _ w3 HXX.out HH3.out hxl).mono ?_
      rintro e w4 ⟨r4, rfl, hr4, hb4⟩
      have e4 : r4 = true := hr4.2 rfl
      subst e4
      have HB4 : Hid (Below w.heap.size w w4) := HB3.out.trans (hb4.mono HB3.out.size)
      clear hb4 hr4
      go_wp2_with fail
      exact HQN.out _ _ _ _ _ _ _ _ _ _ _ _ _ _ _ _ _ _ _ _ _ _ _ _ _ _ _ HB4
    · have hexb : (EX == 0) = false := by simp [hex]
      clear hex HXS
      go_wp2_with fail
      exact HQN.out _ _ _ _ _ _ _ _ _ _ _ _ _ _ _ _ _ _ _ _ _ _ _ _ _ _ _ HB3
  | false =>
    go_wp2_with fail
    exact HQN.out _ _ _ _ _ _ _ _ _ _ _ _ _ _ _ _ _ _ _ _ _ _ _ _ _ _ _ (Below.refl _ _)

set_option maxHeartbeats 3200000 in
set_option maxRecDepth 1000000 in
theorem rl20 {u0 u1 u3 u4 u5 u6 u7 u8 u9 u10 u11 u12 u13 u14 u15 u16 u17 u19 u20 u21 u22 u23 u24 u25 u26 u27 u28 u29 u30 u31 u32 u33 u34 u35 u36 u37 u38 u39 u40 u41 u42 u43 u44 u45 u46 u47 u48 u49 u50 u51 u52 u53 u54 u55 u56 u57 u58 u59 u60 u61 u62 u63 u64 u65 u66 u67 u68 u69 u70 u71 u72 u73 u74 u75 u76 u77 u78 u79 u80 u81 u82 u83 u84 u85 u86 u87 u88 u89 u90 u91 u92 u93 u94 u95 u96 u97 u98 u99 u100 u101 u102 u103 u104 u105 u106 u107 u108 u109 u110 u111 u112 u113 u114 u115 u116 u117 u118 u119 u120 u121 u122 u123 u124 u125 u126 u127 u128 u129 u130 u131 u132 u133 u134 u135 u136 u137 u138 u139 u140 u141 u142 u143 u145 u146 u147 u148 u149 u150 u151 u152 u153 u154 u155 u156 u157 u158 u159 u160 u161 u162 u163 u164 u165 u166 u167 u168 u169 u170 u171 : Value} (w : World) (cb : Bool) (rs : List Rum) (HCB : Hid ((chkR rs == 0) = cb)) (tl : List Mem) (pr pz : Option Addr) (nr cr nz cz B1 : Nat) (hr : RSl w (.slice pr nr cr) rs) (HZ : Hid (Own B1 w (.slice pz nz cz) tl)) (htl : tl.length ≤ 20) (HNS : Hid (∀ m ∈ tl, m.name.size ≤ maxLen)) (HD : Hid (chkR rs = 0 → TakeD rs tl)) (Q : Exit → Act → World → Prop)
    (hN : ∀ (y27 y28 y145 y146 y147 y148 y149 y150 y151 y152 y153 : Value) (wx : World), Hid (Below w.heap.size w wx) → Q .normal ⟨#[u0, u1, .slice pr nr cr, u3, u4, u5, u6, u7, u8, u9, u10, u11, u12, u13, u14, u15, u16, u17, .slice pz nz cz, u19, u20, u21, u22, u23, u24, u25, u26, y27, y28, u29, u30, u31, u32, u33, u34, u35, u36, u37, u38, u39, u40, u41, u42, u43, u44, u45, u46, u47, u48, u49, u50, u51, u52, u53, u54, u55, u56, u57, u58, u59, u60, u61, u62, u63, u64, u65, u66, u67, u68, u69, u70, u71, u72, u73, u74, u75, u76, u77, u78, u79, u80, u81, u82, u83, u84, u85, u86, u87, u88, u89, u90, u91, u92, u93, u94, u95, u96, u97, u98, u99, u100, u101, u102, u103, u104, u105, u106, u107, u108, u109, u110, u111, u112, u113, u114, u115, u116, u117, u118, u119, u120, u121, u122, u123, u124, u125, u126, u127, u128, u129, u130, u131, u132, u133, u134, u135, u136, u137, u138, u139, u140, u141, u142, u143, .bool cb, y145, y146, y147, y148, y149, y150, y151, y152, y153, u154, u155, u156, u157, u158, u159, u160, u161, u162, u163, u164, u165, u166, u167, u168, u169, u170, u171], []⟩ wx) :
    Code.wp Tryz.prog ((Tryz.f3.body.bind (condIn 144)).getD .skip) Q ⟨#[u0, u1, .slice pr nr cr, u3, u4, u5, u6, u7, u8, u9, u10, u11, u12, u13, u14, u15, u16, u17, .slice pz nz cz, u19, u20, u21, u22, u23, u24, u25, u26, u27, u28, u29, u30, u31, u32, u33, u34, u35, u36, u37, u38, u39, u40, u41, u42, u43, u44, u45, u46, u47, u48, u49, u50, u51, u52, u53, u54, u55, u56, u57, u58, u59, u60, u61, u62, u63, u64, u65, u66, u67, u68, u69, u70, u71, u72, u73, u74, u75, u76, u77, u78, u79, u80, u81, u82, u83, u84, u85, u86, u87, u88, u89, u90, u91, u92, u93, u94, u95, u96, u97, u98, u99, u100, u101, u102, u103, u104, u105, u106, u107, u108, u109, u110, u111, u112, u113, u114, u115, u116, u117, u118, u119, u120, u121, u122, u123, u124, u125, u126, u127, u128, u129, u130, u131, u132, u133, u134, u135, u136, u137, u138, u139, u140, u141, u142, u143, .bool cb, u145, u146, u147, u148, u149, u150, u151, u152, u153, u154, u155, u156, u157, u158, u159, u160, u161, u162, u163, u164, u165, u166, u167, u168, u169, u170, u171], []⟩ w := by
  conv => arg 2; whnf
  have HQN : Hid _ := hN
  clear hN
  cases cb with
  | true =>
    have h0 : chkR rs = 0 := by simpa using HCB.out
    have HT : Hid (Calls Tryz.prog 17 #[.slice pr nr cr, .int .i64 3, .int .i64 4] w fun e w' => ∃ (p : Option Addr) (l c : Nat) (q : Option Addr) (k d : Nat), e = .returned (.tuple #[.slice p l c, .slice q k d]) ∧ Hid (Sl w' (.slice p l c) tl) ∧ Below w.heap.size w w') := HD.out h0 _ w hr
    have HSM : Hid (∀ a b va vb W, Sl W va a → Sl W vb b → a.length ≤ 1000 → Calls Tryz.prog 13 #[va, vb] W fun e w' => ∃ r : Bool, e = .returned (.bool r) ∧ (r = true ↔ a = b) ∧ Below W.heap.size W w') := fun a b va vb W ha hb hn => same_any a b va vb W ha hb hn
    have HZS : Hid (Sl w (.slice pz nz cz) tl) := own_names HZ.out HNS.out
    clear h0 hr HD HZ HNS HCB
    go_wp2_with fail
    refine HT.out.mono ?_
    rintro e w1 ⟨p1, l1, c1, q1, k1, d1, rfl, HS1, hb1⟩
    have HB1 : Hid (Below w.heap.size w w1) := hb1
    clear hb1 HT
    go_wp2_with fail
    refine (HSM.out tl tl _ _ w1 (HZS.out.below HB1.out) HS1.out (by omega)).mono ?_
    rintro e w2 ⟨r2, rfl, hr2, hb2⟩
    have e2 : r2 = true := hr2.2 rfl
    subst e2
    have HB2 : Hid (Below w.heap.size w w2) := HB1.out.trans (hb2.mono HB1.out.size)
    clear hb2 hr2
    go_wp2_with fail
    exact HQN.out _ _ _ _ _ _ _ _ _ _ _ _ HB2
  | false =>
    go_wp2_with fail
    exact HQN.out _ _ _ _ _ _ _ _ _ _ _ _ (Below.refl _ _)

theorem rown_cell {B g c n k : Nat} {w : World} {xs : List Value} (h : w.ownsRow B 51 7 (.slice (some ⟨g, 0, none⟩) n c) n xs) (hk : k < n) : (∃ u, w.cell? ⟨g, k * 7, none⟩ = some u) ∧ w.frozen? ⟨g, k * 7, none⟩ = false := by
  rcases h.2 with ⟨h1, _⟩ | ⟨g', c', cur, h1, hbg, hg, hnc, hcm, hcs, htake⟩
  · cases h1
  · simp only [Value.slice.injEq, Option.some.injEq, Addr.mk.injEq] at h1
    obtain ⟨⟨rfl, _, _⟩, _, rfl⟩ := h1
    refine ⟨⟨cur[k * 7]'(by omega), ?_⟩, by simp [World.frozen?, hg]⟩
    rw [cellsAt hg, Array.getElem?_eq_getElem]

set_option maxHeartbeats 3200000 in
set_option maxRecDepth 1000000 in
theorem rl28 {u0 u1 u2 u3 u4 u5 u6 u7 u8 u9 u10 u11 u12 u13 u14 u15 u16 u17 u18 u19 u20 u22 u23 u24 u25 u26 u27 u28 u30 u31 u32 u33 u34 u35 u36 u37 u38 u39 u40 u41 u42 u43 u44 u45 u46 u47 u48 u49 u50 u51 u52 u53 u54 u55 u56 u57 u58 u59 u60 u61 u62 u63 u64 u65 u66 u67 u68 u69 u70 u71 u72 u73 u74 u75 u76 u77 u78 u79 u80 u81 u82 u83 u84 u85 u86 u87 u88 u89 u90 u91 u92 u93 u94 u95 u96 u97 u98 u99 u100 u101 u102 u103 u104 u105 u106 u107 u108 u109 u110 u111 u112 u113 u114 u115 u116 u117 u118 u119 u120 u121 u122 u123 u124 u125 u126 u127 u128 u129 u130 u131 u132 u133 u134 u135 u136 u137 u138 u139 u140 u141 u142 u143 u144 u145 u146 u147 u148 u149 u150 u151 u152 u153 u154 u155 u156 u157 u158 u159 u160 u161 u162 u163 u164 u165 u166 u167 u168 u169 u170 u171 : Value} (w0 w : World) (L0 : List Rc.Rec) (B qb : Nat) (qi qo qy : Int) (qa qc : Bool) (qr : ByteArray) (qp : Option Addr) (ql qk : Nat) (hB : Below B w0 w) (HQB : Hid (w.heap[qb]? = some (.cells #[.int .i64 qi, .bool qa, .bool qc, .int .i64 qo, .string qr, .int .i64 qy, .slice qp ql qk] 38 (0, 0)))) (HO : Hid (Rc.Own B w (.slice qp ql qk) L0)) (hne : qp ≠ some ⟨qb, 0, none⟩) (hn : L0.length ≤ 1000) (Q : Exit → Act → World → Prop)
    (hN : ∀ (y160 y161 y162 y163 y164 y165 y166 y167 y168 y169 y170 y171 y29 : Value) (wx : World), Hid (Below B w0 wx) → Q .normal ⟨#[u0, u1, u2, u3, u4, u5, u6, u7, u8, u9, u10, u11, u12, u13, u14, u15, u16, u17, u18, u19, u20, .pointer (some ⟨qb, 0, none⟩), u22, u23, u24, u25, u26, u27, u28, y29, u30, u31, u32, u33, u34, u35, u36, u37, u38, u39, u40, u41, u42, u43, u44, u45, u46, u47, u48, u49, u50, u51, u52, u53, u54, u55, u56, u57, u58, u59, u60, u61, u62, u63, u64, u65, u66, u67, u68, u69, u70, u71, u72, u73, u74, u75, u76, u77, u78, u79, u80, u81, u82, u83, u84, u85, u86, u87, u88, u89, u90, u91, u92, u93, u94, u95, u96, u97, u98, u99, u100, u101, u102, u103, u104, u105, u106, u107, u108, u109, u110, u111, u112, u113, u114, u115, u116, u117, u118, u119, u120, u121, u122, u123, u124, u125, u126, u127, u128, u129, u130, u131, u132, u133, u134, u135, u136, u137, u138, u139, u140, u141, u142, u143, u144, u145, u146, u147, u148, u149, u150, u151, u152, u153, u154, u155, u156, u157, u158, u159, y160, y161, y162, y163, y164, y165, y166, y167, y168, y169, y170, y171], []⟩ wx) :
    Code.wp Tryz.prog ((Tryz.f3.body.bind (blkIn 2)).getD .skip) Q ⟨#[u0, u1, u2, u3, u4, u5, u6, u7, u8, u9, u10, u11, u12, u13, u14, u15, u16, u17, u18, u19, u20, .pointer (some ⟨qb, 0, none⟩), u22, u23, u24, u25, u26, u27, u28, .int .i64 0, u30, u31, u32, u33, u34, u35, u36, u37, u38, u39, u40, u41, u42, u43, u44, u45, u46, u47, u48, u49, u50, u51, u52, u53, u54, u55, u56, u57, u58, u59, u60, u61, u62, u63, u64, u65, u66, u67, u68, u69, u70, u71, u72, u73, u74, u75, u76, u77, u78, u79, u80, u81, u82, u83, u84, u85, u86, u87, u88, u89, u90, u91, u92, u93, u94, u95, u96, u97, u98, u99, u100, u101, u102, u103, u104, u105, u106, u107, u108, u109, u110, u111, u112, u113, u114, u115, u116, u117, u118, u119, u120, u121, u122, u123, u124, u125, u126, u127, u128, u129, u130, u131, u132, u133, u134, u135, u136, u137, u138, u139, u140, u141, u142, u143, u144, u145, u146, u147, u148, u149, u150, u151, u152, u153, u154, u155, u156, u157, u158, u159, u160, u161, u162, u163, u164, u165, u166, u167, u168, u169, u170, u171], []⟩ w := by
  conv => arg 2; whnf
  have HQN : Hid _ := hN
  clear hN
  have HB0 : Hid (Below B w0 w) := hB
  clear hB
  rcases HO.out.2 with ⟨hv, h0⟩ | ⟨g, c, cur, hv, hbg, _⟩
  · simp only [Value.slice.injEq] at hv
    obtain ⟨rfl, rfl, rfl⟩ := hv
    clear HO
    have c6 : w.cell? ⟨qb, 6, none⟩ = some (.slice none 0 0) := cellsAt HQB.out 6
    go_wp2_with fail
    go_loopw [29] (fun i wr => i = .int .i64 0 ∧ wr = w) (fun _ _ => 0)
    case atStart => exact ⟨rfl, rfl⟩
    case round =>
      obtain ⟨rfl, hw⟩ := hrel
      subst hw
      go_wp2_with fail
      exact HQN.out _ _ _ _ _ _ _ _ _ _ _ _ _ _ HB0
  · simp only [Value.slice.injEq] at hv
    obtain ⟨rfl, rfl, rfl⟩ := hv
    obtain ⟨n, hN⟩ : ∃ n, L0.length = n := ⟨_, rfl⟩
    have HO0 : Hid (w.ownsRow B 51 7 (.slice (some ⟨g, 0, none⟩) n qk) n (Rc.fl L0)) := (show World.ownsRow _ _ _ _ _ _ _ by rw [← hN]; exact HO.out)
    have hgq : g ≠ qb := fun e => hne (by rw [e])
    rw [hN] at HQB
    have hn2 : n ≤ 1000 := by omega
    clear hN HO hn hne
    go_wp2_with fail
    go_loopw [29] (fun i wr => ∃ (k : Nat) (xs : List Value), k ≤ n ∧ i = .int .i64 k ∧ Hid (wr.ownsRow B 51 7 (.slice (some ⟨g, 0, none⟩) n qk) n xs) ∧ Hid (wr.heap[qb]? = some (.cells #[.int .i64 qi, .bool qa, .bool qc, .int .i64 qo, .string qr, .int .i64 qy, .slice (some ⟨g, 0, none⟩) n qk] 38 (0, 0))) ∧ Hid (Below B w0 wr)) (fun i _ => n - (intOf i).toNat)
    case atStart => exact ⟨0, Rc.fl L0, Nat.zero_le _, rfl, HO0, HQB, HB0⟩
    case round =>
      obtain ⟨k, xs, hk, rfl, HOX, HQ, HB⟩ := hrel
      have c6 : wr.cell? ⟨qb, 6, none⟩ = some (.slice (some ⟨g, 0, none⟩) n qk) := cellsAt HQ.out 6
      by_cases hlt : k < n
      · have hd : decide ((k : Int) < (n : Int)) = true := by simp; omega
        obtain ⟨⟨u, c0⟩, z0⟩ := rown_cell HOX.out hlt
        have HS : Hid ((wr.setCell ⟨g, k * 7, none⟩ (.string ⟨#[63]⟩)).ownsRow B 51 7 (.slice (some ⟨g, 0, none⟩) n qk) n (xs.set (k * 7) (.string ⟨#[63]⟩))) := (World.ownsRow.stored HOX.out (k * 7) (.string ⟨#[63]⟩)).1
        have hi0 : (0 : Int) ≤ (k : Int) := by omega
        have hi1 : (k : Int) < (n : Int) := by omega
        have hi2 : ((k : Int)).toNat = k := by omega
        go_wp2_with fail
        refine ⟨⟨k + 1, _, by omega, by go_num, HS, (Below.heap_setCell wr _ _ qb (by simp; omega)).trans HQ.out, HB.out.setCell (p := ⟨g, k * 7, none⟩) hbg _⟩, by simp [intOf]; omega⟩
      · have hd : decide ((k : Int) < (n : Int)) = false := by simp; omega
        go_wp2_with fail
        exact HQN.out _ _ _ _ _ _ _ _ _ _ _ _ _ _ HB

end Go.Proofs.YtigffgjkakalfaaGreatDoor

/- How work gives up: Need, Attempt. -/
namespace Go.Proofs.YtigffgjkakalfaaGreatDoor
open Go.RowKit

set_option maxHeartbeats 400000 in
theorem need_ok (e : Int) (w : World) :
    Calls Tryz.prog 63 #[.bool true, .int .i64 e] w fun x w' => x = .returned (.tuple #[]) ∧ w' = w := by
  go_enter Tryz.func63, Tryz.ntmps63
  go_wp2_with fail
  simp [bodyPost, results, Tryz.results63]

set_option maxHeartbeats 400000 in
theorem need_no (e : Int) (w : World) :
    Calls Tryz.prog 63 #[.bool false, .int .i64 e] w fun x w' => x = .panicked [{ v := .iface 113 (.agg #[.int .i64 e]), recovered := false }] ∧ w' = w := by
  go_enter Tryz.func63, Tryz.ntmps63
  go_wp2_with fail
  exact ⟨rfl, rfl, rfl⟩

set_option maxHeartbeats 800000 in
set_option maxRecDepth 100000 in
theorem catch_fault (g : Nat) (x e : Int) (older : List PanicEntry) (w : World) (hg : g < w.heap.size) (hc : w.cell? ⟨g, 0, none⟩ = some (.int .i64 x)) (hz : w.frozen? ⟨g, 0, none⟩ = false) :
    CallsD Tryz.prog 71 #[.pointer (some ⟨g, 0, none⟩)] (.panicking ({ v := .iface 113 (.agg #[.int .i64 e]), recovered := false } :: older)) w fun r u' w' =>
      r = .returned (.tuple #[]) ∧ u' = .panicking ({ v := .iface 113 (.agg #[.int .i64 e]), recovered := true } :: older) ∧ w'.cell? ⟨g, 0, none⟩ = some (.int .i64 e) ∧ Below g w w' := by
  have e0 : g ≠ w.heap.size := by omega
  have hta : ∀ W : World, Sem.run Tryz.prog (Instr.typeAssert (.iface 113 (.agg #[.int .i64 e])) 20 113 true) W = .ok (.tuple #[.agg #[.int .i64 e], .bool true]) W := fun _ => by kernel_rfl
  have hs1 : (w.setCell ⟨g, 0, none⟩ (.int .i64 1)).cell? ⟨g, 0, none⟩ = some (.int .i64 1) := by simp [go_sem, hc]
  have hs2 : ((w.setCell ⟨g, 0, none⟩ (.int .i64 1)).setCell ⟨g, 0, none⟩ (.int .i64 e)).cell? ⟨g, 0, none⟩ = some (.int .i64 e) := by simp [go_sem, hc]
  have HE : Hid (∀ o, (((w.setCell ⟨g, 0, none⟩ (.int .i64 1)).setCell ⟨g, 0, none⟩ (.int .i64 e)).alloc o).cell? ⟨g, 0, none⟩ = some (.int .i64 e)) := fun o => by
    rw [World.cell?_alloc_past (w := (w.setCell ⟨g, 0, none⟩ (.int .i64 1)).setCell ⟨g, 0, none⟩ (.int .i64 e)) o g 0 (by simpa using hg)]
    exact hs2
  have HB : Hid (∀ o, Below g w (((w.setCell ⟨g, 0, none⟩ (.int .i64 1)).setCell ⟨g, 0, none⟩ (.int .i64 e)).alloc o)) := fun o =>
    (((Below.refl g w).setCell (p := ⟨g, 0, none⟩) (Nat.le_refl _) _).setCell (p := ⟨g, 0, none⟩) (Nat.le_refl _) _).alloc (by simp; omega) _
  clear hs1 hs2
  refine callsD_of_wpS Tryz.func71 rfl fun c₀ cs hu => ?_
  apply wpS_seq
  apply wpS_region
  simp [wpOpsS, go_sem, recoverD, hu, Tryz.ntmps71, Exit.thenS, Array.replicate]
  refine wpS_of_wp ?_
  go_wp2_with fail
  have h1 := HE.out (.cells #[.int .i64 e] 113)
  have h2 := HB.out (.cells #[.int .i64 e] 113)
  cases c₀
  simp [bodyPostS, results, Tryz.results71]
  exact ⟨h1, h2⟩

theorem catch_idle (p : Addr) (w : World) :
    CallsD Tryz.prog 71 #[.pointer (some p)] .returning w fun e u' w' => e = .returned (.tuple #[]) ∧ u' = .returning ∧ w' = w := by
  refine callsD_of_wpS Tryz.func71 rfl fun c₀ cs hu => ?_
  apply wpS_seq
  apply wpS_region
  simp [wpOpsS, go_sem, recoverD, hu, Tryz.ntmps71, Exit.thenS, Array.replicate]
  refine wpS_of_wp ?_
  go_wp2_with fail
  cases c₀
  simp_all [bodyPostS, results, Tryz.results71]

set_option maxHeartbeats 800000 in
set_option maxRecDepth 100000 in
/-- The work is done: all is well. -/
theorem attempt_ok (f : Nat) (caps : Array Value) (w : World) (R : World → Prop) (ef : ∀ args W, (callFunc f args).run Tryz.prog W = .ok (.enter f args) W)
    (hw : Calls Tryz.prog f caps (w.alloc (.cells #[.int .i64 0] 27)) fun r w' => r = .returned (.tuple #[]) ∧ R w' ∧ w'.cell? ⟨w.heap.size, 0, none⟩ = some (.int .i64 0) ∧ w'.frozen? ⟨w.heap.size, 0, none⟩ = false ∧ w.heap.size < w'.heap.size) :
    Calls Tryz.prog 34 #[.func (.func f) #[] caps] w fun r w' => r = .returned (.int .i64 0) ∧ ∃ w1, R w1 ∧ w.heap.size < w1.heap.size ∧ w' = w1.setCell ⟨w.heap.size, 0, none⟩ (.int .i64 0) := by
  have hmf : ∀ (fn : Fn) (first cap : Array Value) (w : World), (Instr.makeFunc fn first cap).run Tryz.prog w = .ok (.func fn first cap) w := fun _ _ _ _ => rfl
  have HW : Hid (Calls Tryz.prog f caps (w.alloc (.cells #[.int .i64 0] 27)) fun r w' => r = .returned (.tuple #[]) ∧ Hid (R w') ∧ w'.cell? ⟨w.heap.size, 0, none⟩ = some (.int .i64 0) ∧ w'.frozen? ⟨w.heap.size, 0, none⟩ = false ∧ w.heap.size < w'.heap.size) := hw
  clear hw
  go_enter_defers Tryz.func34, Tryz.ntmps34
  go_wp2_with fail
  refine HW.out.mono ?_
  rintro e w1 ⟨rfl, HR, h1, h2, h3⟩
  go_wp2_with fail
  refine leaves_cons (f := 71) (args := #[.pointer (some ⟨w.heap.size, 0, none⟩)]) (by simp) (by simp [go_sem]) ?_
  refine (catch_idle ⟨w.heap.size, 0, none⟩ _).mono ?_
  rintro e u' w'' ⟨rfl, rfl, rfl⟩
  simp [Leaves, settle, results, Tryz.results34, go_sem, h1]
  exact ⟨w1, HR.out, h3, rfl⟩

set_option maxHeartbeats 800000 in
set_option maxRecDepth 100000 in
/-- The work gives up: why. -/
theorem attempt_no (f : Nat) (caps : Array Value) (e : Int) (w : World) (R : World → Prop) (ef : ∀ args W, (callFunc f args).run Tryz.prog W = .ok (.enter f args) W)
    (hw : Calls Tryz.prog f caps (w.alloc (.cells #[.int .i64 0] 27)) fun r w' => r = .panicked [{ v := .iface 113 (.agg #[.int .i64 e]), recovered := false }] ∧ R w' ∧ w'.cell? ⟨w.heap.size, 0, none⟩ = some (.int .i64 0) ∧ w'.frozen? ⟨w.heap.size, 0, none⟩ = false ∧ w.heap.size < w'.heap.size) :
    Calls Tryz.prog 34 #[.func (.func f) #[] caps] w fun r w' => r = .returned (.int .i64 e) ∧ ∃ w1, R w1 ∧ w.heap.size < w1.heap.size ∧ Below w.heap.size w1 w' := by
  have hmf : ∀ (fn : Fn) (first cap : Array Value) (w : World), (Instr.makeFunc fn first cap).run Tryz.prog w = .ok (.func fn first cap) w := fun _ _ _ _ => rfl
  have HW : Hid (Calls Tryz.prog f caps (w.alloc (.cells #[.int .i64 0] 27)) fun r w' => r = .panicked [{ v := .iface 113 (.agg #[.int .i64 e]), recovered := false }] ∧ Hid (R w') ∧ w'.cell? ⟨w.heap.size, 0, none⟩ = some (.int .i64 0) ∧ w'.frozen? ⟨w.heap.size, 0, none⟩ = false ∧ w.heap.size < w'.heap.size) := hw
  clear hw
  go_enter_defers Tryz.func34, Tryz.ntmps34
  go_wp2_with fail
  refine HW.out.mono ?_
  rintro r w1 ⟨rfl, HR, h1, h2, h3⟩
  refine leaves_cons (f := 71) (args := #[.pointer (some ⟨w.heap.size, 0, none⟩)]) (by simp) (by simp [go_sem]) ?_
  refine (catch_fault w.heap.size 0 e [] w1 h3 h1 h2).mono ?_
  rintro r u' w'' ⟨rfl, rfl, h4, h5⟩
  simp [Leaves, settle, results, Tryz.results34, go_sem, h4]
  exact ⟨w1, HR.out, h3, h5⟩

end Go.Proofs.YtigffgjkakalfaaGreatDoor

/- The reader: take, peek. -/
namespace Go.Proofs.YtigffgjkakalfaaGreatDoor
open Go.RowKit

set_option maxHeartbeats 1600000 in
set_option maxRecDepth 100000 in
theorem take_ok (g a n : Nat) (t : ByteArray) (w : World) (c0 : w.cell? ⟨g, 0, none⟩ = some (.string t)) (c1 : w.cell? ⟨g, 1, none⟩ = some (.int .i64 a)) (hz : w.frozen? ⟨g, 1, none⟩ = false) (hs : t.size ≤ 1000) (han : a + n ≤ t.size) :
    Calls Tryz.prog 90 #[.pointer (some ⟨g, 0, none⟩), .int .i64 n] w fun e w' => e = .returned (.string (t.extract a (a + n))) ∧ ∃ m, w' = (w.setCell ⟨g, 1, none⟩ (.int .i64 ((a : Int) + (n : Int)))).drew.drewN m := by
  have h1 : IntKind.i64.wrap ((t.size : Int) - (a : Int)) = (t.size : Int) - (a : Int) := by rw [IntKind.wrap_i64]; omega
  have h2 : decide ((n : Int) ≤ (t.size : Int) - (a : Int)) = true := by simp; omega
  have h3 : IntKind.i64.wrap ((a : Int) + (n : Int)) = ((a + n : Nat) : Int) := by rw [IntKind.wrap_i64]; omega
  have h4 : IntKind.i64.wrap (((a + n : Nat) : Int) - (n : Int)) = (a : Int) := by rw [IntKind.wrap_i64]; omega
  go_enter Tryz.func90, Tryz.ntmps90
  go_wp2_with fail
  go_region_held3 (fun w' => w'.cell? ⟨g, 0, none⟩ = some (.string t) ∧ w'.cell? ⟨g, 1, none⟩ = some (.int .i64 a)) (go_keep) (first | (go_at_call 63; refine (need_ok _ _).mono ?_; rintro e w5 ⟨rfl, rfl⟩) | fail)
  go_wp2_with fail
  have hi0 : (0 : Int) ≤ (a : Int) := by omega
  have hi1 : (a : Int) ≤ ((a + n : Nat) : Int) := by omega
  have hi2 : ((a + n : Nat) : Int) ≤ (t.size : Int) := by omega
  have hi3 : ((a : Int)).toNat = a := by omega
  have hi4 : (((a + n : Nat) : Int)).toNat = a + n := by omega
  go_quiet (fail)
  go_wp2_with fail
  go_ret
  exact ⟨rfl, _, rfl⟩

end Go.Proofs.YtigffgjkakalfaaGreatDoor

/- The reader: peek, numbers. -/
namespace Go.Proofs.YtigffgjkakalfaaGreatDoor
open Go.RowKit

set_option maxHeartbeats 1600000 in
set_option maxRecDepth 100000 in
theorem peek_ok (g a : Nat) (t : ByteArray) (w : World) (c0 : w.cell? ⟨g, 0, none⟩ = some (.string t)) (c1 : w.cell? ⟨g, 1, none⟩ = some (.int .i64 a)) (ha : a < t.size) :
    Calls Tryz.prog 91 #[.pointer (some ⟨g, 0, none⟩)] w fun e w' => e = .returned (.int .u8 (t[a].toNat : Int)) ∧ ∃ m, w' = w.drew.drewN m := by
  have h2 : decide ((a : Int) < (t.size : Int)) = true := by simp; omega
  have hi0 : (0 : Int) ≤ (a : Int) := by omega
  have hi1 : (a : Int) < (t.size : Int) := by omega
  have hi3 : ((a : Int)).toNat = a := by omega
  go_enter Tryz.func91, Tryz.ntmps91
  go_wp2_with fail
  go_region_held3 (fun w' => w'.cell? ⟨g, 0, none⟩ = some (.string t) ∧ w'.cell? ⟨g, 1, none⟩ = some (.int .i64 a)) (go_keep) (first | (go_at_call 63; refine (need_ok _ _).mono ?_; rintro e w5 ⟨rfl, rfl⟩) | fail)
  go_wp2_with fail
  go_quiet (fail)
  go_wp2_with fail
  go_ret
  exact ⟨rfl, _, rfl⟩

end Go.Proofs.YtigffgjkakalfaaGreatDoor

/- The reader: numbers. -/
namespace Go.Proofs.YtigffgjkakalfaaGreatDoor
open Go.RowKit

/-- The number that k bytes from a on say, the high ones first. -/
def rnum (t : ByteArray) (a : Nat) : Nat → Nat
  | 0 => 0
  | k + 1 => rnum t a k * 256 + (t.data[a + k]?.getD 0).toNat

theorem rnum_lt (t : ByteArray) (a : Nat) : ∀ k, rnum t a k < 256 ^ k
  | 0 => by simp [rnum]
  | k + 1 => by
    have h := rnum_lt t a k
    have h2 := (t.data[a + k]?.getD 0).toNat_lt
    simp only [rnum, Nat.pow_succ]
    omega

theorem or_byte (x b : Nat) (hx : x < 4294967296) (hb : b < 256) : bits .or .i64 ((x : Int) * 256) (wrap64 (b : Int)) = ((x * 256 + b : Nat) : Int) := by
  have h1 : ((x : Int) * 256) = ((x * 256 : Nat) : Int) := by omega
  have h2 : wrap64 (b : Int) = (b : Int) := by unfold wrap64; omega
  have h3 : x * 256 ||| b = x * 256 + b := by
    rw [show x * 256 = 2 ^ 8 * x by omega, ← Nat.two_pow_add_eq_or_of_lt (i := 8) hb]
  rw [h1, h2]
  show IntKind.i64.wrap (((BitVec.ofInt 64 ((x * 256 : Nat) : Int)) ||| (BitVec.ofInt 64 (b : Int))).toNat : Int) = _
  rw [BitVec.toNat_or, BitVec.ofInt_natCast, BitVec.ofInt_natCast, BitVec.toNat_ofNat, BitVec.toNat_ofNat, Nat.mod_eq_of_lt (by omega), Nat.mod_eq_of_lt (by omega), h3, IntKind.wrap_i64]
  omega

set_option maxRecDepth 100000 in
theorem run_bytesW (w : World) (s : ByteArray) : w.drew.alloc (.cells (bytesRow s (grownCap w s.size 0 5)) 5 ((bytesRow s (grownCap w s.size 0 5)).size, (bytesRow s (grownCap w s.size 0 5)).size + 1)) = Lib.bytesWorld w 5 s := by
  have h1 := Lib.run_convert_string_bytes (P := Tryz.prog) w 9 117 5 s (u := .string) Tryz.underlying9 Tryz.underlying117 Tryz.underlying5
  have h2 := run_bytes_of_string (P := Tryz.prog) w 9 117 5 s Tryz.underlying9 Tryz.underlying117 Tryz.underlying5
  rw [h1] at h2
  injection h2 with _ h
  exact h.symm

set_option maxHeartbeats 1600000 in
set_option maxRecDepth 100000 in
theorem rnumber_ok (g a n : Nat) (t : ByteArray) (w : World) (c0 : w.cell? ⟨g, 0, none⟩ = some (.string t)) (c1 : w.cell? ⟨g, 1, none⟩ = some (.int .i64 a)) (hz : w.frozen? ⟨g, 1, none⟩ = false) (hs : t.size ≤ 1000) (han : a + n ≤ t.size) (hn : n ≤ 4) :
    Calls Tryz.prog 62 #[.pointer (some ⟨g, 0, none⟩), .int .i64 n] w fun e w' => e = .returned (.int .i64 (rnum t a n)) ∧ (w.setCell ⟨g, 1, none⟩ (.int .i64 ((a : Int) + (n : Int)))).Extends w' := by
  have HT : Hid (Calls Tryz.prog 90 #[.pointer (some ⟨g, 0, none⟩), .int .i64 n] w fun e w' => e = .returned (.string (t.extract a (a + n))) ∧ ∃ m, w' = (w.setCell ⟨g, 1, none⟩ (.int .i64 ((a : Int) + (n : Int)))).drew.drewN m) := take_ok g a n t w c0 c1 hz hs han
  have hsz : (t.extract a (a + n)).size = n := by simp; omega
  have hcv := fun w s => Lib.run_convert_string_bytes (P := Tryz.prog) w 9 117 5 s (u := .string) Tryz.underlying9 Tryz.underlying117 Tryz.underlying5
  have hB := fun w j hj => Lib.bytesWorld_cell w 5 (t.extract a (a + n)) j hj
  go_enter Tryz.func62, Tryz.ntmps62
  go_wp2_with fail
  refine HT.out.mono ?_
  rintro e w1 ⟨rfl, m, rfl⟩
  go_wp2_with fail
  obtain ⟨W0, hW0⟩ : ∃ W0, W0 = (w.setCell ⟨g, 1, none⟩ (.int .i64 ((a : Int) + (n : Int)))).drewN (1 + m) := ⟨_, rfl⟩
  rw [← hW0]
  have hB' : ∀ j, j < n → (Lib.bytesWorld W0 5 (t.extract a (a + n))).cell? ⟨W0.heap.size, j, none⟩ = some (.int .u8 ((t.extract a (a + n)).data.toList.getD j 0).toNat) := fun j hj => hB W0 j (by omega)
  have hX : W0.Extends (Lib.bytesWorld W0 5 (t.extract a (a + n))) := by
    rw [← run_bytesW W0 (t.extract a (a + n))]
    exact (World.Extends.refl W0).drew.alloc _
  have hX0 : (w.setCell ⟨g, 1, none⟩ (.int .i64 ((a : Int) + (n : Int)))).Extends W0 := by
    subst hW0
    generalize 1 + m = q
    exact ⟨rfl, rfl, rfl, Nat.le_refl _, fun _ _ => rfl, fun _ _ => rfl, fun _ _ => rfl⟩
  have hXX := hX0.trans hX
  obtain ⟨W1, hW1⟩ : ∃ W1, W1 = Lib.bytesWorld W0 5 (t.extract a (a + n)) := ⟨_, rfl⟩
  have hsW : W0.heap.size = w.heap.size := by rw [hW0]; simp
  rw [hsW] at hB'
  rw [← hW1] at hB' hXX ⊢
  clear hB hcv hX hX0 hW1 hW0
  go_loop [5, 13] (fun vn vi => ∃ (k : Nat) (x : Nat), vn = .int .i64 x ∧ vi = .int .i64 k ∧ k ≤ n ∧ Hid (x = rnum t a k))
    (fun _ vi => n - (intOf vi).toNat)
  case atStart => exact ⟨0, 0, rfl, rfl, by omega, rfl⟩
  case round =>
    obtain ⟨k, x, rfl, rfl, hk, hx⟩ := hrel
    by_cases hkn : k < n
    · have hc : decide ((k : Int) < (n : Int)) = true := by simp; omega
      have hcell := hB' k hkn
      have hi0 : (0 : Int) ≤ (k : Int) := by omega
      have hi1 : (k : Int) < (n : Int) := by omega
      have hi2 : ((k : Int)).toNat = k := by omega
      have hxl : x < 4294967296 := by
        have h := rnum_lt t a k
        have h3 : (256 : Nat) ^ k ≤ 256 ^ 3 := Nat.pow_le_pow_right (by omega) (by omega)
        rw [← hx.out] at h
        omega
      have hor := or_byte x (t.data[a + k]?.getD 0).toNat hxl (UInt8.toNat_lt _)
      have hH : Hid (x * 256 + (t.data[a + k]?.getD 0).toNat = rnum t a (k + 1)) := by
        show _ = _
        rw [hx.out]
        rfl
      go_wp2_with fail
      refine ⟨⟨k + 1, _, by simp, by simp, by omega, hH⟩, by simp [intOf]; omega⟩
    · have hc : decide ((k : Int) < (n : Int)) = false := by simp; omega
      have hkn2 : k = n := by omega
      have hH : Hid (x = rnum t a n) := by rw [← hkn2]; exact hx
      go_wp2_with fail
      simp [bodyPost, results, Tryz.results62]
      exact ⟨by rw [hH.out], hXX⟩

end Go.Proofs.YtigffgjkakalfaaGreatDoor

/- The reader: what it holds (IsR), expect, counted. -/
namespace Go.Proofs.YtigffgjkakalfaaGreatDoor
open Go.RowKit

/-- AtW g lies a reader of t that is at a. -/
structure IsR (g : Nat) (t : ByteArray) (a : Nat) (w : World) : Prop where
  c0 : w.cell? ⟨g, 0, none⟩ = some (.string t)
  c1 : w.cell? ⟨g, 1, none⟩ = some (.int .i64 a)
  hz : w.frozen? ⟨g, 1, none⟩ = false
  hg : g < w.heap.size

theorem IsR.move {g a b : Nat} {t : ByteArray} {w w' : World} (h : IsR g t a w) (hx : (w.setCell ⟨g, 1, none⟩ (.int .i64 (b : Int))).Extends w') : IsR g t b w' where
  c0 := by
    refine hx.cell_of ?_
    have := h.c0
    exact (World.cell?_setCell_other _ _ _ _ (by simp)).trans this
  c1 := hx.cell_of (World.cell?_setCell_same _ _ _ h.c1)
  hz := by rw [hx.frozen _ (by simp; exact h.hg)]; simpa using h.hz
  hg := by have := hx.size; simp at this; have := h.hg; omega

set_option maxHeartbeats 1600000 in
set_option maxRecDepth 100000 in
theorem expect_ok (g a n : Nat) (t : ByteArray) (w : World) (h : IsR g t a w) (hs : t.size ≤ 1000) (han : a + n ≤ t.size) (hn : n ≤ 4) :
    Calls Tryz.prog 65 #[.pointer (some ⟨g, 0, none⟩), .int .i64 n, .int .i64 (rnum t a n)] w fun e w' => e = .returned (.tuple #[]) ∧ (w.setCell ⟨g, 1, none⟩ (.int .i64 ((a + n : Nat) : Int))).Extends w' := by
  have HT : Hid (Calls Tryz.prog 62 #[.pointer (some ⟨g, 0, none⟩), .int .i64 n] w fun e w' => e = .returned (.int .i64 (rnum t a n)) ∧ (w.setCell ⟨g, 1, none⟩ (.int .i64 ((a : Int) + (n : Int)))).Extends w') := rnumber_ok g a n t w h.c0 h.c1 h.hz hs han hn
  go_enter Tryz.func65, Tryz.ntmps65
  go_wp2_with fail
  refine HT.out.mono ?_
  rintro e w1 ⟨rfl, hx⟩
  have hX : Hid ((w.setCell ⟨g, 1, none⟩ (.int .i64 ((a + n : Nat) : Int))).Extends w1) := by
    rw [Int.natCast_add]
    exact hx
  clear hx
  go_wp2_with fail
  refine (need_ok _ _).mono ?_
  rintro e w5 ⟨rfl, rfl⟩
  go_wp2_with fail
  simp [bodyPost, results, Tryz.results65]
  simpa using hX.out

set_option maxHeartbeats 1600000 in
set_option maxRecDepth 100000 in
theorem counted_ok (g a : Nat) (t : ByteArray) (w : World) (h : IsR g t a w) (hs : t.size ≤ 1000) (han : a + 1 + rnum t a 1 ≤ t.size) :
    Calls Tryz.prog 94 #[.pointer (some ⟨g, 0, none⟩)] w fun e w' => e = .returned (.string (t.extract (a + 1) (a + 1 + rnum t a 1))) ∧ ∃ w1, (w.setCell ⟨g, 1, none⟩ (.int .i64 ((a + 1 : Nat) : Int))).Extends w1 ∧ (w1.setCell ⟨g, 1, none⟩ (.int .i64 ((a + 1 + rnum t a 1 : Nat) : Int))).Extends w' := by
  have HT : Hid (Calls Tryz.prog 62 #[.pointer (some ⟨g, 0, none⟩), .int .i64 1] w fun e w' => e = .returned (.int .i64 (rnum t a 1)) ∧ (w.setCell ⟨g, 1, none⟩ (.int .i64 ((a : Int) + ((1 : Nat) : Int)))).Extends w') := rnumber_ok g a 1 t w h.c0 h.c1 h.hz hs (by omega) (by omega)
  go_enter Tryz.func94, Tryz.ntmps94
  go_wp2_with fail
  refine HT.out.mono ?_
  rintro e w1 ⟨rfl, hx⟩
  have hX : Hid ((w.setCell ⟨g, 1, none⟩ (.int .i64 ((a + 1 : Nat) : Int))).Extends w1) := by
    rw [Int.natCast_add]
    exact hx
  clear hx
  have h1 := h.move hX.out
  have HT2 : Hid (Calls Tryz.prog 90 #[.pointer (some ⟨g, 0, none⟩), .int .i64 (rnum t a 1 : Nat)] w1 fun e w' => e = .returned (.string (t.extract (a + 1) (a + 1 + rnum t a 1))) ∧ ∃ m, w' = (w1.setCell ⟨g, 1, none⟩ (.int .i64 (((a + 1 : Nat) : Int) + ((rnum t a 1 : Nat) : Int)))).drew.drewN m) := take_ok g (a + 1) (rnum t a 1) t w1 h1.c0 h1.c1 h1.hz hs han
  go_wp2_with fail
  refine HT2.out.mono ?_
  rintro e w2 ⟨rfl, m, rfl⟩
  go_wp2_with fail
  simp [bodyPost, results, Tryz.results94]
  refine ⟨w1, by simpa using hX.out, ?_⟩
  exact ⟨rfl, rfl, rfl, Nat.le_refl _, fun _ _ => rfl, fun _ _ => rfl, fun _ _ => rfl⟩

end Go.Proofs.YtigffgjkakalfaaGreatDoor

/- dns.small of a text with no capital. -/
namespace Go.Proofs.YtigffgjkakalfaaGreatDoor
open Go.RowKit

set_option maxHeartbeats 1600000 in
set_option maxRecDepth 100000 in
theorem small_same (s : ByteArray) (w : World) (hs : s.size ≤ 1000) (hlow : ∀ j, j < s.size → 90 < (s.data.toList.getD j 0).toNat ∨ (s.data.toList.getD j 0).toNat < 65) :
    Calls Tryz.prog 93 #[.string s] w fun e w' => e = .returned (.string s) ∧ w.Extends w' := by
  have hcv := fun w s => Lib.run_convert_string_bytes (P := Tryz.prog) w 9 117 5 s (u := .string) Tryz.underlying9 Tryz.underlying117 Tryz.underlying5
  have hB' : ∀ j, j < s.size → (Lib.bytesWorld w 5 s).cell? ⟨w.heap.size, j, none⟩ = some (.int .u8 (s.data.toList.getD j 0).toNat) := fun j hj => Lib.bytesWorld_cell w 5 s j hj
  have hX : w.Extends (Lib.bytesWorld w 5 s) := by
    rw [← run_bytesW w s]
    exact (World.Extends.refl w).drew.alloc _
  obtain ⟨W1, hW1⟩ : ∃ W1, W1 = Lib.bytesWorld w 5 s := ⟨_, rfl⟩
  go_enter Tryz.func93, Tryz.ntmps93
  go_wp2_with fail
  rw [← hW1] at hB' hX ⊢
  clear hcv hW1
  have hsz2 : s.data.toList.length = s.size := by simp
  have hbk : ∀ cap, (convert 117 9 (.slice (some ⟨w.heap.size, 0, none⟩) s.size cap)).run Tryz.prog W1 = .ok (.string s) W1 := fun cap => by
    have h := run_convert_bytes_back (P := Tryz.prog) W1 117 9 5 ⟨w.heap.size, 0, none⟩ cap s.data.toList Tryz.underlying117 Tryz.underlying5 Tryz.underlying9 (fun j hj => by
      have h2 := hB' j (by omega)
      rw [List.getD_eq_getElem?_getD, List.getElem?_eq_getElem hj] at h2
      have ha : (⟨w.heap.size, 0, none⟩ : Addr).add j = ⟨w.heap.size, j, none⟩ := by
        by_cases hj0 : j = 0 <;> simp [Addr.add, hj0]
      rw [ha]
      simpa using h2)
    rw [hsz2] at h
    exact h
  go_loopw [10] (fun vi wr => ∃ (k : Nat), vi = .int .i64 k ∧ k ≤ s.size ∧ wr = W1)
    (fun vi _ => s.size - (intOf vi).toNat)
  case atStart => exact ⟨0, rfl, by omega, rfl⟩
  case round =>
    obtain ⟨k, rfl, hk, rfl⟩ := hrel
    by_cases hkn : k < s.size
    · have hc : decide ((k : Int) < (s.size : Int)) = true := by simp; omega
      have hcell := hB' k hkn
      have hi0 : (0 : Int) ≤ (k : Int) := by omega
      have hi1 : (k : Int) < (s.size : Int) := by omega
      have hi2 : ((k : Int)).toNat = k := by omega
      have hl := hlow k hkn
      generalize hb : (s.data.toList.getD k 0).toNat = b at hcell hl
      clear hB' hlow hbk hb
      have hnot : (decide ((65 : Int) ≤ (b : Int)) && decide ((b : Int) ≤ 90)) = false := by
        rcases hl with h | h <;> simp <;> omega
      by_cases h65 : 65 ≤ b
      · have hd1 : decide ((65 : Int) ≤ (b : Int)) = true := by simp; omega
        have hd2 : decide ((b : Int) ≤ 90) = false := by simp; omega
        go_wp2_with fail
        refine ⟨⟨k + 1, by simp, by omega, trivial⟩, by simp [intOf]; omega⟩
      · have hd1 : decide ((65 : Int) ≤ (b : Int)) = false := by simp; omega
        go_wp2_with fail
        refine ⟨⟨k + 1, by simp, by omega, trivial⟩, by simp [intOf]; omega⟩
    · have hc : decide ((k : Int) < (s.size : Int)) = false := by simp; omega
      go_wp2_with fail
      simp [bodyPost, results, Tryz.results93]
      exact hX

end Go.Proofs.YtigffgjkakalfaaGreatDoor

/- Lists of texts, as a call has them for its own and as any. -/
namespace Go.Proofs.YtigffgjkakalfaaGreatDoor
open Go.RowKit

theorem Tryz.info9 : (Tryz.prog.info? 9).map (fun i => (i.zero, i.size, i.bytes)) = some (some (.string ⟨#[]⟩), 1, 16) := by kernel_rfl

abbrev OwnS (base : Nat) (w : World) (v : Value) (l : List ByteArray) : Prop := w.ownsRow base 9 1 v l.length (l.map Value.string)

theorem ownS_nil (base : Nat) (w : World) : OwnS base w (.slice none 0 0) [] := World.ownsRow_nil w base 9 1
theorem OwnS.below {base : Nat} {w w' : World} {v : Value} {l : List ByteArray} (h : OwnS base w v l) (hb : Below w.heap.size w w') : OwnS base w' v l := by
  rcases h.2 with ⟨rfl, h0⟩ | ⟨g, c, cur, rfl, hbg, hg, hnc, hcm, hcs, htake⟩
  · exact ⟨h.1, .inl ⟨rfl, h0⟩⟩
  · have hlt : g < w.heap.size := (Array.getElem?_eq_some_iff.1 hg).1
    exact ⟨h.1, .inr ⟨g, c, cur, rfl, hbg, (hb.block g hlt).trans hg, hnc, hcm, hcs, htake⟩⟩
theorem OwnS.lt {base : Nat} {w : World} {v : Value} {l : List ByteArray} (h : OwnS base w v l) (k : Nat) (hk : v.ownBlock = some k) : base ≤ k ∧ k < w.heap.size := World.ownsRow.lt h k hk
theorem ownS_snoc {base : Nat} {w : World} {v : Value} {l : List ByteArray} {s : ByteArray} (h : w.ownsRow base 9 1 v (l.length + 1) (l.map Value.string ++ [.string s])) : OwnS base w v (l ++ [s]) := by
  show w.ownsRow base 9 1 v (l ++ [s]).length ((l ++ [s]).map Value.string)
  rw [List.length_append, List.map_append]
  exact h
theorem strs_one (ss : List ByteArray) : ∀ v ∈ ss.map Value.string, v.oneCell' = true := by
  intro v hv
  obtain ⟨s, _, rfl⟩ := List.mem_map.1 hv
  rfl
/-- What a call owns, as a slice. -/
theorem OwnS.form {base : Nat} {w : World} {v : Value} {l : List ByteArray} (h : OwnS base w v l) : (v = .slice none 0 0 ∧ l = []) ∨ ∃ g c, v = .slice (some ⟨g, 0, none⟩) l.length c ∧ l.length ≤ c ∧ base ≤ g ∧ g < w.heap.size ∧ ∀ j, j < l.length → w.cell? ⟨g, j, none⟩ = some (.string (l.getD j ByteArray.empty)) := by
  rcases h.2 with ⟨hv, h0⟩ | ⟨g, c, cur, hv, hbg, hg, hnc, _⟩
  · exact .inl ⟨hv, List.length_eq_zero_iff.1 h0⟩
  · refine .inr ⟨g, c, hv, hnc, hbg, (Array.getElem?_eq_some_iff.1 hg).1, fun j hj => ?_⟩
    subst hv
    rw [World.ownsRow.cellAt h j (by omega)]
    simp [List.getD, List.getElem?_eq_getElem hj]

end Go.Proofs.YtigffgjkakalfaaGreatDoor

/- The reader's moves, and what stays beside it (Rd). -/
namespace Go.Proofs.YtigffgjkakalfaaGreatDoor
open Go.RowKit

/-- All that was there stays, the reader at g aside. -/
structure Rd (g : Nat) (w w' : World) : Prop where
  os : w'.os = w.os
  tape : w'.tape = w.tape
  output : w'.output = w.output
  size : w.heap.size ≤ w'.heap.size
  block : ∀ k : Nat, k < w.heap.size → k ≠ g → w'.heap[k]? = w.heap[k]?

theorem Rd.refl (g : Nat) (w : World) : Rd g w w := ⟨rfl, rfl, rfl, Nat.le_refl _, fun _ _ _ => rfl⟩
theorem Rd.trans {g : Nat} {w w1 w2 : World} (h : Rd g w w1) (h2 : Rd g w1 w2) : Rd g w w2 :=
  ⟨h2.os.trans h.os, h2.tape.trans h.tape, h2.output.trans h.output, Nat.le_trans h.size h2.size, fun k hk hg => (h2.block k (Nat.lt_of_lt_of_le hk h.size) hg).trans (h.block k hk hg)⟩
theorem Rd.ext {g : Nat} {w w' : World} (h : w.Extends w') : Rd g w w' := ⟨h.os, h.tape, h.output, h.size, fun k hk _ => h.block k hk⟩
theorem Rd.moved {g : Nat} {v : Value} {w w' : World} (h : (w.setCell ⟨g, 1, none⟩ v).Extends w') : Rd g w w' :=
  ⟨h.os, h.tape, h.output, by have := h.size; simpa using this, fun k hk hg => (h.block k (by simpa using hk)).trans (Below.heap_setCell w _ _ k hg)⟩
theorem Rd.below {g B : Nat} {w w' : World} (h : Rd g w w') (hb : B ≤ g) (hB : B ≤ w.heap.size) : Below B w w' :=
  ⟨h.os, h.tape, h.output, h.size, fun k hk => h.block k (by omega) (by omega)⟩
theorem Rd.of_below {g B : Nat} {w w' : World} (h : Below B w w') (hb : w.heap.size ≤ B) : Rd g w w' :=
  ⟨h.os, h.tape, h.output, h.size, fun k hk _ => h.block k (by omega)⟩
theorem Rd.own {g base : Nat} {w w' : World} {v : Value} {l : List ByteArray} (h : Rd g w w') (ho : OwnS base w v l) (hg : g < base) : OwnS base w' v l := by
  rcases ho.2 with ⟨rfl, h0⟩ | ⟨k, c, cur, rfl, hbg, hk, hnc, hcm, hcs, htake⟩
  · exact ⟨ho.1, .inl ⟨rfl, h0⟩⟩
  · have hlt : k < w.heap.size := (Array.getElem?_eq_some_iff.1 hk).1
    exact ⟨ho.1, .inr ⟨k, c, cur, rfl, hbg, (h.block k hlt (by omega)).trans hk, hnc, hcm, hcs, htake⟩⟩
theorem IsR.ext {g a : Nat} {t : ByteArray} {w w' : World} (h : IsR g t a w) (hx : w.Extends w') : IsR g t a w' where
  c0 := hx.cell_of h.c0
  c1 := hx.cell_of h.c1
  hz := by rw [hx.frozen _ h.hg]; exact h.hz
  hg := Nat.lt_of_lt_of_le h.hg hx.size
theorem IsR.below {g a B : Nat} {t : ByteArray} {w w' : World} (h : IsR g t a w) (hx : Below B w w') (hB : g < B) : IsR g t a w' where
  c0 := by have := h.c0; simp only [World.cell?, hx.block g hB] at this ⊢; exact this
  c1 := by have := h.c1; simp only [World.cell?, hx.block g hB] at this ⊢; exact this
  hz := by have := h.hz; simp only [World.frozen?, hx.block g hB] at this ⊢; exact this
  hg := Nat.lt_of_lt_of_le h.hg hx.size

theorem rnum1 {t : ByteArray} {a : Nat} (h : a < t.size) : rnum t a 1 = t[a].toNat := by
  have h2 : t.data[a]? = some t[a] := by
    have : a < t.data.size := h
    rw [Array.getElem?_eq_getElem this]; rfl
  simp [rnum, h2]

/-- A number is read. -/
theorem number_r (g a n : Nat) (t : ByteArray) (w : World) (h : IsR g t a w) (hs : t.size ≤ 1000) (han : a + n ≤ t.size) (hn : n ≤ 4) :
    Calls Tryz.prog 62 #[.pointer (some ⟨g, 0, none⟩), .int .i64 n] w fun e w' => e = .returned (.int .i64 (rnum t a n)) ∧ Hid (IsR g t (a + n) w') ∧ Hid (Rd g w w') := by
  refine (rnumber_ok g a n t w h.c0 h.c1 h.hz hs han hn).mono ?_
  rintro e w' ⟨rfl, hx⟩
  rw [← Int.natCast_add] at hx
  exact ⟨rfl, h.move hx, Rd.moved hx⟩
theorem expect_r (g a n x : Nat) (t : ByteArray) (w : World) (h : IsR g t a w) (hs : t.size ≤ 1000) (han : a + n ≤ t.size) (hn : n ≤ 4) (hx : rnum t a n = x) :
    Calls Tryz.prog 65 #[.pointer (some ⟨g, 0, none⟩), .int .i64 n, .int .i64 x] w fun e w' => e = .returned (.tuple #[]) ∧ Hid (IsR g t (a + n) w') ∧ Hid (Rd g w w') := by
  subst hx
  refine (expect_ok g a n t w h hs han hn).mono ?_
  rintro e w' ⟨rfl, hx⟩
  exact ⟨rfl, h.move hx, Rd.moved hx⟩
theorem counted_r (g a k : Nat) (t l : ByteArray) (w : World) (h : IsR g t a w) (hs : t.size ≤ 1000) (hk : rnum t a 1 = k) (han : a + 1 + k ≤ t.size) (hl : t.extract (a + 1) (a + 1 + k) = l) :
    Calls Tryz.prog 94 #[.pointer (some ⟨g, 0, none⟩)] w fun e w' => e = .returned (.string l) ∧ Hid (IsR g t (a + 1 + k) w') ∧ Hid (Rd g w w') := by
  subst hk
  subst hl
  refine (counted_ok g a t w h hs han).mono ?_
  rintro e w' ⟨rfl, w1, hx, hy⟩
  exact ⟨rfl, (h.move hx).move hy, (Rd.moved hx).trans (Rd.moved hy)⟩
theorem peek_r (g a : Nat) (t : ByteArray) (w : World) (h : IsR g t a w) (ha : a < t.size) :
    Calls Tryz.prog 91 #[.pointer (some ⟨g, 0, none⟩)] w fun e w' => e = .returned (.int .u8 (rnum t a 1 : Nat)) ∧ Hid (IsR g t a w') ∧ Hid (Rd g w w') := by
  refine (peek_ok g a t w h.c0 h.c1 ha).mono ?_
  rintro e w' ⟨rfl, m, rfl⟩
  rw [rnum1 ha]
  have hx : w.Extends (w.drew.drewN m) := ⟨rfl, rfl, rfl, Nat.le_refl _, fun _ _ => rfl, fun _ _ => rfl, fun _ _ => rfl⟩
  exact ⟨rfl, h.ext hx, Rd.ext hx⟩

end Go.Proofs.YtigffgjkakalfaaGreatDoor

/- Is each of some texts a label? -/
namespace Go.Proofs.YtigffgjkakalfaaGreatDoor
open Go.RowKit

def labE (t : ByteArray) : Bool := decide (t = ByteArray.empty) || labB t

theorem heap_new1 (W : World) (c : Value) : (W.alloc (.cells #[c] 9)).heap[W.heap.size]? = some (.cells #[c] 9 (0, 0)) := by
  have h := heap_alloc_new W (.cells #[c] 9)
  simpa using h

end Go.Proofs.YtigffgjkakalfaaGreatDoor

/- Names and their labels: texts cut at their dots. -/
namespace Go.Proofs.YtigffgjkakalfaaGreatDoor
open Go.RowKit

/-- A text's parts between its dots. -/
def spl : List UInt8 → List (List UInt8)
  | [] => [[]]
  | c :: r => if c = 46 then [] :: spl r else match spl r with
    | [] => [[c]]
    | x :: xs => (c :: x) :: xs
/-- Parts with dots between them. -/
def jn : List (List UInt8) → List UInt8
  | [] => []
  | [x] => x
  | x :: y :: r => x ++ 46 :: jn (y :: r)

theorem spl_ne : ∀ l, spl l ≠ []
  | [] => by simp [spl]
  | c :: r => by
    unfold spl
    split
    · simp
    · split <;> simp
theorem spl_dot (r : List UInt8) : spl (46 :: r) = [] :: spl r := by rw [spl, if_pos rfl]
theorem spl_cons {c : UInt8} (h : c ≠ 46) {r x : List UInt8} {xs : List (List UInt8)} (hr : spl r = x :: xs) : spl (c :: r) = (c :: x) :: xs := by
  rw [spl, if_neg h, hr]
theorem spl_app : ∀ (a b : List UInt8), 46 ∉ a → spl (a ++ 46 :: b) = a :: spl b
  | [], b, _ => spl_dot b
  | c :: a, b, h => by
    have h1 : c ≠ 46 := fun e => h (by rw [e]; exact List.mem_cons_self)
    have h2 : 46 ∉ a := fun e => h (List.mem_cons_of_mem _ e)
    rw [List.cons_append]
    exact spl_cons h1 (spl_app a b h2)
theorem spl_none : ∀ (a : List UInt8), 46 ∉ a → spl a = [a]
  | [], _ => rfl
  | c :: a, h => by
    have h1 : c ≠ 46 := fun e => h (by rw [e]; exact List.mem_cons_self)
    have h2 : 46 ∉ a := fun e => h (List.mem_cons_of_mem _ e)
    exact spl_cons h1 (spl_none a h2)
theorem spl_len : ∀ (l : List UInt8), (spl l).length = l.count 46 + 1
  | [] => rfl
  | c :: r => by
    have ih := spl_len r
    by_cases h : c = 46
    · subst h
      rw [spl_dot, List.length_cons, ih, List.count_cons_self]
    · obtain ⟨x, xs, hr⟩ := List.exists_cons_of_ne_nil (spl_ne r)
      rw [spl_cons h hr, List.length_cons, List.count_cons_of_ne h]
      rw [hr, List.length_cons] at ih
      exact ih
theorem spl_free : ∀ (l : List UInt8), ∀ x ∈ spl l, 46 ∉ x
  | [], x, hx => by simp [spl] at hx; subst hx; simp
  | c :: r, x, hx => by
    have ih := spl_free r
    by_cases h : c = 46
    · subst h
      rw [spl_dot] at hx
      rcases List.mem_cons.1 hx with rfl | h2
      · simp
      · exact ih x h2
    · obtain ⟨y, ys, hr⟩ := List.exists_cons_of_ne_nil (spl_ne r)
      rw [spl_cons h hr] at hx
      rcases List.mem_cons.1 hx with rfl | h2
      · have := ih y (by rw [hr]; exact List.mem_cons_self)
        intro hm
        rcases List.mem_cons.1 hm with e | e
        · exact h e.symm
        · exact this e
      · exact ih x (by rw [hr]; exact List.mem_cons_of_mem _ h2)
theorem jn_cons (c : UInt8) (x : List UInt8) (xs : List (List UInt8)) : jn ((c :: x) :: xs) = c :: jn (x :: xs) := by
  cases xs <;> rfl
theorem jn_spl : ∀ (l : List UInt8), jn (spl l) = l
  | [] => rfl
  | c :: r => by
    have ih := jn_spl r
    obtain ⟨y, ys, hr⟩ := List.exists_cons_of_ne_nil (spl_ne r)
    by_cases h : c = 46
    · subst h
      rw [spl_dot, hr]
      rw [hr] at ih
      show [] ++ 46 :: jn (y :: ys) = _
      rw [ih]; rfl
    · rw [spl_cons h hr, jn_cons, ← hr, ih]
theorem spl_jn : ∀ (xs : List (List UInt8)), xs ≠ [] → (∀ x ∈ xs, 46 ∉ x) → spl (jn xs) = xs
  | [], h, _ => absurd rfl h
  | [x], _, h => spl_none x (h x List.mem_cons_self)
  | x :: y :: r, _, h => by
    show spl (x ++ 46 :: jn (y :: r)) = _
    rw [spl_app _ _ (h x List.mem_cons_self), spl_jn (y :: r) (by simp) (fun z hz => h z (List.mem_cons_of_mem _ hz))]

theorem ix_none : ∀ {l : List UInt8}, Lib.indexByte l 46 = -1 → 46 ∉ l
  | [], _ => by simp
  | c :: r, h => by
    unfold Lib.indexByte at h
    split at h
    · omega
    · rename_i hc
      split at h
      · rename_i h2
        intro hm
        rcases List.mem_cons.1 hm with e | e
        · subst e; simp at hc
        · exact ix_none (by simpa using h2) e
      · have := Lib.indexByte_ge r 46; omega
theorem ix_some : ∀ {l : List UInt8} {i : Nat}, Lib.indexByte l 46 = (i : Int) → i < l.length ∧ l = l.take i ++ 46 :: l.drop (i + 1) ∧ 46 ∉ l.take i
  | [], i, h => by unfold Lib.indexByte at h; omega
  | c :: r, i, h => by
    unfold Lib.indexByte at h
    split at h
    · rename_i hc
      have : i = 0 := by omega
      subst this
      have : c = 46 := by simpa using hc
      subst this
      simp
    · rename_i hc
      split at h
      · omega
      · rename_i h2
        have hg := Lib.indexByte_ge r 46
        obtain ⟨j, rfl⟩ : ∃ j, i = j + 1 := ⟨i - 1, by have : Lib.indexByte r 46 ≠ -1 := by simpa using h2
                                                       omega⟩
        obtain ⟨h3, h4, h5⟩ := ix_some (l := r) (i := j) (by omega)
        refine ⟨by simpa using h3, ?_, ?_⟩
        · simp only [List.take_succ_cons, List.drop_succ_cons, List.cons_append]
          rw [← h4]
        · simp only [List.take_succ_cons]
          intro hm
          rcases List.mem_cons.1 hm with e | e
          · subst e; simp at hc
          · exact h5 e

/-- A list of bytes as a text. -/
def mk (l : List UInt8) : ByteArray := ⟨l.toArray⟩
theorem mk_data (s : ByteArray) : mk s.data.toList = s := by cases s; simp [mk]
theorem data_mk (l : List UInt8) : (mk l).data.toList = l := by simp [mk]
theorem mk_size (l : List UInt8) : (mk l).size = l.length := by simp [mk, ByteArray.size]
def labL (l : List UInt8) : Bool := labB (mk l)
theorem labL_free {l : List UInt8} (h : labL l = true) : 46 ∉ l := fun hm => by
  unfold labL labB at h
  simp only [Bool.and_eq_true, List.all_eq_true, data_mk] at h
  have := h.2 46 hm
  revert this; decide
theorem labL_size {l : List UInt8} (h : labL l = true) : 1 ≤ l.length ∧ l.length ≤ 30 := by
  unfold labL labB at h
  simp only [Bool.and_eq_true, decide_eq_true_eq, mk_size] at h
  exact h.1

/-- What is wrong with a name. -/
def chkN (s : ByteArray) : Int :=
  if s.size = 0 then 0 else if (spl s.data.toList).all labL = false then 1 else if 8 < (spl s.data.toList).length ∨ 120 < s.size then 2 else 0

end Go.Proofs.YtigffgjkakalfaaGreatDoor

