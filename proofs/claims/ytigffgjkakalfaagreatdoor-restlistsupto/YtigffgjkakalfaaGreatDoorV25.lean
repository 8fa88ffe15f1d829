/- WF, WG, MN, RUN, WO, ShelfM, ML0 -/
import Derived.Test.YtigffgjkakalfaaGreatDoorV11
import Derived.Test.YtigffgjkakalfaaGreatDoorV24
import Derived.Deep.DeepCutAuto
import Derived.Deep.CutBlock
import Derived.Test.YtigffgjkakalfaaGreatDoorV5
import Derived.Test.YtigffgjkakalfaaGreatDoorV6
import Derived.Test.YtigffgjkakalfaaGreatDoorV20
import Derived.Test.YtigffgjkakalfaaGreatDoorV3
import Derived.Deep.Slices
import Derived.Lib.SmallJoins
import Derived.ProofKit
import Derived.Test.YtigffgjkakalfaaGreatDoorRows
import Derived.OpenShut
import Derived.Handed
import Derived.Shelf.Strings.Builder1
import Derived.Shelf.Strings.Builder2
import Derived.Shelf.Strings.OnBuilder
import Derived.Shelf.Small.Bits
import Derived.Shelf.Small.Strs
import Derived.Shelf.Small.Wraps
import Derived.Shelf.Strconv.Itoa0
import Derived.Shelf.LaysM
import Derived.Shelf.Strconv.Clone
import Derived.Shelf.Strings.Search1
import Derived.Shelf.Strings.Search2
import Derived.Shelf.Strings.Search3
import Derived.Shelf.Strings.Cut
import Derived.Shelf.Strings.Count
import Derived.Shelf.Strings.Shaped
import Derived.Shelf.Strings.Split
import Derived.Shelf.Strings.SplitShaped
import Derived.Shelf.Unicode.DecodeSlow
import Derived.Ground.SlsfProg
import Derived.Shelf.SlSortCmp.Insertion
import Derived.Shelf.SlSortCmp.SiftDown1
import Derived.Shelf.SlSortCmp.HeapSort1
import Derived.Shelf.SlSortCmp.Insertion1
import Derived.Shelf.SlSortCmp.Median1
import Derived.Shelf.SlSortCmp.Pivot1
import Derived.Shelf.SlSortCmp.ReverseRange1
import Derived.Shelf.SlSortCmp.PartialInsertion1
import Derived.Shelf.SlSortCmp.PartitionEqual1
import Derived.Shelf.SlSortCmp.Partition1
import Derived.Shelf.SlSortCmp.Pdq1
import Derived.Shelf.SlSortCmp.Whole1
import Derived.Shelf.SlSortCmp.NoneTotal
import Derived.Test.YtigffgjkakalfaaGreatDoorProg
import Derived.Test.YtigffgjkakalfaaGreatDoorV12
/- RestLists: one round. -/
namespace Go.Proofs.YtigffgjkakalfaaGreatDoor
open Go.RowKit

theorem jlen (a b : List Mem) : (if joinE a b = 0 then joinL a b else []).length ≤ 20 := by
  by_cases h : joinE a b = 0
  · rw [if_pos h]
    unfold joinE at h
    by_cases hc : chkTwo a b = 0
    · rw [if_pos hc] at h
      by_cases h3 : 20 < (joinL a b).length
      · rw [if_pos h3] at h
        exact absurd h (by decide)
      · omega
    · rw [if_neg hc] at h
      exact absurd h hc
  · rw [if_neg h]; simp
/-- What a reader answers is new. -/
theorem rdP_own {t : ByteArray} {w : World} {e : Ending} {w' : World} (h : RdP t w e w') : ∃ i a c o r y p l k L0, e = .returned (.tuple #[.agg #[.int .i64 i, .bool a, .bool c, .int .i64 o, .string r, .int .i64 y, .slice p l k], .int .i64 (rdX t)]) ∧ Hid (MsV w' (rdM t) #[.int .i64 i, .bool a, .bool c, .int .i64 o, .string r, .int .i64 y, .slice p l k]) ∧ Hid (Rc.Own w.heap.size w' (.slice p l k) L0) ∧ L0.length ≤ 1000 ∧ Below w.heap.size w w' := by
  have h1 := rdP_is h
  obtain ⟨hb, ⟨M, v, hM, hl, hc, he, ho⟩ | ⟨E, hE, hE2, he⟩⟩ := h
  · obtain ⟨i, a, c, o, r, y, p, l, k, he2, hm, _⟩ := h1
    have e2 := he.symm.trans he2
    simp only [Ending.returned.injEq, Value.tuple.injEq, Array.mk.injEq, List.cons.injEq, Value.agg.injEq, and_true] at e2
    have hv : v = .slice p l k := e2.1.2.2.2.2.2.2
    have hcf := chkMsg_facts hc
    exact ⟨i, a, c, o, r, y, p, l, k, M.rs, he2, hm, by rw [← hv]; exact ho, by have := hcf.1; omega, hb⟩
  · obtain ⟨i, a, c, o, r, y, p, l, k, he2, hm, _⟩ := h1
    have e2 := he.symm.trans he2
    simp only [Ending.returned.injEq, Value.tuple.injEq, Array.mk.injEq, List.cons.injEq, Value.agg.injEq, and_true] at e2
    have hv : (Value.slice none 0 0) = .slice p l k := e2.1.2.2.2.2.2.2
    exact ⟨i, a, c, o, r, y, p, l, k, [], he2, hm, by rw [← hv]; exact World.ownsRow_nil _ _ _ _, by simp, hb⟩

set_option maxHeartbeats 6400000 in
set_option maxRecDepth 1000000 in
theorem rlbody {u1 u4 u6 u7 u8 u12 u13 u14 u15 u16 u17 u18 u19 u20 u21 u22 u23 u24 u25 u26 u27 u28 u29 u30 u31 u32 u33 u34 u35 u36 u37 u38 u39 u40 u41 u42 u43 u44 u45 u46 u47 u48 u49 u50 u51 u52 u53 u54 u55 u56 u57 u58 u59 u60 u61 u62 u63 u64 u65 u66 u67 u68 u69 u70 u71 u72 u73 u74 u75 u76 u77 u78 u79 u80 u81 u82 u83 u84 u85 u86 u87 u88 u89 u90 u91 u92 u93 u94 u95 u96 u97 u98 u99 u100 u101 u102 u103 u104 u105 u106 u107 u108 u109 u110 u111 u112 u113 u114 u115 u116 u117 u118 u119 u120 u121 u122 u123 u124 u125 u126 u127 u128 u129 u130 u131 u132 u133 u134 u135 u136 u137 u138 u139 u140 u141 u142 u143 u144 u145 u146 u147 u148 u149 u150 u151 u152 u153 u154 u155 u156 u157 u158 u159 u160 u161 u162 u163 u164 u165 u166 u167 u168 u169 u170 u171 : Value} (w0 wr : World) (ms : List Mem) (m : Mem) (rs : List Rum) (t : ByteArray) (pl pr pt : Option Addr) (cl cr ct c g mbx : Nat) (hn : ms.length ≤ 2000000) (hrn : rs.length ≤ 2000000) (hm : m.name.size ≤ maxLen)
    (HLL : Hid (Sl w0 (.slice pl ms.length cl) ms)) (HIN : Hid (Sl w0 (.slice (some ⟨g, 0, none⟩) ms.length c) ms)) (HRR : Hid (RSl w0 (.slice pr rs.length cr) rs)) (HTT : Hid (RSl w0 (.slice pt rs.length ct) rs)) (HMB : Hid (w0.heap[mbx]? = some (.cells #[.string m.name, .int .i64 m.state, .int .i64 m.life, .int .i64 m.addr, .bool m.server] 24 (0, 0)))) (HRC : Hid (w0.cell? ⟨g, ms.length * 5, none⟩ = some (.string ⟨#[114, 111, 111, 109]⟩))) (hg : g < w0.heap.size) (HB0 : Hid (Below w0.heap.size w0 wr)) (Q : Exit → Act → World → Prop)
    (hN : ∀ (y13 y14 y15 y16 y17 y18 y19 y20 y21 y22 y23 y24 y25 y26 y27 y28 y29 y57 y58 y59 y60 y61 y62 y63 y64 y65 y66 y67 y68 y69 y70 y71 y72 y73 y74 y75 y76 y77 y78 y79 y80 y81 y82 y83 y84 y85 y86 y87 y88 y89 y90 y91 y92 y93 y94 y95 y96 y97 y98 y99 y100 y101 y102 y103 y104 y105 y106 y107 y108 y109 y110 y111 y112 y113 y114 y115 y116 y117 y118 y119 y120 y121 y122 y123 y124 y125 y126 y127 y128 y129 y130 y131 y132 y133 y134 y135 y136 y137 y138 y139 y140 y141 y142 y143 y144 y145 y146 y147 y148 y149 y150 y151 y152 y153 y154 y155 y156 y157 y158 y159 y160 y161 y162 y163 y164 y165 y166 y167 y168 y169 y170 y171 : Value) (wx : World), Hid (Below w0.heap.size w0 wx) → Q .normal ⟨#[.slice pl ms.length cl, u1, .slice pr rs.length cr, .string t, u4, .pointer (some ⟨mbx, 0, none⟩), u6, u7, u8, .slice (some ⟨g, 0, none⟩) (ms.length + 1) c, .slice (some ⟨g, 0, none⟩) ms.length c, .slice pt rs.length ct, u12, y13, y14, y15, y16, y17, y18, y19, y20, y21, y22, y23, y24, y25, y26, y27, y28, y29, u30, u31, u32, u33, u34, u35, u36, u37, u38, u39, u40, u41, u42, u43, u44, u45, u46, u47, u48, u49, u50, u51, u52, u53, u54, u55, u56, y57, y58, y59, y60, y61, y62, y63, y64, y65, y66, y67, y68, y69, y70, y71, y72, y73, y74, y75, y76, y77, y78, y79, y80, y81, y82, y83, y84, y85, y86, y87, y88, y89, y90, y91, y92, y93, y94, y95, y96, y97, y98, y99, y100, y101, y102, y103, y104, y105, y106, y107, y108, y109, y110, y111, y112, y113, y114, y115, y116, y117, y118, y119, y120, y121, y122, y123, y124, y125, y126, y127, y128, y129, y130, y131, y132, y133, y134, y135, y136, y137, y138, y139, y140, y141, y142, y143, y144, y145, y146, y147, y148, y149, y150, y151, y152, y153, y154, y155, y156, y157, y158, y159, y160, y161, y162, y163, y164, y165, y166, y167, y168, y169, y170, y171], []⟩ wx) :
    Code.wp Tryz.prog ((Tryz.f3.body.bind (blkIn 1)).getD .skip) Q ⟨#[.slice pl ms.length cl, u1, .slice pr rs.length cr, .string t, u4, .pointer (some ⟨mbx, 0, none⟩), u6, u7, u8, .slice (some ⟨g, 0, none⟩) (ms.length + 1) c, .slice (some ⟨g, 0, none⟩) ms.length c, .slice pt rs.length ct, u12, u13, u14, u15, u16, u17, u18, u19, u20, u21, u22, u23, u24, u25, u26, u27, u28, u29, u30, u31, u32, u33, u34, u35, u36, u37, u38, u39, u40, u41, u42, u43, u44, u45, u46, u47, u48, u49, u50, u51, u52, u53, u54, u55, u56, u57, u58, u59, u60, u61, u62, u63, u64, u65, u66, u67, u68, u69, u70, u71, u72, u73, u74, u75, u76, u77, u78, u79, u80, u81, u82, u83, u84, u85, u86, u87, u88, u89, u90, u91, u92, u93, u94, u95, u96, u97, u98, u99, u100, u101, u102, u103, u104, u105, u106, u107, u108, u109, u110, u111, u112, u113, u114, u115, u116, u117, u118, u119, u120, u121, u122, u123, u124, u125, u126, u127, u128, u129, u130, u131, u132, u133, u134, u135, u136, u137, u138, u139, u140, u141, u142, u143, u144, u145, u146, u147, u148, u149, u150, u151, u152, u153, u154, u155, u156, u157, u158, u159, u160, u161, u162, u163, u164, u165, u166, u167, u168, u169, u170, u171], []⟩ wr := by
  conv => arg 2; whnf
  have HQN : Hid _ := hN
  clear hN
  have HHE : Hid (∀ W, Below w0.heap.size w0 W → Calls Tryz.prog 7 #[.slice (some ⟨g, 0, none⟩) ms.length c, .agg #[.string m.name, .int .i64 m.state, .int .i64 m.life, .int .i64 m.addr, .bool m.server]] W fun e w' => ∃ (p : Option Addr) (l c : Nat) (r : Bool), e = .returned (.tuple #[.slice p l c, .bool r, .int .i64 (joinE ms [m])]) ∧ Hid (Own W.heap.size w' (.slice p l c) (if joinE ms [m] = 0 then hearL ms m else [])) ∧ Below W.heap.size W w') := fun W hW => hear_own ms m _ W (HIN.out.below hW) hm
  have HJO : Hid (∀ W, Below w0.heap.size w0 W → Calls Tryz.prog 8 #[.slice (some ⟨g, 0, none⟩) ms.length c, .slice (some ⟨g, 0, none⟩) ms.length c] W fun e w' => ∃ (p : Option Addr) (l c : Nat), e = .returned (.tuple #[.slice p l c, .int .i64 (joinE ms ms)]) ∧ Hid (Own W.heap.size w' (.slice p l c) (if joinE ms ms = 0 then joinL ms ms else [])) ∧ Below W.heap.size W w') := fun W hW => mjoin_own ms ms _ _ W (HIN.out.below hW) (HIN.out.below hW)
  have HTA : Hid (∀ W, Below w0.heap.size w0 W → Calls Tryz.prog 9 #[.slice pt rs.length ct, .int .i64 3, .int .i64 4] W fun e w' => ∃ (p : Option Addr) (l c : Nat) (q : Option Addr) (k d : Nat) (tl : List Mem), e = .returned (.tuple #[.slice p l c, .slice q k d, .int .i64 (chkR rs)]) ∧ Hid (Own W.heap.size w' (.slice p l c) tl) ∧ tl.length ≤ 20 ∧ Hid (∀ m ∈ tl, m.name.size ≤ maxLen) ∧ Hid (chkR rs = 0 → TakeD rs tl) ∧ Below W.heap.size W w') := fun W hW => take_own rs _ W (HTT.out.below hW)
  have HRD : Hid (∀ W, Calls Tryz.prog 10 #[.string t] W fun e w' => ∃ i a c o r y p l k L0, e = .returned (.tuple #[.agg #[.int .i64 i, .bool a, .bool c, .int .i64 o, .string r, .int .i64 y, .slice p l k], .int .i64 (rdX t)]) ∧ Hid (MsV w' (rdM t) #[.int .i64 i, .bool a, .bool c, .int .i64 o, .string r, .int .i64 y, .slice p l k]) ∧ Hid (Rc.Own W.heap.size w' (.slice p l k) L0) ∧ L0.length ≤ 1000 ∧ Below W.heap.size W w') := fun W => (read_b t W).mono fun _ _ h => rdP_own h
  have HMO : Hid (∀ W, Calls Tryz.prog 11 #[.string t] W fun e w' => ∃ i a c o r y p l k, e = .returned (.tuple #[.agg #[.int .i64 i, .bool a, .bool c, .int .i64 o, .string r, .int .i64 y, .slice p l k], .int .i64 (rdX t)]) ∧ Hid (MsV w' (rdM t) #[.int .i64 i, .bool a, .bool c, .int .i64 o, .string r, .int .i64 y, .slice p l k]) ∧ Below W.heap.size W w') := fun W => (mof_b t W).mono fun _ _ h => rdP_is h
  have HSG : Hid (∀ x y W, MsV W (rdM t) x → MsV W (rdM t) y → Calls Tryz.prog 12 #[.agg x, .agg y] W fun e w' => e = .returned (.bool true) ∧ Below W.heap.size W w') := fun x y W hx hy => sameMsV _ x y W hx hy
  have HSM : Hid (∀ W, Below w0.heap.size w0 W → Calls Tryz.prog 13 #[.slice (some ⟨g, 0, none⟩) ms.length c, .slice pl ms.length cl] W fun e w' => e = .returned (.bool true) ∧ Below W.heap.size W w') := fun W hW => (same_big ms ms _ _ W (HIN.out.below hW) (HLL.out.below hW) (by omega)).mono fun e w' ⟨r, he, hr, hb⟩ => ⟨by rw [he, hr.2 rfl], hb⟩
  have HSR : Hid (∀ W, Below w0.heap.size w0 W → Calls Tryz.prog 14 #[.slice pt rs.length ct, .slice pr rs.length cr] W fun e w' => e = .returned (.bool true) ∧ Below W.heap.size W w') := fun W hW => sameR_big rs _ _ W (HTT.out.below hW) (HRR.out.below hW) (by omega)
  have HCM : Hid (∀ W, Below w0.heap.size w0 W → Calls Tryz.prog 15 #[.slice pl ms.length cl] W fun e w' => e = .returned (.int .i64 (chk ms)) ∧ Below W.heap.size W w') := fun W hW => checkMembers_any ms _ W (HLL.out.below hW)
  generalize rdM t = RM at *
  generalize rdX t = RX at *
  have hrxx : (RX != RX) = false := by simp
  have hz0 := HB0.out.size
  have HG0 : Hid (wr.heap[mbx]? = some (.cells #[.string m.name, .int .i64 m.state, .int .i64 m.life, .int .i64 m.addr, .bool m.server] 24 (0, 0))) := (HB0.out.block _ (Array.getElem?_eq_some_iff.1 HMB.out).1).trans HMB.out
  have b0 : wr.cell? ⟨mbx, 0, none⟩ = some (.string m.name) := cellsAt HG0.out 0
  have b1 : wr.cell? ⟨mbx, 1, none⟩ = some (.int .i64 m.state) := cellsAt HG0.out 1
  have b2 : wr.cell? ⟨mbx, 2, none⟩ = some (.int .i64 m.life) := cellsAt HG0.out 2
  have b3 : wr.cell? ⟨mbx, 3, none⟩ = some (.int .i64 m.addr) := cellsAt HG0.out 3
  have b4 : wr.cell? ⟨mbx, 4, none⟩ = some (.bool m.server) := cellsAt HG0.out 4
  go_wp2_with fail
  refine (HHE.out wr HB0.out).mono ?_
  rintro e w1 ⟨px, nx, cx, rx, rfl, HX1, hb1⟩
  have HB1 : Hid (Below w0.heap.size w0 w1) := HB0.out.trans (hb1.mono hz0)
  have hz1 := hb1.size
  have HKX : Hid (∀ k, (Value.slice px nx cx).ownBlock = some k → wr.heap.size ≤ k ∧ k < w1.heap.size) := fun k hk => HX1.out.lt k hk
  clear hb1 b0 b1 b2 b3 b4 HG0 HHE
  go_wp2_with fail
  refine (HJO.out w1 HB1.out).mono ?_
  rintro e w2 ⟨py, ny, cy, rfl, HY2, hb2⟩
  have HB2 : Hid (Below w0.heap.size w0 w2) := HB1.out.trans (hb2.mono (by omega))
  have hz2 := hb2.size
  have HX2 : Hid (Own wr.heap.size w2 (.slice px nx cx) (if joinE ms [m] = 0 then hearL ms m else [])) := HX1.out.below hb2
  have HKY : Hid (∀ k, (Value.slice py ny cy).ownBlock = some k → w1.heap.size ≤ k ∧ k < w2.heap.size) := fun k hk => HY2.out.lt k hk
  clear hb2 HX1 HJO
  go_wp2_with fail
  refine (HTA.out w2 HB2.out).mono ?_
  rintro e w3 ⟨pz, nz, cz, pv, nv, cv, tl, rfl, HZ3, htl, HNS, HTD, hb3⟩
  have HB3 : Hid (Below w0.heap.size w0 w3) := HB2.out.trans (hb3.mono (by omega))
  have hz3 := hb3.size
  have HX3 : Hid (Own wr.heap.size w3 (.slice px nx cx) (if joinE ms [m] = 0 then hearL ms m else [])) := HX2.out.below hb3
  have HY3 : Hid (Own w1.heap.size w3 (.slice py ny cy) (if joinE ms ms = 0 then joinL ms ms else [])) := HY2.out.below hb3
  have HKZ : Hid (∀ k, (Value.slice pz nz cz).ownBlock = some k → w2.heap.size ≤ k ∧ k < w3.heap.size) := fun k hk => HZ3.out.lt k hk
  clear hb3 HX2 HY2 HTA
  go_wp2_with fail
  refine (HRD.out w3).mono ?_
  rintro e w4 ⟨qi, qa, qc, qo, qr, qy, qp, ql, qk, L0, rfl, HM4, HO4, hL0, hb4⟩
  have hz4 := hb4.size
  have HKR : Hid (∀ k, (Value.slice qp ql qk).ownBlock = some k → w3.heap.size ≤ k ∧ k < w4.heap.size) := fun k hk => HO4.out.lt k hk
  go_wp2_with fail
  obtain ⟨w5, hw5⟩ : ∃ w5, w5 = w4.alloc (.cells #[.int .i64 qi, .bool qa, .bool qc, .int .i64 qo, .string qr, .int .i64 qy, .slice qp ql qk] 38) := ⟨_, rfl⟩
  obtain ⟨qb, hqb⟩ : ∃ q, q = w4.heap.size := ⟨_, rfl⟩
  have hb45 : Below w4.heap.size w4 w5 := by rw [hw5]; exact (Below.refl _ _).alloc (Nat.le_refl _) _
  have hb35 : Below w3.heap.size w3 w5 := hb4.trans (hb45.mono hz4)
  have hz5 : w5.heap.size = qb + 1 := by rw [hw5, hqb]; simp
  have HQ5 : Hid (w5.heap[qb]? = some (.cells #[.int .i64 qi, .bool qa, .bool qc, .int .i64 qo, .string qr, .int .i64 qy, .slice qp ql qk] 38 (0, 0))) := (show _ = _ by rw [hqb, hw5]; exact heap_alloc_new w4 _)
  have hqz : w4.heap.size ≤ qb := by omega
  have HM5 : Hid (MsV w5 RM #[.int .i64 qi, .bool qa, .bool qc, .int .i64 qo, .string qr, .int .i64 qy, .slice qp ql qk]) := HM4.out.below hb45
  have HO5 : Hid (Rc.Own w3.heap.size w5 (.slice qp ql qk) L0) := HO4.out.below hb45
  have HB5 : Hid (Below w0.heap.size w0 w5) := HB3.out.trans (hb35.mono (by omega))
  have HX5 : Hid (Own wr.heap.size w5 (.slice px nx cx) (if joinE ms [m] = 0 then hearL ms m else [])) := HX3.out.below hb35
  have HY5 : Hid (Own w1.heap.size w5 (.slice py ny cy) (if joinE ms ms = 0 then joinL ms ms else [])) := HY3.out.below hb35
  have HZ5 : Hid (Own w2.heap.size w5 (.slice pz nz cz) tl) := HZ3.out.below hb35
  rw [← hw5, ← hqb]
  clear hw5 hqb hb45 hb35 hb4 HM4 HO4 HX3 HY3 HZ3 HB3 HRD
  refine (HMO.out w5).mono ?_
  rintro e w6 ⟨xi, xa, xc, xo, xr, xy, xp, xl, xk, rfl, HM6, hb6⟩
  go_upto_region 14 with fail
  obtain ⟨w7, hw7⟩ : ∃ w7, w7 = w6.alloc (.cells #[.int .i64 xi, .bool xa, .bool xc, .int .i64 xo, .string xr, .int .i64 xy, .slice xp xl xk] 38) := ⟨_, rfl⟩
  obtain ⟨xb, hxb⟩ : ∃ q, q = w6.heap.size := ⟨_, rfl⟩
  have hb67 : Below w6.heap.size w6 w7 := by rw [hw7]; exact (Below.refl _ _).alloc (Nat.le_refl _) _
  have hb57 : Below w5.heap.size w5 w7 := hb6.trans (hb67.mono hb6.size)
  have hz7 := hb57.size
  have HX_7 : Hid (w7.heap[xb]? = some (.cells #[.int .i64 xi, .bool xa, .bool xc, .int .i64 xo, .string xr, .int .i64 xy, .slice xp xl xk] 38 (0, 0))) := (show _ = _ by rw [hxb, hw7]; exact heap_alloc_new w6 _)
  have HQ7 : Hid (w7.heap[qb]? = some (.cells #[.int .i64 qi, .bool qa, .bool qc, .int .i64 qo, .string qr, .int .i64 qy, .slice qp ql qk] 38 (0, 0))) := (hb57.block _ (by omega)).trans HQ5.out
  have HM7 : Hid (MsV w7 RM #[.int .i64 qi, .bool qa, .bool qc, .int .i64 qo, .string qr, .int .i64 qy, .slice qp ql qk]) := HM5.out.below hb57
  have HN7 : Hid (MsV w7 RM #[.int .i64 xi, .bool xa, .bool xc, .int .i64 xo, .string xr, .int .i64 xy, .slice xp xl xk]) := HM6.out.below hb67
  have HO7 : Hid (Rc.Own w3.heap.size w7 (.slice qp ql qk) L0) := HO5.out.below hb57
  have HB7 : Hid (Below w0.heap.size w0 w7) := HB5.out.trans (hb57.mono (by omega))
  have HX7 : Hid (Own wr.heap.size w7 (.slice px nx cx) (if joinE ms [m] = 0 then hearL ms m else [])) := HX5.out.below hb57
  have HY7 : Hid (Own w1.heap.size w7 (.slice py ny cy) (if joinE ms ms = 0 then joinL ms ms else [])) := HY5.out.below hb57
  have HZ7 : Hid (Own w2.heap.size w7 (.slice pz nz cz) tl) := HZ5.out.below hb57
  rw [← hw7, ← hxb]
  clear hw7 hxb hb67 hb57 hb6 HM6 HM5 HO5 HX5 HY5 HZ5 HB5 HQ5 HMO
  have q0 : w7.cell? ⟨qb, 0, none⟩ = some (.int .i64 qi) := cellsAt HQ7.out 0
  have q1 : w7.cell? ⟨qb, 1, none⟩ = some (.bool qa) := cellsAt HQ7.out 1
  have q2 : w7.cell? ⟨qb, 2, none⟩ = some (.bool qc) := cellsAt HQ7.out 2
  have q3 : w7.cell? ⟨qb, 3, none⟩ = some (.int .i64 qo) := cellsAt HQ7.out 3
  have q4 : w7.cell? ⟨qb, 4, none⟩ = some (.string qr) := cellsAt HQ7.out 4
  have q5 : w7.cell? ⟨qb, 5, none⟩ = some (.int .i64 qy) := cellsAt HQ7.out 5
  have q6 : w7.cell? ⟨qb, 6, none⟩ = some (.slice qp ql qk) := cellsAt HQ7.out 6
  have x0 : w7.cell? ⟨xb, 0, none⟩ = some (.int .i64 xi) := cellsAt HX_7.out 0
  have x1 : w7.cell? ⟨xb, 1, none⟩ = some (.bool xa) := cellsAt HX_7.out 1
  have x2 : w7.cell? ⟨xb, 2, none⟩ = some (.bool xc) := cellsAt HX_7.out 2
  have x3 : w7.cell? ⟨xb, 3, none⟩ = some (.int .i64 xo) := cellsAt HX_7.out 3
  have x4 : w7.cell? ⟨xb, 4, none⟩ = some (.string xr) := cellsAt HX_7.out 4
  have x5 : w7.cell? ⟨xb, 5, none⟩ = some (.int .i64 xy) := cellsAt HX_7.out 5
  have x6 : w7.cell? ⟨xb, 6, none⟩ = some (.slice xp xl xk) := cellsAt HX_7.out 6
  go_wp2_with fail
  refine (HSG.out _ _ w7 HM7.out HN7.out).mono ?_
  rintro e w8 ⟨rfl, hb8⟩
  have HB8 : Hid (Below w0.heap.size w0 w8) := HB7.out.trans (hb8.mono (by omega))
  have HB78 : Hid (Below w7.heap.size w7 w8) := hb8
  clear hb8 q0 x0 q1 x1 q2 x2 q3 x3 q4 x4 q5 x5 q6 x6
  go_wp2_with fail
  refine (HSM.out w8 HB8.out).mono ?_
  rintro e w9 ⟨rfl, hb9⟩
  have HB9 : Hid (Below w0.heap.size w0 w9) := HB8.out.trans (hb9.mono HB8.out.size)
  have HB79 : Hid (Below w7.heap.size w7 w9) := HB78.out.trans (hb9.mono HB78.out.size)
  have hrc : w9.cell? ⟨g, ms.length * 5, none⟩ = some (.string ⟨#[114, 111, 111, 109]⟩) := (HB9.out.cell (p := ⟨g, ms.length * 5, none⟩) hg).trans HRC.out
  have hj0 : (0 : Int) ≤ (ms.length : Int) := by omega
  have hj1 : (ms.length : Int) < ((ms.length + 1 : Nat) : Int) := by omega
  have hj2 : ((ms.length : Int)).toNat = ms.length := by omega
  clear hb9 HB8 HB78 HSM
  go_wp2_with fail
  refine (HSR.out w9 HB9.out).mono ?_
  rintro e wA ⟨rfl, hbA⟩
  have HB7A : Hid (Below w7.heap.size w7 wA) := HB79.out.trans (hbA.mono HB79.out.size)
  clear hbA HSR HB79 HB9 hrc hj0 hj1 hj2
  have HXA : Hid (Own wr.heap.size wA (.slice px nx cx) (if joinE ms [m] = 0 then hearL ms m else [])) := HX7.out.below HB7A.out
  have HYA : Hid (Own w1.heap.size wA (.slice py ny cy) (if joinE ms ms = 0 then joinL ms ms else [])) := HY7.out.below HB7A.out
  have HZA : Hid (Own w2.heap.size wA (.slice pz nz cz) tl) := HZ7.out.below HB7A.out
  have HOA : Hid (Rc.Own w3.heap.size wA (.slice qp ql qk) L0) := HO7.out.below HB7A.out
  have HQA : Hid (wA.heap[qb]? = some (.cells #[.int .i64 qi, .bool qa, .bool qc, .int .i64 qo, .string qr, .int .i64 qy, .slice qp ql qk] 38 (0, 0))) := (HB7A.out.block _ (Array.getElem?_eq_some_iff.1 HQ7.out).1).trans HQ7.out
  have HBA : Hid (Below w0.heap.size w0 wA) := HB7.out.trans (HB7A.out.mono HB7.out.size)
  have HMA : Hid (wA.heap[mbx]? = some (.cells #[.string m.name, .int .i64 m.state, .int .i64 m.life, .int .i64 m.addr, .bool m.server] 24 (0, 0))) := (HBA.out.block _ (Array.getElem?_eq_some_iff.1 HMB.out).1).trans HMB.out
  clear HX7 HY7 HZ7 HO7 HQ7 HB7 HB7A HM7 HN7 HX_7 HSG
  obtain ⟨cb, hcb⟩ : ∃ x, (chk ms == 0) = x := ⟨_, rfl⟩
  go_wp2_with fail
  refine (HCM.out wA HBA.out).mono ?_
  rintro e wM ⟨rfl, hbM⟩
  have HXM : Hid (Own wr.heap.size wM (.slice px nx cx) (if joinE ms [m] = 0 then hearL ms m else [])) := HXA.out.below hbM
  have HYM : Hid (Own w1.heap.size wM (.slice py ny cy) (if joinE ms ms = 0 then joinL ms ms else [])) := HYA.out.below hbM
  have HZM : Hid (Own w2.heap.size wM (.slice pz nz cz) tl) := HZA.out.below hbM
  have HOM : Hid (Rc.Own w3.heap.size wM (.slice qp ql qk) L0) := HOA.out.below hbM
  have HQM : Hid (wM.heap[qb]? = some (.cells #[.int .i64 qi, .bool qa, .bool qc, .int .i64 qo, .string qr, .int .i64 qy, .slice qp ql qk] 38 (0, 0))) := (hbM.block _ (Array.getElem?_eq_some_iff.1 HQA.out).1).trans HQA.out
  have HBM : Hid (Below w0.heap.size w0 wM) := HBA.out.trans (hbM.mono HBA.out.size)
  have HMM : Hid (wM.heap[mbx]? = some (.cells #[.string m.name, .int .i64 m.state, .int .i64 m.life, .int .i64 m.addr, .bool m.server] 24 (0, 0))) := (hbM.block _ (Array.getElem?_eq_some_iff.1 HMA.out).1).trans HMA.out
  clear HXA HYA HZA HOA HQA HBA HMA hbM HCM
  go_upto_if 118 with fail
  have HCB : Hid ((chk ms == 0) = cb) := hcb
  clear hcb
  refine rl16 wM cb ms m HCB pl px py ms.length cl nx cx ny cy mbx wr.heap.size w1.heap.size (HLL.out.below HBM.out) hm HMM HXM HYM _ ?_
  intro y25 y26 y119 y120 y121 y122 y123 y124 y125 y126 y127 y128 y129 y130 y131 y132 y133 y134 y135 y136 y137 y138 y139 y140 y141 y142 wB HAB
  have HXB : Hid (Own wr.heap.size wB (.slice px nx cx) (if joinE ms [m] = 0 then hearL ms m else [])) := HXM.out.below HAB.out
  have HYB : Hid (Own w1.heap.size wB (.slice py ny cy) (if joinE ms ms = 0 then joinL ms ms else [])) := HYM.out.below HAB.out
  have HZB : Hid (Own w2.heap.size wB (.slice pz nz cz) tl) := HZM.out.below HAB.out
  have HOB : Hid (Rc.Own w3.heap.size wB (.slice qp ql qk) L0) := HOM.out.below HAB.out
  have HQB : Hid (wB.heap[qb]? = some (.cells #[.int .i64 qi, .bool qa, .bool qc, .int .i64 qo, .string qr, .int .i64 qy, .slice qp ql qk] 38 (0, 0))) := (HAB.out.block _ (Array.getElem?_eq_some_iff.1 HQM.out).1).trans HQM.out
  have HBB : Hid (Below w0.heap.size w0 wB) := HBM.out.trans (HAB.out.mono HBM.out.size)
  clear HXM HYM HZM HOM HQM HBM HMM HAB
  obtain ⟨gb, hgb⟩ : ∃ x, (chkR rs == 0) = x := ⟨_, rfl⟩
  go_upto_if 144 with fail
  have HGB : Hid ((chkR rs == 0) = gb) := hgb
  clear hgb
  refine rl20 wB gb rs HGB tl pr pz rs.length cr nz cz w2.heap.size (HRR.out.below HBB.out) HZB htl HNS HTD _ ?_
  intro y27 y28 y145 y146 y147 y148 y149 y150 y151 y152 y153 wC HBC1
  have HXC : Hid (Own wr.heap.size wC (.slice px nx cx) (if joinE ms [m] = 0 then hearL ms m else [])) := HXB.out.below HBC1.out
  have HYC : Hid (Own w1.heap.size wC (.slice py ny cy) (if joinE ms ms = 0 then joinL ms ms else [])) := HYB.out.below HBC1.out
  have HZC : Hid (Own w2.heap.size wC (.slice pz nz cz) tl) := HZB.out.below HBC1.out
  have HOC : Hid (Rc.Own w3.heap.size wC (.slice qp ql qk) L0) := HOB.out.below HBC1.out
  have HQC : Hid (wC.heap[qb]? = some (.cells #[.int .i64 qi, .bool qa, .bool qc, .int .i64 qo, .string qr, .int .i64 qy, .slice qp ql qk] 38 (0, 0))) := (HBC1.out.block _ (Array.getElem?_eq_some_iff.1 HQB.out).1).trans HQB.out
  have HBC : Hid (Below w0.heap.size w0 wC) := HBB.out.trans (HBC1.out.mono HBB.out.size)
  clear HXB HYB HZB HOB HQB HBB HBC1 HNS HTD
  have hlx : (if joinE ms [m] = 0 then hearL ms m else []).length ≤ 20 := jlen ms [m]
  have hly : (if joinE ms ms = 0 then joinL ms ms else []).length ≤ 20 := jlen ms ms
  generalize (if joinE ms [m] = 0 then hearL ms m else []) = LX at *
  generalize (if joinE ms ms = 0 then joinL ms ms else []) = LY at *
  go_wp2_with fail
  refine (spoilM_chg wr.heap.size _ LX wC HXC.out (by omega)).mono ?_
  rintro e wD ⟨rfl, hcD⟩
  have HBD : Hid (Below w0.heap.size w0 wD) := hcD.below HBC.out (fun k hk => by have := (HKX.out k hk).1; omega)
  have HYD : Hid (Own w1.heap.size wD (.slice py ny cy) LY) := hcD.own HYC.out (fun k hk e => by have := (HKX.out k e).2; have := (HKY.out k hk).1; omega)
  have HZD : Hid (Own w2.heap.size wD (.slice pz nz cz) tl) := hcD.own HZC.out (fun k hk e => by have := (HKX.out k e).2; have := (HKZ.out k hk).1; omega)
  have HOD : Hid (Rc.Own w3.heap.size wD (.slice qp ql qk) L0) := hcD.ownR HOC.out (fun k hk e => by have := (HKX.out k e).2; have := (HKR.out k hk).1; omega)
  have HQD : Hid (wD.heap[qb]? = some (.cells #[.int .i64 qi, .bool qa, .bool qc, .int .i64 qo, .string qr, .int .i64 qy, .slice qp ql qk] 38 (0, 0))) := (hcD.block qb (fun e => by have := (HKX.out qb e.symm).2; omega)).trans HQC.out
  clear hcD HXC HYC HZC HOC HQC HBC
  go_wp2_with fail
  refine (spoilM_chg w1.heap.size _ LY wD HYD.out (by omega)).mono ?_
  rintro e wE ⟨rfl, hcE⟩
  have HBE : Hid (Below w0.heap.size w0 wE) := hcE.below HBD.out (fun k hk => by have := (HKY.out k hk).1; omega)
  have HZE : Hid (Own w2.heap.size wE (.slice pz nz cz) tl) := hcE.own HZD.out (fun k hk e => by have := (HKY.out k e).2; have := (HKZ.out k hk).1; omega)
  have HOE : Hid (Rc.Own w3.heap.size wE (.slice qp ql qk) L0) := hcE.ownR HOD.out (fun k hk e => by have := (HKY.out k e).2; have := (HKR.out k hk).1; omega)
  have HQE : Hid (wE.heap[qb]? = some (.cells #[.int .i64 qi, .bool qa, .bool qc, .int .i64 qo, .string qr, .int .i64 qy, .slice qp ql qk] 38 (0, 0))) := (hcE.block qb (fun e => by have := (HKY.out qb e.symm).2; omega)).trans HQD.out
  clear hcE HYD HZD HOD HQD HBD
  go_wp2_with fail
  refine (spoilM_chg w2.heap.size _ tl wE HZE.out (by omega)).mono ?_
  rintro e wF ⟨rfl, hcF⟩
  have HBF : Hid (Below w0.heap.size w0 wF) := hcF.below HBE.out (fun k hk => by have := (HKZ.out k hk).1; omega)
  have HOF : Hid (Rc.Own w0.heap.size wF (.slice qp ql qk) L0) := (hcF.ownR HOE.out (fun k hk e => by have := (HKZ.out k e).2; have := (HKR.out k hk).1; omega)).mono (by omega)
  have HQF : Hid (wF.heap[qb]? = some (.cells #[.int .i64 qi, .bool qa, .bool qc, .int .i64 qo, .string qr, .int .i64 qy, .slice qp ql qk] 38 (0, 0))) := (hcF.block qb (fun e => by have := (HKZ.out qb e.symm).2; omega)).trans HQE.out
  clear hcF HZE HOE HQE HBE
  have hne : qp ≠ some ⟨qb, 0, none⟩ := fun e => by
    have := (HKR.out qb (by rw [e]; rfl)).2
    omega
  go_upto_block 2 with fail
  refine rl28 w0 wF L0 w0.heap.size qb qi qo qy qa qc qr qp ql qk HBF.out HQF HOF hne hL0 _ ?_
  intro y160 y161 y162 y163 y164 y165 y166 y167 y168 y169 y170 y171 y29 wG HBG
  go_wp2_with fail
  exact HQN.out _ _ _ _ _ _ _ _ _ _ _ _ _ _ _ _ _ _ _ _ _ _ _ _ _ _ _ _ _ _ _ _ _ _ _ _ _ _ _ _ _ _ _ _ _ _ _ _ _ _ _ _ _ _ _ _ _ _ _ _ _ _ _ _ _ _ _ _ _ _ _ _ _ _ _ _ _ _ _ _ _ _ _ _ _ _ _ _ _ _ _ _ _ _ _ _ _ _ _ _ _ _ _ _ _ _ _ _ _ _ _ _ _ _ _ _ _ _ _ _ _ _ _ _ _ _ _ _ _ _ _ _ _ HBG

end Go.Proofs.YtigffgjkakalfaaGreatDoor

/- RestLists. -/
namespace Go.Proofs.YtigffgjkakalfaaGreatDoor
open Go.RowKit

theorem sl_front {w : World} {a : Option Addr} {c : Nat} {ms : List Mem} {x : Mem} (h : Sl w (.slice a (ms.length + 1) c) (ms ++ [x])) : Sl w (.slice a ms.length c) ms := by
  obtain ⟨a', c', he, hs, h⟩ := h
  rw [List.length_append, List.length_singleton] at he
  simp only [Value.slice.injEq, true_and] at he
  obtain ⟨rfl, rfl⟩ := he
  have hg : ∀ j, j < ms.length → (ms ++ [x]).getD j dm = ms.getD j dm := fun j hj => by
    simp [List.getD, List.getElem?_append_left hj]
  refine ⟨a, c, rfl, fun j => ?_, ?_⟩
  · by_cases hj : j < ms.length
    · rw [← hg j hj]; exact hs j
    · rw [show ms.getD j dm = dm by simp [List.getD, List.getElem?_eq_none (by omega : ms.length ≤ j)]]; simp [dm]
  · rcases h with h | ⟨b, off, h1, h2, h3⟩
    · simp at h
    · refine .inr ⟨b, off, h1, h2, fun j hj => ?_⟩
      have := h3 j (by rw [List.length_append]; omega)
      rw [hg j hj] at this
      exact this

set_option maxHeartbeats 3200000 in
set_option maxRecDepth 1000000 in
theorem restLists_walk (ms : List Mem) (m : Mem) (rs : List Rum) (t : ByteArray) (vl vr : Value) (w : World) (hml : ML w) (hl : Sl w vl ms) (hm : m.name.size ≤ maxLen) (hr : RSl w vr rs) (hn : ms.length ≤ 2000000) (hrn : rs.length ≤ 2000000) :
    Calls Tryz.prog 3 #[vl, .agg #[.string m.name, .int .i64 m.state, .int .i64 m.life, .int .i64 m.addr, .bool m.server], vr, .string t] w fun e w' => e = .returned (.bool true) ∧ Below w.heap.size w w' := by
  have HL : Hid (Sl w vl ms) := hl
  have HR : Hid (RSl w vr rs) := hr
  obtain ⟨pl, cl, hvl, hs, _⟩ := hl
  obtain ⟨pr, cr, hvr, _, _⟩ := hr
  subst hvl
  subst hvr
  have HNS : Hid (∀ x ∈ ms, x.name.size ≤ maxLen) := ns_mem hs
  have HM : Hid (ML w) := hml
  clear hs hml
  go_enter Tryz.func3, Tryz.ntmps3
  go_wp2_with fail
  obtain ⟨w1, hw1⟩ : ∃ w1, w1 = w.alloc (.cells #[.string m.name, .int .i64 m.state, .int .i64 m.life, .int .i64 m.addr, .bool m.server] 24) := ⟨_, rfl⟩
  obtain ⟨mbx, hmbx⟩ : ∃ q, q = w.heap.size := ⟨_, rfl⟩
  have HB1 : Hid (Below w.heap.size w w1) := (show Below _ _ _ by rw [hw1]; exact (Below.refl _ _).alloc (Nat.le_refl _) _)
  have HG1 : Hid (w1.heap[mbx]? = some (.cells #[.string m.name, .int .i64 m.state, .int .i64 m.life, .int .i64 m.addr, .bool m.server] 24 (0, 0))) := (show _ = _ by rw [hmbx, hw1]; exact heap_alloc_new w _)
  rw [← hw1]
  clear hw1
  subst hmbx
  refine (begun_any w1).mono ?_
  rintro e w2 ⟨rfl, hb2⟩
  have HB2 : Hid (Below w.heap.size w w2) := HB1.out.trans (hb2.mono HB1.out.size)
  have HG2 : Hid (w2.heap[w.heap.size]? = some (.cells #[.string m.name, .int .i64 m.state, .int .i64 m.life, .int .i64 m.addr, .bool m.server] 24 (0, 0))) := (hb2.block _ (Array.getElem?_eq_some_iff.1 HG1.out).1).trans HG1.out
  clear hb2 HB1 HG1
  go_wp2_with fail
  refine (rumorBegun_any w2).mono ?_
  rintro e w3 ⟨rfl, hb3⟩
  have HB3 : Hid (Below w.heap.size w w3) := HB2.out.trans (hb3.mono HB2.out.size)
  have HG3 : Hid (w3.heap[w.heap.size]? = some (.cells #[.string m.name, .int .i64 m.state, .int .i64 m.life, .int .i64 m.addr, .bool m.server] 24 (0, 0))) := (hb3.block _ (Array.getElem?_eq_some_iff.1 HG2.out).1).trans HG2.out
  clear hb3 HB2 HG2
  go_wp2_with fail
  refine (dnsBegun_any w3 (HM.out.below HB3.out)).mono ?_
  rintro e w4 ⟨rfl, hb4⟩
  have HB4 : Hid (Below w.heap.size w w4) := HB3.out.trans (hb4.mono HB3.out.size)
  have HG4 : Hid (w4.heap[w.heap.size]? = some (.cells #[.string m.name, .int .i64 m.state, .int .i64 m.life, .int .i64 m.addr, .bool m.server] 24 (0, 0))) := (hb4.block _ (Array.getElem?_eq_some_iff.1 HG3.out).1).trans HG3.out
  clear hb4 HB3 HG3
  go_upto_region 3 with fail
  refine rl3 w4 ms pl cl (HL.out.below HB4.out) hn _ ?_
  intro y40 y41 y42 y43 y44 y45 p c w5 HO5 HB45
  obtain ⟨g, c', hg⟩ := own_form (by simpa using HO5.out : Own _ _ (.slice p (ms ++ [room]).length c) (ms ++ [room])) 0 (by simp)
  simp only [Value.slice.injEq, true_and] at hg
  obtain ⟨hpg, hcc⟩ := hg
  subst hpg
  have hnc : ms.length + 1 ≤ c := by
    rcases HO5.out.2 with ⟨h1, _⟩ | ⟨g', c2, cur, h1, _, _, hnc, _⟩
    · cases h1
    · simp only [Value.slice.injEq] at h1
      obtain ⟨_, _, rfl⟩ := h1
      simpa using hnc
  have HB5 : Hid (Below w.heap.size w w5) := HB4.out.trans (HB45.out.mono HB4.out.size)
  have HG5 : Hid (w5.heap[w.heap.size]? = some (.cells #[.string m.name, .int .i64 m.state, .int .i64 m.life, .int .i64 m.addr, .bool m.server] 24 (0, 0))) := (HB45.out.block _ (Array.getElem?_eq_some_iff.1 HG4.out).1).trans HG4.out
  have HSI5 : Hid (Sl w5 (.slice (some ⟨g, 0, none⟩) ms.length c) ms) := (show Sl _ _ _ from sl_front (x := room) (by
    have h := own_names (by simpa using HO5.out : Own _ _ (.slice (some ⟨g, 0, none⟩) (ms ++ [room]).length c) (ms ++ [room])) (fun x hx => by
      rcases List.mem_append.1 hx with h | h
      · exact HNS.out x h
      · rw [List.mem_singleton.1 h]; unfold room maxLen; decide)
    simpa using h))
  have HRC5 : Hid (w5.cell? ⟨g, ms.length * 5, none⟩ = some (.string ⟨#[114, 111, 111, 109]⟩)) := (show _ = _ by
    have h := (own_cells (by simpa using HO5.out : Own _ _ (.slice (some ⟨g, 0, none⟩) (ms ++ [room]).length c) (ms ++ [room])) ms.length (by simp)).1
    rw [show (ms ++ [room]).getD ms.length dm = room by simp [List.getD]] at h
    exact h)
  have hg5 : g < w5.heap.size := (HO5.out.lt g rfl).2
  clear HB45 HB4 HG4 HO5 HNS hcc
  have hi0 : (0 : Int) ≤ (ms.length : Int) := by omega
  have hi1 : (ms.length : Int) ≤ (c : Int) := by omega
  have hi2 : ((ms.length : Int)).toNat = ms.length := by omega
  go_upto_region 5 with fail
  refine rl5 w5 rs pr cr (HR.out.below HB5.out) hrn _ ?_
  intro y50 y51 y52 pt ct w6 HO6 HB56
  have HB6 : Hid (Below w.heap.size w w6) := HB5.out.trans (HB56.out.mono HB5.out.size)
  have HG6 : Hid (w6.heap[w.heap.size]? = some (.cells #[.string m.name, .int .i64 m.state, .int .i64 m.life, .int .i64 m.addr, .bool m.server] 24 (0, 0))) := (HB56.out.block _ (Array.getElem?_eq_some_iff.1 HG5.out).1).trans HG5.out
  have HSI6 : Hid (Sl w6 (.slice (some ⟨g, 0, none⟩) ms.length c) ms) := HSI5.out.below HB56.out
  have HRC6 : Hid (w6.cell? ⟨g, ms.length * 5, none⟩ = some (.string ⟨#[114, 111, 111, 109]⟩)) := (HB56.out.cell (p := ⟨g, ms.length * 5, none⟩) hg5).trans HRC5.out
  have HTT6 : Hid (RSl w6 (.slice pt rs.length ct) rs) := HO6.out.sl (by obtain ⟨_, _, _, h, _⟩ := HR.out; exact h)
  have HLL6 : Hid (Sl w6 (.slice pl ms.length cl) ms) := HL.out.below HB6.out
  have HRR6 : Hid (RSl w6 (.slice pr rs.length cr) rs) := HR.out.below HB6.out
  have hg6 : g < w6.heap.size := Nat.lt_of_lt_of_le hg5 HB56.out.size
  have hz6 := HB6.out.size
  clear HB56 HB5 HG5 HSI5 HRC5 HO6 hi0 hi1 hi2 hg5
  go_wp2_with fail
  go_loopw [12] (fun i wr => ∃ k : Nat, k ≤ 2 ∧ i = .int .i64 k ∧ Hid (Below w6.heap.size w6 wr)) (fun i _ => 2 - (intOf i).toNat)
  case atStart => exact ⟨0, by omega, rfl, Below.refl _ _⟩
  case round =>
    obtain ⟨k, hk, rfl, HBR⟩ := hrel
    by_cases hlt : k < 2
    · have hd : decide ((k : Int) < 2) = true := by simp; omega
      go_upto_block 1 with fail
      refine rlbody w6 wr ms m rs t pl pr pt cl cr ct c g w.heap.size hn hrn hm HLL6 HSI6 HRR6 HTT6 HG6 HRC6 hg6 HBR _ ?_
      intro y13 y14 y15 y16 y17 y18 y19 y20 y21 y22 y23 y24 y25 y26 y27 y28 y29 y57 y58 y59 y60 y61 y62 y63 y64 y65 y66 y67 y68 y69 y70 y71 y72 y73 y74 y75 y76 y77 y78 y79 y80 y81 y82 y83 y84 y85 y86 y87 y88 y89 y90 y91 y92 y93 y94 y95 y96 y97 y98 y99 y100 y101 y102 y103 y104 y105 y106 y107 y108 y109 y110 y111 y112 y113 y114 y115 y116 y117 y118 y119 y120 y121 y122 y123 y124 y125 y126 y127 y128 y129 y130 y131 y132 y133 y134 y135 y136 y137 y138 y139 y140 y141 y142 y143 y144 y145 y146 y147 y148 y149 y150 y151 y152 y153 y154 y155 y156 y157 y158 y159 y160 y161 y162 y163 y164 y165 y166 y167 y168 y169 y170 y171 wx HBX
      go_wp2_with fail
      exact ⟨⟨k + 1, by omega, by go_num, HBX⟩, by simp [intOf]; omega⟩
    · have hd : decide ((k : Int) < 2) = false := by simp; omega
      go_wp2_with fail
      go_ret
      exact ⟨rfl, HB6.out.trans (HBR.out.mono hz6)⟩

end Go.Proofs.YtigffgjkakalfaaGreatDoor

/- What the laws are handed: members and lists of them, read out of memory. -/
namespace Go.Proofs.YtigffgjkakalfaaGreatDoor
open Go.ChangeShapes Go.WideShapes Go.ChangeAt Go.RowKit

section
variable {H : Type} {enc : TypeId × Value → H} {w : World} {base : Nat} {spare : Nat → Bool} {held : Bool}

theorem Tryz.cells24 : Tryz.prog.cellsOf 24 = 5 := by kernel_rfl
theorem Tryz.cells9 : Tryz.prog.cellsOf 9 = 1 := by kernel_rfl
theorem Tryz.cells3 : Tryz.prog.cellsOf 3 = 1 := by kernel_rfl
theorem Tryz.cells4 : Tryz.prog.cellsOf 4 = 1 := by kernel_rfl

set_option maxRecDepth 100000 in
theorem mem_of_trod {fuel : Nat} {cs : List Value} {x : DataW H × List MemPlace} (h : DataW.trod enc Tryz.prog w base spare held fuel 24 cs = some x) :
    ∃ m : Mem, cs = [.string m.name, .int .i64 m.state, .int .i64 m.life, .int .i64 m.addr, .bool m.server] ∧ m.name.size ≤ maxLen := by
  obtain ⟨xs, n, _, _, hl, hlen, hf⟩ := DataW.trod_struct Tryz.underlying24 h
  rw [Tryz.cells24] at hl
  match cs, hl with
  | [c0, c1, c2, c3, c4], _ =>
    match xs, hlen with
    | [y0, y1, y2, y3, y4], _ =>
      have h0 := hf 0 _ rfl
      have h1 := hf 1 _ rfl
      have h2 := hf 2 _ rfl
      have h3 := hf 3 _ rfl
      have h4 := hf 4 _ rfl
      simp [Tryz.cells9] at h0
      simp [Tryz.cells3] at h1
      simp [Tryz.cells3] at h2
      simp [Tryz.cells3] at h3
      simp [Tryz.cells4] at h4
      obtain ⟨s, e0, _, hs⟩ := DataW.trod_string Tryz.underlying9 h0
      obtain ⟨a, e1, _⟩ := DataW.trod_int Tryz.underlying3 h1
      obtain ⟨b, e2, _⟩ := DataW.trod_int Tryz.underlying3 h2
      obtain ⟨c, e3, _⟩ := DataW.trod_int Tryz.underlying3 h3
      obtain ⟨d, e4, _⟩ := DataW.trod_bool Tryz.underlying4 h4
      simp only [List.cons.injEq, and_true] at e0 e1 e2 e3 e4
      subst e0 e1 e2 e3 e4
      exact ⟨⟨s, a, b, c, d⟩, rfl, hs⟩

set_option maxRecDepth 100000 in
theorem open_mem {r : Reach} {b0 : Nat} {v : Value} {d : DataW H} {p : List MemPlace} (hv : Value.okWide Tryz.prog w r b0 24 v) (h : DataW.Trod enc Tryz.prog w base spare held 24 v d p) :
    ∃ m : Mem, v = .agg #[.string m.name, .int .i64 m.state, .int .i64 m.life, .int .i64 m.addr, .bool m.server] ∧ m.name.size ≤ maxLen := by
  obtain ⟨cs, rfl, hsz⟩ := okWide_struct Tryz.underlying24 hv
  obtain ⟨fuel, hf⟩ := h
  obtain ⟨m, hm, hs⟩ := mem_of_trod hf
  refine ⟨m, ?_, hs⟩
  simp only [Value.cells] at hm
  congr 1
  apply Array.ext'
  exact hm

set_option maxRecDepth 100000 in
theorem open_mems {r : Reach} {b0 : Nat} {v : Value} {d : DataW H} {p : List MemPlace} (hv : Value.okWide Tryz.prog w r b0 22 v) (h : DataW.Trod enc Tryz.prog w base spare held 22 v d p) :
    ∃ ms : List Mem, Sl w v ms ∧ ms.length ≤ maxLen := by
  obtain ⟨a, len, cap, rfl⟩ := okWide_slice Tryz.underlying22 hv
  obtain ⟨fuel, hf⟩ := h
  rcases Go.Deep.open_slice Tryz.underlying22 hf with ⟨hcs, _⟩ | ⟨x, l, c, m, n, D, Pl, hcs, hb, hl, hm, hmm, _, hx⟩
  · simp [Value.cells] at hcs
    obtain ⟨rfl, rfl, rfl⟩ := hcs
    exact ⟨[], ⟨none, 0, rfl, fun j => by simp [dm], .inl rfl⟩, by simp⟩
  · simp [Value.cells] at hcs
    obtain ⟨rfl, rfl, rfl⟩ := hcs
    have hlm : len ≤ m := by rw [hmm]; split <;> omega
    have hall : ∀ i, i < len → ∃ q : Mem, (∀ t, t < 5 → w.cell? (x.add (i * 5 + t)) = [Value.string q.name, .int .i64 q.state, .int .i64 q.life, .int .i64 q.addr, .bool q.server][t]?) ∧ q.name.size ≤ maxLen := fun i hi => by
      obtain ⟨cs', h1, h2⟩ := hx i (by omega)
      obtain ⟨q, hq, hs⟩ := mem_of_trod h2
      rw [Tryz.cells24] at h1
      obtain ⟨_, _, h3⟩ := World.cells?_some h1
      refine ⟨q, fun t ht => ?_, hs⟩
      rw [← Go.Deep.add_add, h3 t ht, hq]
    have hinh : Inhabited Mem := ⟨dm⟩
    obtain ⟨F, hF⟩ := Go.Deep.choose_lt (α := Mem) (p := fun i q => (∀ t, t < 5 → w.cell? (x.add (i * 5 + t)) = [Value.string q.name, .int .i64 q.state, .int .i64 q.life, .int .i64 q.addr, .bool q.server][t]?) ∧ q.name.size ≤ maxLen) hall
    have hget : ∀ j, j < len → ((List.range len).map F).getD j dm = F j := fun j hj => by simp [List.getD, hj]
    refine ⟨(List.range len).map F, ⟨some x, cap, by simp, fun j => ?_, ?_⟩, by simp; omega⟩
    · by_cases hj : j < len
      · rw [hget j hj]; exact (hF j hj).2
      · simp [List.getD, hj, dm]
    · by_cases h0 : len = 0
      · left; simp [h0]
      · right
        obtain ⟨b, off, spot⟩ := x
        have hc0 := (hF 0 (by omega)).1 0 (by omega)
        have hspot : spot = none := by simpa [Addr.add] using World.cell?_spot hc0
        subst hspot
        have hcell : ∀ j, j < len → ∀ t, t < 5 → w.cell? ⟨b, off + j * 5 + t, none⟩ = [Value.string (F j).name, .int .i64 (F j).state, .int .i64 (F j).life, .int .i64 (F j).addr, .bool (F j).server][t]? := fun j hj t ht => by
          have := (hF j hj).1 t ht
          rwa [Go.WideShapes.add_plain, ← Nat.add_assoc] at this
        refine ⟨b, off, rfl, World.block_lt_of_cell? w ⟨b, off + 0 * 5 + 0, none⟩ (hcell 0 (by omega) 0 (by omega)), fun j hj => ?_⟩
        have hj' : j < len := by simpa using hj
        rw [hget j hj']
        exact ⟨hcell j hj' 0 (by omega), hcell j hj' 1 (by omega), hcell j hj' 2 (by omega), hcell j hj' 3 (by omega), hcell j hj' 4 (by omega)⟩

end
end Go.Proofs.YtigffgjkakalfaaGreatDoor

/- What the laws are handed: rumors and lists of them, read out of memory. -/
namespace Go.Proofs.YtigffgjkakalfaaGreatDoor
open Go.ChangeShapes Go.WideShapes Go.ChangeAt Go.RowKit

section
variable {H : Type} {enc : TypeId × Value → H} {w : World} {base : Nat} {spare : Nat → Bool} {held : Bool}

theorem Tryz.cellsR : Tryz.prog.cellsOf 57 = 6 := by kernel_rfl
theorem Tryz.cellsM : Tryz.prog.cellsOf 24 = 5 := by kernel_rfl
theorem Tryz.cellsI : Tryz.prog.cellsOf 3 = 1 := by kernel_rfl

set_option maxRecDepth 100000 in
theorem rum_of_trod {fuel : Nat} {cs : List Value} {x : DataW H × List MemPlace} (h : DataW.trod enc Tryz.prog w base spare held fuel 57 cs = some x) :
    ∃ r : Rum, cs = r.cs ∧ r.m.name.size ≤ maxLen := by
  obtain ⟨xs, n, _, _, hl, hlen, hf⟩ := DataW.trod_struct Tryz.underlying57 h
  rw [Tryz.cellsR] at hl
  match cs, hl with
  | [c0, c1, c2, c3, c4, c5], _ =>
    match xs, hlen with
    | [y0, y1], _ =>
      have h0 := hf 0 _ rfl
      have h1 := hf 1 _ rfl
      simp [Tryz.cellsM] at h0
      simp [Tryz.cellsI] at h1
      obtain ⟨m, e0, hs⟩ := mem_of_trod h0
      obtain ⟨t, e1, _⟩ := DataW.trod_int Tryz.underlying3 h1
      simp only [List.cons.injEq, and_true] at e0 e1
      obtain ⟨rfl, rfl, rfl, rfl, rfl⟩ := e0
      subst e1
      exact ⟨⟨m, t⟩, rfl, hs⟩

set_option maxRecDepth 100000 in
theorem open_rs {r : Reach} {b0 : Nat} {v : Value} {d : DataW H} {p : List MemPlace} (hv : Value.okWide Tryz.prog w r b0 25 v) (h : DataW.Trod enc Tryz.prog w base spare held 25 v d p) :
    ∃ rs : List Rum, RSl w v rs ∧ rs.length ≤ maxLen := by
  obtain ⟨a, len, cap, rfl⟩ := okWide_slice Tryz.underlying25 hv
  obtain ⟨fuel, hf⟩ := h
  rcases Go.Deep.open_slice Tryz.underlying25 hf with ⟨hcs, _⟩ | ⟨x, l, c, m, n, D, Pl, hcs, hb, hl, hm, hmm, _, hx⟩
  · simp [Value.cells] at hcs
    obtain ⟨rfl, rfl, rfl⟩ := hcs
    exact ⟨[], ⟨none, 0, rfl, rns_get (by simp), .inl rfl⟩, by simp⟩
  · simp [Value.cells] at hcs
    obtain ⟨rfl, rfl, rfl⟩ := hcs
    have hlm : len ≤ m := by rw [hmm]; split <;> omega
    have hall : ∀ i, i < len → ∃ q : Rum, (∀ t, t < 6 → w.cell? (x.add (i * 6 + t)) = q.cs[t]?) ∧ q.m.name.size ≤ maxLen := fun i hi => by
      obtain ⟨cs', h1, h2⟩ := hx i (by omega)
      obtain ⟨q, hq, hs⟩ := rum_of_trod h2
      rw [Tryz.cellsR] at h1
      obtain ⟨_, _, h3⟩ := World.cells?_some h1
      refine ⟨q, fun t ht => ?_, hs⟩
      rw [← Go.Deep.add_add, h3 t ht, hq]
    have hinh : Inhabited Rum := ⟨dr⟩
    obtain ⟨F, hF⟩ := Go.Deep.choose_lt (α := Rum) (p := fun i q => (∀ t, t < 6 → w.cell? (x.add (i * 6 + t)) = q.cs[t]?) ∧ q.m.name.size ≤ maxLen) hall
    have hget : ∀ j, j < len → ((List.range len).map F).getD j dr = F j := fun j hj => by simp [List.getD, hj]
    refine ⟨(List.range len).map F, ⟨some x, cap, by simp, fun j => ?_, ?_⟩, by simp; omega⟩
    · by_cases hj : j < len
      · rw [hget j hj]; exact (hF j hj).2
      · simp [List.getD, hj, dr, dm]
    · by_cases h0 : len = 0
      · left; simp [h0]
      · right
        obtain ⟨b, off, spot⟩ := x
        have hc0 := (hF 0 (by omega)).1 0 (by omega)
        have hspot : spot = none := by simpa [Addr.add] using World.cell?_spot hc0
        subst hspot
        have hcell : ∀ j, j < len → ∀ t, t < 6 → w.cell? ⟨b, off + j * 6 + t, none⟩ = (F j).cs[t]? := fun j hj t ht => by
          have := (hF j hj).1 t ht
          rwa [Go.WideShapes.add_plain, ← Nat.add_assoc] at this
        refine ⟨b, off, rfl, World.block_lt_of_cell? w ⟨b, off + 0 * 6 + 0, none⟩ (hcell 0 (by omega) 0 (by omega)), fun j hj => ?_⟩
        have hj' : j < len := by simpa using hj
        rw [hget j hj']
        exact ⟨hcell j hj' 0 (by omega), hcell j hj' 1 (by omega), hcell j hj' 2 (by omega), hcell j hj' 3 (by omega), hcell j hj' 4 (by omega), hcell j hj' 5 (by omega)⟩

end
end Go.Proofs.YtigffgjkakalfaaGreatDoor

/- What RestLists is handed, and its bulk. -/
namespace Go.Proofs.YtigffgjkakalfaaGreatDoor
open Go.ChangeShapes Go.WideShapes Go.ChangeAt Go.RowKit

section
variable {H : Type} {enc : TypeId × Value → H} {w : World} {base : Nat} {spare : Nat → Bool} {held : Bool}

theorem bulk_pos (d : DataW H) : 1 ≤ Rows.uptoBulk d := by
  cases d with
  | lit l => cases l <;> simp [Rows.uptoBulk]
  | _ => simp [Rows.uptoBulk]
theorem bulk_len : ∀ l : List (DataW H), l.length ≤ Rows.uptoBulkAll l
  | [] => by simp
  | d :: r => by
    have h1 := bulk_pos d
    have h2 := bulk_len r
    simp only [Rows.uptoBulkAll, List.length_cons]
    omega
theorem slice_bulk {t e : TypeId} (ht : Tryz.prog.underlying t = some (.slice e)) {a : Option Addr} {len cap : Nat} {d : DataW H} {p : List MemPlace} (h : DataW.Trod enc Tryz.prog w base spare held t (.slice a len cap) d p) : len ≤ Rows.uptoBulk d := by
  obtain ⟨fuel, hf⟩ := h
  rcases Go.Deep.open_slice ht hf with ⟨hcs, _⟩ | ⟨x, l, c, m, n, D, Pl, hcs, _, _, _, _, hx, _⟩
  · simp [Value.cells] at hcs
    omega
  · simp [Value.cells] at hcs
    obtain ⟨_, rfl, _⟩ := hcs
    have hd : d = .slice ((List.range len).map D) ((List.range (m - len)).map fun j => D (len + j)) := (Prod.mk.inj hx).1
    have h1 := bulk_len ((List.range len).map D)
    rw [hd]
    simp only [Rows.uptoBulk]
    simp only [List.length_map, List.length_range] at h1
    omega
set_option maxRecDepth 100000 in
theorem open_mems_b {r : Reach} {b0 : Nat} {v : Value} {d : DataW H} {p : List MemPlace} (hv : Value.okWide Tryz.prog w r b0 22 v) (h : DataW.Trod enc Tryz.prog w base spare held 22 v d p) : ∃ ms : List Mem, Sl w v ms ∧ ms.length ≤ Rows.uptoBulk d := by
  obtain ⟨ms, hs, _⟩ := open_mems hv h
  have hs2 := hs
  obtain ⟨a, cap, rfl, _⟩ := hs2
  exact ⟨ms, hs, slice_bulk Tryz.underlying22 h⟩
set_option maxRecDepth 100000 in
theorem open_rs_b {r : Reach} {b0 : Nat} {v : Value} {d : DataW H} {p : List MemPlace} (hv : Value.okWide Tryz.prog w r b0 25 v) (h : DataW.Trod enc Tryz.prog w base spare held 25 v d p) : ∃ rs : List Rum, RSl w v rs ∧ rs.length ≤ Rows.uptoBulk d := by
  obtain ⟨ms, hs, _⟩ := open_rs hv h
  have hs2 := hs
  obtain ⟨a, cap, rfl, _⟩ := hs2
  exact ⟨ms, hs, slice_bulk Tryz.underlying25 h⟩

end
end Go.Proofs.YtigffgjkakalfaaGreatDoor

/- Contracts of the library, laid at this program. -/
namespace Go.Proofs
open Go.Shelf
def Tryz.laysM146_ren : Go.Shelf.Ren := ⟨fun | 146 => 124 | 221 => 141 | 268 => 148 | 138 => 121 | 143 => 140 | 195 => 138 | 197 => 153 | 218 => 139 | 219 => 147 | 260 => 156 | 217 => 149 | 225 => 150 | 224 => 151 | 267 => 152 | 266 => 154 | 314 => 155 | n => n, fun | 9 => 9 | 31 => 115 | 3 => 3 | 4 => 4 | 0 => 0 | 105 => 181 | 21 => 21 | 5 => 5 | 46 => 131 | 119 => 185 | 139 => 188 | 138 => 187 | 146 => 183 | 51 => 151 | n => n, fun | 1 => 0 | 3 => 1 | 4 => 2 | n => n⟩
theorem Tryz.laysM146 : Go.Proofs.LaysM.n146 Tryz.prog Tryz.laysM146_ren := {
  mixed := by kernel_rfl
  f138 := Tryz.func121.trans (congrArg some (by kernel_rfl))
  f143 := Tryz.func140.trans (congrArg some (by kernel_rfl))
  f146 := Tryz.func124.trans (congrArg some (by kernel_rfl))
  f195 := Tryz.func138.trans (congrArg some (by kernel_rfl))
  f197 := Tryz.func153.trans (congrArg some (by kernel_rfl))
  f217 := Tryz.func149.trans (congrArg some (by kernel_rfl))
  f218 := Tryz.func139.trans (congrArg some (by kernel_rfl))
  f219 := Tryz.func147.trans (congrArg some (by kernel_rfl))
  f221 := Tryz.func141.trans (congrArg some (by kernel_rfl))
  f224 := Tryz.func151.trans (congrArg some (by kernel_rfl))
  f225 := Tryz.func150.trans (congrArg some (by kernel_rfl))
  f260 := Tryz.func156.trans (congrArg some (by kernel_rfl))
  f266 := Tryz.func154.trans (congrArg some (by kernel_rfl))
  f267 := Tryz.func152.trans (congrArg some (by kernel_rfl))
  f268 := Tryz.func148.trans (congrArg some (by kernel_rfl))
  f314 := Tryz.func155.trans (congrArg some (by kernel_rfl))
  t0 := Tryz.underlying0
  a0 := Tryz.isAgg0
  z0 := Tryz.sizeOf0
  v0 := Tryz.zeroValue0
  t3 := Tryz.underlying3
  a3 := Tryz.isAgg3
  z3 := Tryz.sizeOf3
  v3 := Tryz.zeroValue3
  t4 := Tryz.underlying4
  a4 := Tryz.isAgg4
  z4 := Tryz.sizeOf4
  v4 := Tryz.zeroValue4
  t5 := Tryz.underlying5
  a5 := Tryz.isAgg5
  z5 := Tryz.sizeOf5
  v5 := Tryz.zeroValue5
  t9 := Tryz.underlying9
  a9 := Tryz.isAgg9
  z9 := Tryz.sizeOf9
  v9 := Tryz.zeroValue9
  t21 := Tryz.underlying21
  a21 := Tryz.isAgg21
  z21 := Tryz.sizeOf21
  v21 := Tryz.zeroValue21
  t31 := Tryz.underlying115
  a31 := Tryz.isAgg115
  z31 := Tryz.sizeOf115
  v31 := Tryz.zeroValue115
  t46 := Tryz.underlying131
  a46 := Tryz.isAgg131
  z46 := Tryz.sizeOf131
  v46 := Tryz.zeroValue131
  t51 := Tryz.underlying151
  a51 := Tryz.isAgg151
  z51 := Tryz.sizeOf151
  v51 := Tryz.zeroValue151
  t105 := Tryz.underlying181
  a105 := Tryz.isAgg181
  z105 := Tryz.sizeOf181
  v105 := Tryz.zeroValue181
  t119 := Tryz.underlying185
  a119 := Tryz.isAgg185
  z119 := Tryz.sizeOf185
  t138 := Tryz.underlying187
  a138 := Tryz.isAgg187
  z138 := Tryz.sizeOf187
  v138 := Tryz.zeroValue187
  t139 := Tryz.underlying188
  a139 := Tryz.isAgg188
  z139 := Tryz.sizeOf188
  v139 := Tryz.zeroValue188
  t146 := Tryz.underlying183
  a146 := Tryz.isAgg183
  z146 := Tryz.sizeOf183
  v146 := Tryz.zeroValue183
  g1 := by kernel_rfl
  g3 := by kernel_rfl
  g4 := by kernel_rfl
  i0 := by kernel_rfl
  i3 := by kernel_rfl
  i4 := by kernel_rfl
  i5 := by kernel_rfl
  i9 := by kernel_rfl
  i21 := by kernel_rfl
  i31 := by kernel_rfl
  i46 := by kernel_rfl
  i51 := by kernel_rfl
  i105 := by kernel_rfl
  i138 := by kernel_rfl
  i139 := by kernel_rfl
  i146 := by kernel_rfl
  m1 := by kernel_rfl
  s1_3 := fun w h => Go.Proofs.cell_of_shapedOpen_int (zero := #[.int .i64 0]) (t := 3) h (of_decide_eq_true (by kernel_rfl)) (by kernel_rfl) rfl (by kernel_rfl) (by kernel_rfl) Tryz.underlying3
  m3 := by kernel_rfl
  m4 := by kernel_rfl }
open Go.RowKit Go.Lib in
theorem Tryz.strings_Split_shaped (s sep : ByteArray) (w : World) (h : w.ShapedOpen Tryz.prog) (hs : s.size < 4294967281) (h1 : 1 ≤ sep.size) :
    Calls Tryz.prog 124 #[.string s, .string sep] w fun e w' =>
      e = .returned (.slice (some ⟨w.heap.size, 0, none⟩) (Lib.countB s sep + 1) (Lib.countB s sep + 1)) ∧ w' = w.alloc (.cells ((Lib.splitB sep 0 (Lib.countB s sep) s).map Value.string).toArray 9) := Any.strings_Split_shaped Tryz.laysM146 s sep w h hs h1
end Go.Proofs

/- MaxLen's cell, in a world that is as worlds are. -/
namespace Go.Proofs.YtigffgjkakalfaaGreatDoor
open Go.ChangeShapes Go.WideShapes Go.ChangeAt Go.RowKit

theorem ml_of {W : World} (h : W.ShapedOpen Tryz.prog) : ML W := by
  obtain ⟨m, hm⟩ := Tryz.laysM146.s1_3 W h
  have hm2 : W.cell? ⟨0, 0, none⟩ = some (.int .i64 m) := hm
  exact ⟨World.block_lt_of_cell? W ⟨0, 0, none⟩ hm2, m, hm2⟩

end Go.Proofs.YtigffgjkakalfaaGreatDoor

