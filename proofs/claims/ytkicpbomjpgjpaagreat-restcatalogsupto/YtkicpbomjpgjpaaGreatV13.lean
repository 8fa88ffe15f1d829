/- RC1, SK8, SKS1 -/
import Derived.Test.YtkicpbomjpgjpaaGreatV1
import Derived.Test.YtkicpbomjpgjpaaGreatV7
import Derived.Test.YtkicpbomjpgjpaaGreatV9
import Derived.Test.YtkicpbomjpgjpaaGreatV12
import Derived.Test.YtkicpbomjpgjpaaGreatV6
/- RestCatalogs: the copies of what is handed in. -/
namespace Go.Proofs.YtkicpbomjpgjpaaGreat
open Go.RowKit

theorem copiedT {ss : List ByteArray} {w w1 : World} {pa : Option Addr} {m c : Nat} (h : TSl w (.slice pa m c) ss) (hb : Below w.heap.size w w1) (o : Obj) : (pa = none → m = 0) ∧ ∀ ad, pa = some ad → ∀ j u, (ss.map Value.string)[j]? = some u → (w1.alloc o).cell? (ad.add j) = some u := by
  obtain ⟨a, cap, he, hs, h⟩ := h
  simp only [Value.slice.injEq] at he
  obtain ⟨rfl, rfl, rfl⟩ := he
  refine ⟨fun e => ?_, fun ad e j u hj => ?_⟩
  · subst e
    rcases h with h | ⟨b, off, h, _⟩
    · rw [h]; rfl
    · cases h
  · subst e
    rcases h with h | ⟨b, off, h, hlt, hr⟩
    · subst h; simp at hj
    · cases h
      have hlt1 : b < w1.heap.size := Nat.lt_of_lt_of_le hlt hb.size
      rw [Addr.add_lit, World.cell?_alloc_past (w := w1) _ b _ hlt1, hb.cell (p := ⟨b, off + j, none⟩) hlt]
      have hjl : j < ss.length := by
        have := (List.getElem?_eq_some_iff.1 hj).1
        simpa using this
      rw [hr j hjl]
      rw [List.getElem?_map, List.getElem?_eq_getElem hjl] at hj
      rw [show ss.getD j ByteArray.empty = ss[j] by simp [List.getD, List.getElem?_eq_getElem hjl]]
      exact hj
theorem txts_one (ss : List ByteArray) : ∀ u ∈ ss.map Value.string, u.oneCell' = true := by
  intro u hu
  obtain ⟨x, _, rfl⟩ := List.mem_map.1 hu
  rfl
theorem Tryz.infoSvC : (Tryz.prog.info? 24).map (fun i => (i.zero, i.size, i.bytes)) = some (some (.agg #[.string ⟨#[]⟩, .string ⟨#[]⟩, .string ⟨#[]⟩, .string ⟨#[]⟩, .int .i64 0, .int .i64 0, .bool false, .int .i64 0, .bool false]), 9, 104) := by kernel_rfl
theorem Tryz.infoGwC : (Tryz.prog.info? 62).map (fun i => (i.zero, i.size, i.bytes)) = some (some (.agg #[.string ⟨#[]⟩, .int .i64 0, .int .i64 0]), 3, 32) := by kernel_rfl
theorem Tryz.infoTxC : (Tryz.prog.info? 9).map (fun i => (i.zero, i.size, i.bytes)) = some (some (.string ⟨#[]⟩), 1, 16) := by kernel_rfl

set_option maxHeartbeats 3200000 in
set_option maxRecDepth 1000000 in
theorem rc3 {u1 u4 u5 u6 u7 u8 u9 u10 u11 u12 u13 u14 u15 u16 u17 u18 u19 u20 u21 u22 u23 u24 u25 u26 u27 u28 u29 u30 u31 u32 u33 u34 u35 u36 u37 u38 u39 u40 u41 u42 u43 u44 u45 u46 u47 u48 u49 u50 u51 u52 u53 u54 u55 u56 u57 u58 u59 u60 u61 u62 u63 u64 u65 u66 u67 u68 u69 u70 u71 u72 u73 u74 u75 u76 u77 u78 u79 u80 u81 u82 u83 u84 u85 u86 u87 u88 u89 u90 u91 u92 u93 u94 u95 u96 u97 u98 u99 u100 u101 u102 u103 u104 u105 u106 u107 u108 u109 u110 u111 u112 u113 u114 u115 u116 u117 u118 u119 u120 u121 u122 u123 u124 u125 u126 u127 u128 u129 u130 u131 u132 u133 u134 u135 u136 u137 u138 u139 u140 u141 u142 u143 u144 u145 u146 u147 u148 u149 u150 u151 u152 u153 u154 u155 u156 u157 u158 u159 u160 u161 u162 u163 u164 u165 u166 u167 u168 u169 u170 u171 u172 u173 u174 u175 u176 u177 u178 u179 u180 u181 u182 u183 u184 u185 u186 u187 u188 u189 u190 u191 : Value} (w : World) (ms : List Sv.Svc) (gs : List Gw.Gwy) (ns : List ByteArray) (pl pg pn : Option Addr) (cl cg cn : Nat) (hl : Sv.Sl w (.slice pl ms.length cl) ms) (hg : Gw.Sl w (.slice pg gs.length cg) gs) (ht : TSl w (.slice pn ns.length cn) ns) (hn : ms.length ≤ 2000000) (hgn : gs.length ≤ 2000000) (hnn : ns.length ≤ 2000000) (Q : Exit → Act → World → Prop)
    (hN : ∀ (y39 y40 y41 y42 y43 y44 y45 y46 y47 : Value) (p1 p2 p3 : Option Addr) (c1 c2 c3 : Nat) (wx : World), Hid (Sv.Own w.heap.size wx (.slice p1 ms.length c1) ms) → Hid (Gw.Own w.heap.size wx (.slice p2 gs.length c2) gs) → Hid (OwnS w.heap.size wx (.slice p3 ns.length c3) ns) → Hid (Below w.heap.size w wx) → Q .normal ⟨#[.slice pl ms.length cl, u1, .slice pg gs.length cg, .slice pn ns.length cn, u4, u5, u6, u7, u8, .slice p1 ms.length c1, .slice p2 gs.length c2, .slice p3 ns.length c3, u12, u13, u14, u15, u16, u17, u18, u19, u20, u21, u22, u23, u24, u25, u26, u27, u28, u29, u30, u31, u32, u33, u34, u35, u36, u37, u38, y39, y40, y41, y42, y43, y44, y45, y46, y47, u48, u49, u50, u51, u52, u53, u54, u55, u56, u57, u58, u59, u60, u61, u62, u63, u64, u65, u66, u67, u68, u69, u70, u71, u72, u73, u74, u75, u76, u77, u78, u79, u80, u81, u82, u83, u84, u85, u86, u87, u88, u89, u90, u91, u92, u93, u94, u95, u96, u97, u98, u99, u100, u101, u102, u103, u104, u105, u106, u107, u108, u109, u110, u111, u112, u113, u114, u115, u116, u117, u118, u119, u120, u121, u122, u123, u124, u125, u126, u127, u128, u129, u130, u131, u132, u133, u134, u135, u136, u137, u138, u139, u140, u141, u142, u143, u144, u145, u146, u147, u148, u149, u150, u151, u152, u153, u154, u155, u156, u157, u158, u159, u160, u161, u162, u163, u164, u165, u166, u167, u168, u169, u170, u171, u172, u173, u174, u175, u176, u177, u178, u179, u180, u181, u182, u183, u184, u185, u186, u187, u188, u189, u190, u191], []⟩ wx) :
    Code.wp Tryz.prog ((Tryz.f3.body.bind (regIn 3)).getD .skip) Q ⟨#[.slice pl ms.length cl, u1, .slice pg gs.length cg, .slice pn ns.length cn, u4, u5, u6, u7, u8, u9, u10, u11, u12, u13, u14, u15, u16, u17, u18, u19, u20, u21, u22, u23, u24, u25, u26, u27, u28, u29, u30, u31, u32, u33, u34, u35, u36, u37, u38, u39, u40, u41, u42, u43, u44, u45, u46, u47, u48, u49, u50, u51, u52, u53, u54, u55, u56, u57, u58, u59, u60, u61, u62, u63, u64, u65, u66, u67, u68, u69, u70, u71, u72, u73, u74, u75, u76, u77, u78, u79, u80, u81, u82, u83, u84, u85, u86, u87, u88, u89, u90, u91, u92, u93, u94, u95, u96, u97, u98, u99, u100, u101, u102, u103, u104, u105, u106, u107, u108, u109, u110, u111, u112, u113, u114, u115, u116, u117, u118, u119, u120, u121, u122, u123, u124, u125, u126, u127, u128, u129, u130, u131, u132, u133, u134, u135, u136, u137, u138, u139, u140, u141, u142, u143, u144, u145, u146, u147, u148, u149, u150, u151, u152, u153, u154, u155, u156, u157, u158, u159, u160, u161, u162, u163, u164, u165, u166, u167, u168, u169, u170, u171, u172, u173, u174, u175, u176, u177, u178, u179, u180, u181, u182, u183, u184, u185, u186, u187, u188, u189, u190, u191], []⟩ w := by
  conv => arg 2; whnf
  have HQN : Hid _ := hN
  clear hN
  obtain ⟨i0, hi0, hz0, hzs, hzb⟩ := info_parts Tryz.infoSvC
  obtain ⟨j0, hj0, hy0, hys, hyb⟩ := info_parts Tryz.infoGwC
  obtain ⟨k0, hk0, hx0, hxs, hxb⟩ := info_parts Tryz.infoTxC
  have HL : Hid (Sv.Sl w (.slice pl ms.length cl) ms) := hl
  have HG : Hid (Gw.Sl w (.slice pg gs.length cg) gs) := hg
  have HT : Hid (TSl w (.slice pn ns.length cn) ns) := ht
  have HO : Hid ((w.alloc (.cells #[] 24)).ownsRow w.heap.size 24 9 (.slice (some ⟨w.heap.size, 0, none⟩) 0 0) 0 []) := World.ownsRow_made w #[] 0 (Nat.le_refl _) (by unfold maxLen; omega) rfl
  have HC : Hid ((pl = none → ms.length = 0) ∧ ∀ ad, pl = some ad → ∀ j u, (Sv.fl ms)[j]? = some u → (w.alloc (.cells #[] 24)).cell? (ad.add j) = some u) := Sv.copied HL.out (Below.refl _ _) _
  clear hl hg ht
  go_wp2_with (at_builtin; refine wpList_copy rfl _ _ 22 rfl w.heap.size 24 i0 _ 9 104 Tryz.underlying22 hi0 hz0 hzs hzb rfl (by omega) w.heap.size rfl HO.out pl ms.length cl (Sv.fl ms) rfl (Sv.fl_len ms) HC.out.1 HC.out.2 (Sv.fl_one ms) (by unfold maxLen; omega) (by omega) (by first | omega | simp) ?_)
  intro v1 w1 r1 r2
  have HO1 : Hid (Sv.Own w.heap.size w1 v1 ms) := r1
  have HB1 : Hid (Below w.heap.size w w1) := ((Below.refl w.heap.size w).alloc (Nat.le_refl _) _).trans r2
  obtain ⟨p1, c1, hv1⟩ : ∃ p c, v1 = .slice p ms.length c := by
    rcases HO1.out.2 with ⟨hv, h0⟩ | ⟨_, c, _, hv, _⟩
    · exact ⟨none, 0, by rw [hv, h0]⟩
    · exact ⟨_, c, hv⟩
  subst hv1
  have hz1 := HB1.out.size
  clear r1 r2 HO HC
  have HOg : Hid ((w1.alloc (.cells #[] 62)).ownsRow w1.heap.size 62 3 (.slice (some ⟨w1.heap.size, 0, none⟩) 0 0) 0 []) := World.ownsRow_made w1 #[] 0 (Nat.le_refl _) (by unfold maxLen; omega) rfl
  have HCg : Hid ((pg = none → gs.length = 0) ∧ ∀ ad, pg = some ad → ∀ j u, (Gw.fl gs)[j]? = some u → (w1.alloc (.cells #[] 62)).cell? (ad.add j) = some u) := Gw.copied HG.out HB1.out _
  go_wp2_with (at_builtin; refine wpList_copy rfl _ _ 25 rfl w1.heap.size 62 j0 _ 3 32 Tryz.underlying25 hj0 hy0 hys hyb rfl (by omega) w1.heap.size rfl HOg.out pg gs.length cg (Gw.fl gs) rfl (Gw.fl_len gs) HCg.out.1 HCg.out.2 (Gw.fl_one gs) (by unfold maxLen; omega) (by omega) (by first | omega | simp) ?_)
  intro v2 w2 r1 r2
  have HO2 : Hid (Gw.Own w1.heap.size w2 v2 gs) := r1
  have hb2 : Below w1.heap.size w1 w2 := ((Below.refl w1.heap.size w1).alloc (Nat.le_refl _) _).trans r2
  have HB2 : Hid (Below w.heap.size w w2) := HB1.out.trans (hb2.mono hz1)
  have HP1 : Hid (Sv.Own w.heap.size w2 (.slice p1 ms.length c1) ms) := HO1.out.below hb2
  obtain ⟨p2, c2, hv2⟩ : ∃ p c, v2 = .slice p gs.length c := by
    rcases HO2.out.2 with ⟨hv, h0⟩ | ⟨_, c, _, hv, _⟩
    · exact ⟨none, 0, by rw [hv, h0]⟩
    · exact ⟨_, c, hv⟩
  subst hv2
  have hz2 := hb2.size
  clear r1 r2 HOg HCg HO1 hb2
  have HOt : Hid ((w2.alloc (.cells #[] 9)).ownsRow w2.heap.size 9 1 (.slice (some ⟨w2.heap.size, 0, none⟩) 0 0) 0 []) := World.ownsRow_made w2 #[] 0 (Nat.le_refl _) (by unfold maxLen; omega) rfl
  have HCt : Hid ((pn = none → ns.length = 0) ∧ ∀ ad, pn = some ad → ∀ j u, (ns.map Value.string)[j]? = some u → (w2.alloc (.cells #[] 9)).cell? (ad.add j) = some u) := copiedT HT.out HB2.out _
  go_wp2_with (at_builtin; refine wpList_copy rfl _ _ 26 rfl w2.heap.size 9 k0 _ 1 16 Tryz.underlying26 hk0 hx0 hxs hxb rfl (by omega) w2.heap.size rfl HOt.out pn ns.length cn (ns.map Value.string) rfl (by simp) HCt.out.1 HCt.out.2 (txts_one ns) (by unfold maxLen; omega) (by omega) (by first | omega | simp) ?_)
  intro v3 w3 r1 r2
  have HO3 : Hid (OwnS w2.heap.size w3 v3 ns) := r1
  have hb3 : Below w2.heap.size w2 w3 := ((Below.refl w2.heap.size w2).alloc (Nat.le_refl _) _).trans r2
  have HB3 : Hid (Below w.heap.size w w3) := HB2.out.trans (hb3.mono (by omega))
  have HP3 : Hid (Sv.Own w.heap.size w3 (.slice p1 ms.length c1) ms) := HP1.out.below hb3
  have HG3 : Hid (Gw.Own w.heap.size w3 (.slice p2 gs.length c2) gs) := (HO2.out.below hb3).mono hz1
  obtain ⟨p3, c3, hv3⟩ : ∃ p c, v3 = .slice p ns.length c := by
    rcases HO3.out.2 with ⟨hv, h0⟩ | ⟨_, c, _, hv, _⟩
    · exact ⟨none, 0, by rw [hv, h0]⟩
    · exact ⟨_, c, hv⟩
  subst hv3
  have HT3 : Hid (OwnS w.heap.size w3 (.slice p3 ns.length c3) ns) := (show OwnS _ _ _ _ by
    rcases HO3.out.2 with ⟨hv, h0⟩ | ⟨g, c, cur, hv, hbg, hr⟩
    · exact ⟨HO3.out.1, .inl ⟨hv, h0⟩⟩
    · exact ⟨HO3.out.1, .inr ⟨g, c, cur, hv, by omega, hr⟩⟩)
  clear r1 r2 HOt HCt hb3
  go_wp2_with fail
  exact HQN.out _ _ _ _ _ _ _ _ _ _ _ _ _ _ _ _ HP3 HG3 HT3 HB3

end Go.Proofs.YtkicpbomjpgjpaaGreat

/- services: find. -/
namespace Go.Proofs.YtkicpbomjpgjpaaGreat
namespace Sv
open Go.RowKit

/-- What find tells. -/
def fnd (ms : List Svc) (p : Nat) (f : Bool) : Svc := if f = true then ms.getD p dm else dm

set_option maxHeartbeats 1600000 in
theorem find2_any (ms : List Svc) (v : Value) (node idn : ByteArray) (w : World) (h : Sl w v ms) (hn : ms.length ≤ 40) (hr : Rise ms) :
    Calls Tryz.prog 27 #[v, .string node, .string idn] w fun e w' => ∃ (p : Nat) (f : Bool), e = .returned (.tuple #[.agg #[.string (fnd ms p f).node, .string (fnd ms p f).idn, .string (fnd ms p f).name, .string (fnd ms p f).tag, .int .i64 (fnd ms p f).addr, .int .i64 (fnd ms p f).port, .bool (fnd ms p f).passing, .int .i64 (fnd ms p f).version, .bool (fnd ms p f).gone], .bool f]) ∧ Below w.heap.size w w' ∧ At ms ⟨node, idn, ⟨#[]⟩, ⟨#[]⟩, 0, 0, false, 0, false⟩ p f := by
  obtain ⟨W0, hW0⟩ : ∃ W0, W0 = w.alloc (.cells #[.string ⟨#[]⟩, .string ⟨#[]⟩, .string ⟨#[]⟩, .string ⟨#[]⟩, .int .i64 0, .int .i64 0, .bool false, .int .i64 0, .bool false] 24) := ⟨_, rfl⟩
  have hb0 : Below w.heap.size w W0 := by rw [hW0]; exact (Below.refl _ _).alloc (Nat.le_refl _) _
  have hs0 : W0.heap.size = w.heap.size + 1 := by rw [hW0]; simp
  have hg0 : W0.heap[w.heap.size]? = some (.cells #[.string ⟨#[]⟩, .string ⟨#[]⟩, .string ⟨#[]⟩, .string ⟨#[]⟩, .int .i64 0, .int .i64 0, .bool false, .int .i64 0, .bool false] 24 (0, 0)) := by rw [hW0]; exact heap_alloc_new w _
  have HV : Hid (Sl W0 v ms) := h.below hb0
  have HF : Hid (Calls Tryz.prog 59 #[v, .agg #[.string node, .string idn, .string ⟨#[]⟩, .string ⟨#[]⟩, .int .i64 0, .int .i64 0, .bool false, .int .i64 0, .bool false], .func (.func 58) #[] #[]] W0 fun e w' => ∃ (p : Nat) (f : Bool), e = .returned (.tuple #[.int .i64 p, .bool f]) ∧ Below W0.heap.size W0 w' ∧ At ms ⟨node, idn, ⟨#[]⟩, ⟨#[]⟩, 0, 0, false, 0, false⟩ p f) :=
    find_any ms v ⟨node, idn, ⟨#[]⟩, ⟨#[]⟩, 0, 0, false, 0, false⟩ W0 HV.out (by omega) hr
  have HW0 : Hid (W0 = w.alloc (.cells #[.string ⟨#[]⟩, .string ⟨#[]⟩, .string ⟨#[]⟩, .string ⟨#[]⟩, .int .i64 0, .int .i64 0, .bool false, .int .i64 0, .bool false] 24)) := hW0
  clear hW0 h hr
  go_enter Tryz.func27, Tryz.ntmps27
  go_wp2_with fail
  rw [← HW0.out]
  refine HF.out.mono ?_
  rintro e w1 ⟨p, f, rfl, hb1, hat⟩
  have HAT : Hid (At ms ⟨node, idn, ⟨#[]⟩, ⟨#[]⟩, 0, 0, false, 0, false⟩ p f) := hat
  have HV1 : Hid (Sl w1 v ms) := HV.out.below hb1
  have hs1 := hb1.size
  have HB1 : Hid (Below w.heap.size w w1) := hb0.trans (hb1.mono (by omega))
  have hg1 : w1.heap[w.heap.size]? = some (.cells #[.string ⟨#[]⟩, .string ⟨#[]⟩, .string ⟨#[]⟩, .string ⟨#[]⟩, .int .i64 0, .int .i64 0, .bool false, .int .i64 0, .bool false] 24 (0, 0)) := (hb1.block w.heap.size (by omega)).trans hg0
  have t0 : w1.cell? ⟨w.heap.size, 0, none⟩ = some (.string ⟨#[]⟩) := cellsAt hg1 0
  have t1 : w1.cell? ⟨w.heap.size, 1, none⟩ = some (.string ⟨#[]⟩) := cellsAt hg1 1
  have t2 : w1.cell? ⟨w.heap.size, 2, none⟩ = some (.string ⟨#[]⟩) := cellsAt hg1 2
  have t3 : w1.cell? ⟨w.heap.size, 3, none⟩ = some (.string ⟨#[]⟩) := cellsAt hg1 3
  have t4 : w1.cell? ⟨w.heap.size, 4, none⟩ = some (.int .i64 0) := cellsAt hg1 4
  have t5 : w1.cell? ⟨w.heap.size, 5, none⟩ = some (.int .i64 0) := cellsAt hg1 5
  have t6 : w1.cell? ⟨w.heap.size, 6, none⟩ = some (.bool false) := cellsAt hg1 6
  have t7 : w1.cell? ⟨w.heap.size, 7, none⟩ = some (.int .i64 0) := cellsAt hg1 7
  have t8 : w1.cell? ⟨w.heap.size, 8, none⟩ = some (.bool false) := cellsAt hg1 8
  have hfz : ∀ o, w1.frozen? ⟨w.heap.size, o, none⟩ = false := fun o => by simp [World.frozen?, hg1]
  have hlt : w.heap.size < w1.heap.size := by omega
  clear hat HF HV hg0 hg1 hb0 hb1 HW0 hs0 hs1
  cases f
  · go_wp2_with fail
    exact bodyPost_ret (v := .tuple #[.agg #[.string ⟨#[]⟩, .string ⟨#[]⟩, .string ⟨#[]⟩, .string ⟨#[]⟩, .int .i64 0, .int .i64 0, .bool false, .int .i64 0, .bool false], .bool false]) (by simp [results, Tryz.results27, go_sem, t0, t1, t2, t3, t4, t5, t6, t7, t8]) rfl ⟨p, false, rfl, (((((((((HB1.out.setCell (p := ⟨w.heap.size, 0, none⟩) (Nat.le_refl _) _).setCell (p := ⟨w.heap.size, 1, none⟩) (Nat.le_refl _) _).setCell (p := ⟨w.heap.size, 2, none⟩) (Nat.le_refl _) _).setCell (p := ⟨w.heap.size, 3, none⟩) (Nat.le_refl _) _).setCell (p := ⟨w.heap.size, 4, none⟩) (Nat.le_refl _) _).setCell (p := ⟨w.heap.size, 5, none⟩) (Nat.le_refl _) _).setCell (p := ⟨w.heap.size, 6, none⟩) (Nat.le_refl _) _).setCell (p := ⟨w.heap.size, 7, none⟩) (Nat.le_refl _) _).setCell (p := ⟨w.heap.size, 8, none⟩) (Nat.le_refl _) _), HAT.out⟩
  · have hp : p < ms.length := (HAT.out.is.1 rfl).1
    obtain ⟨a, cap, rfl, _, hsl⟩ := HV1.out
    obtain ⟨b, off, hab, hgb, hrow⟩ : ∃ b off, a = some ⟨b, off, none⟩ ∧ b < w1.heap.size ∧ Row w1 b off ms := by
      rcases hsl with h | h
      · rw [h] at hp; simp at hp
      · exact h
    subst hab
    obtain ⟨c0, c1, c2, c3, c4, c5, c6, c7, c8⟩ := hrow p hp
    clear hrow hsl HV1
    generalize hm : ms.getD p dm = m at *
    have HM : Hid (fnd ms p true = m) := by show fnd ms p true = m; rw [fnd, if_pos rfl, hm]
    clear hm
    go_wp2_with fail
    exact bodyPost_ret (v := .tuple #[.agg #[.string m.node, .string m.idn, .string m.name, .string m.tag, .int .i64 m.addr, .int .i64 m.port, .bool m.passing, .int .i64 m.version, .bool m.gone], .bool true]) (by simp [results, Tryz.results27, go_sem, t0, t1, t2, t3, t4, t5, t6, t7, t8]) rfl ⟨p, true, by rw [HM.out], (((((((((HB1.out.setCell (p := ⟨w.heap.size, 0, none⟩) (Nat.le_refl _) _).setCell (p := ⟨w.heap.size, 1, none⟩) (Nat.le_refl _) _).setCell (p := ⟨w.heap.size, 2, none⟩) (Nat.le_refl _) _).setCell (p := ⟨w.heap.size, 3, none⟩) (Nat.le_refl _) _).setCell (p := ⟨w.heap.size, 4, none⟩) (Nat.le_refl _) _).setCell (p := ⟨w.heap.size, 5, none⟩) (Nat.le_refl _) _).setCell (p := ⟨w.heap.size, 6, none⟩) (Nat.le_refl _) _).setCell (p := ⟨w.heap.size, 7, none⟩) (Nat.le_refl _) _).setCell (p := ⟨w.heap.size, 8, none⟩) (Nat.le_refl _) _), HAT.out⟩

end Sv
end Go.Proofs.YtkicpbomjpgjpaaGreat

/- Register and Find; what must be in any case of services. -/
namespace Go.Proofs.YtkicpbomjpgjpaaGreat
namespace Sv
open Go.RowKit

theorem e_zero {m : Svc} (h : m.e = 0) : labB m.node = true ∧ labB m.idn = true ∧ labB m.name = true ∧ tagB m.tag = true ∧ 1 ≤ m.version ∧ m.version ≤ 1000000 := by
  unfold Svc.e at h
  split at h
  · rename_i h1
    split at h
    · rename_i h2
      simp [within] at h1 h2
      exact ⟨h1.1, h1.2.1, h1.2.2.1, h1.2.2.2, h2.2.2.1, h2.2.2.2⟩
    · omega
  · omega
theorem e_at {ms : List Svc} (h : firstE ms = 0) (p : Nat) (hp : p < ms.length) : (ms.getD p dm).e = 0 := by
  have := firstE_mem ms h ms[p] (List.getElem_mem hp)
  simpa [List.getD, List.getElem?_eq_getElem hp] using this
theorem fnd_ver {ms : List Svc} {t : Svc} (h : firstE ms = 0) {p : Nat} {f : Bool} (hat : At ms t p f) : 0 ≤ (fnd ms p f).version ∧ (fnd ms p f).version ≤ 1000000 := by
  cases f
  · exact ⟨by show (0 : Int) ≤ 0; omega, by show (0 : Int) ≤ 1000000; omega⟩
  · have := (e_zero (e_at h p (hat.is.1 rfl).1)).2.2.2.2
    rw [fnd, if_pos rfl]
    omega

set_option maxHeartbeats 400000 in
theorem aloneE_any (m : Svc) (w : World) :
    Calls Tryz.prog 61 #[.agg #[.string m.node, .string m.idn, .string m.name, .string m.tag, .int .i64 m.addr, .int .i64 m.port, .bool m.passing, .int .i64 m.version, .bool m.gone]] w fun e w' => e = .returned (.slice (some ⟨w.heap.size + 1, 0, none⟩) 1 1) ∧ w' = (w.alloc (.cells #[.string m.node, .string m.idn, .string m.name, .string m.tag, .int .i64 m.addr, .int .i64 m.port, .bool m.passing, .int .i64 m.version, .bool m.gone] 24)).alloc (.cells #[.string m.node, .string m.idn, .string m.name, .string m.tag, .int .i64 m.addr, .int .i64 m.port, .bool m.passing, .int .i64 m.version, .bool m.gone] 24) := by
  go_enter Tryz.func61, Tryz.ntmps61
  go_wp2
  go_ret
  exact ⟨rfl, rfl⟩

set_option maxHeartbeats 1600000 in
theorem replace_any (ms : List Svc) (v : Value) (m : Svc) (w : World) (hv : Sl w v ms) (hm : m.ok) :
    Calls Tryz.prog 28 #[v, .agg #[.string m.node, .string m.idn, .string m.name, .string m.tag, .int .i64 m.addr, .int .i64 m.port, .bool m.passing, .int .i64 m.version, .bool m.gone]] w fun e w' => ∃ v', e = .returned (.tuple #[v', .int .i64 (joinE ms [m])]) ∧ Below w.heap.size w w' ∧
      (joinE ms [m] ≠ 0 → v' = .slice none 0 0) ∧ (joinE ms [m] = 0 → Own w.heap.size w' v' (joinL ms [m])) := by
  have HV : Hid (Sl w v ms) := hv
  have HM : Hid m.ok := hm
  obtain ⟨pa, ca, rfl, _, _⟩ := hv
  obtain ⟨W, hW⟩ : ∃ W, W = ((w.alloc (.cells #[.string m.node, .string m.idn, .string m.name, .string m.tag, .int .i64 m.addr, .int .i64 m.port, .bool m.passing, .int .i64 m.version, .bool m.gone] 24)).alloc (.cells #[.string m.node, .string m.idn, .string m.name, .string m.tag, .int .i64 m.addr, .int .i64 m.port, .bool m.passing, .int .i64 m.version, .bool m.gone] 24)).alloc (.cells #[.string m.node, .string m.idn, .string m.name, .string m.tag, .int .i64 m.addr, .int .i64 m.port, .bool m.passing, .int .i64 m.version, .bool m.gone] 24) := ⟨_, rfl⟩
  have hbW : Below w.heap.size w W := by rw [hW]; exact (((Below.refl _ _).alloc (Nat.le_refl _) _).alloc (by simp) _).alloc (by simp; omega) _
  have hsW : W.heap.size = w.heap.size + 1 + 1 + 1 := by rw [hW]; simp
  have hgW : W.heap[w.heap.size + 1 + 1]? = some (.cells #[.string m.node, .string m.idn, .string m.name, .string m.tag, .int .i64 m.addr, .int .i64 m.port, .bool m.passing, .int .i64 m.version, .bool m.gone] 24 (0, 0)) := by
    have h := heap_alloc_new ((w.alloc (.cells #[.string m.node, .string m.idn, .string m.name, .string m.tag, .int .i64 m.addr, .int .i64 m.port, .bool m.passing, .int .i64 m.version, .bool m.gone] 24)).alloc (.cells #[.string m.node, .string m.idn, .string m.name, .string m.tag, .int .i64 m.addr, .int .i64 m.port, .bool m.passing, .int .i64 m.version, .bool m.gone] 24)) (.cells #[.string m.node, .string m.idn, .string m.name, .string m.tag, .int .i64 m.addr, .int .i64 m.port, .bool m.passing, .int .i64 m.version, .bool m.gone] 24)
    rw [hW]; simpa using h
  have HW : Hid (W = ((w.alloc (.cells #[.string m.node, .string m.idn, .string m.name, .string m.tag, .int .i64 m.addr, .int .i64 m.port, .bool m.passing, .int .i64 m.version, .bool m.gone] 24)).alloc (.cells #[.string m.node, .string m.idn, .string m.name, .string m.tag, .int .i64 m.addr, .int .i64 m.port, .bool m.passing, .int .i64 m.version, .bool m.gone] 24)).alloc (.cells #[.string m.node, .string m.idn, .string m.name, .string m.tag, .int .i64 m.addr, .int .i64 m.port, .bool m.passing, .int .i64 m.version, .bool m.gone] 24)) := hW
  clear hW hm
  go_enter Tryz.func28, Tryz.ntmps28
  go_wp2_with (go_at_call 61; refine (aloneE_any m _).mono ?_; rintro e w' ⟨rfl, rfl⟩)
  rw [← HW.out]
  refine (join_any ms [m] (.slice pa ms.length ca) (.slice (some ⟨w.heap.size + 1 + 1, 0, none⟩) 1 1) _ _ _ ?ha ?hb ?hpb ?hc0 ?hc1).mono ?_
  case ha => exact HV.out.below (hbW.alloc hbW.size _)
  case hb => exact sl_one _ _ _ m HM.out ((Below.heap_alloc _ _ _ (by omega)).trans hgW)
  case hpb => simp; omega
  case hc0 => exact (cell_topL (by omega)).trans rfl
  case hc1 => exact (cell_topL (by omega)).trans rfl
  rintro e w3 ⟨v', rfl, hb3, hbad, hgood⟩
  have HBAD : Hid (joinE ms [m] ≠ 0 → v' = .slice none 0 0) := hbad
  have HB3 : Hid (Below w.heap.size w w3) := (hbW.alloc hbW.size _).trans (hb3.mono (by simp; omega))
  have HGOOD : Hid (joinE ms [m] = 0 → Own w.heap.size w3 v' (joinL ms [m])) := fun h => (hgood h).mono (by simp; omega)
  clear hbad hgood hb3 hgW hsW hbW
  go_wp2_with fail
  go_ret2
  exact ⟨v', rfl, HB3.out, HBAD.out, HGOOD.out⟩

/-- E3: the service as it is registered: by one more version, not gone. -/
def reg (ms : List Svc) (p : Nat) (f : Bool) (s : Svc) : Svc := { s with version := (fnd ms p f).version + 1, gone := false }
theorem reg_ok {ms : List Svc} {p : Nat} {f : Bool} {s : Svc} (h : s.ok) : (reg ms p f s).ok := h
/-- The key of a service. -/
def keyOf (s : Svc) : Svc := ⟨s.node, s.idn, ⟨#[]⟩, ⟨#[]⟩, 0, 0, false, 0, false⟩

set_option maxHeartbeats 400000 in
theorem register_bad (ms : List Svc) (v : Value) (s : Svc) (w : World) (hv : Sl w v ms) (hne : chk ms ≠ 0) :
    Calls Tryz.prog 7 #[v, .agg #[.string s.node, .string s.idn, .string s.name, .string s.tag, .int .i64 s.addr, .int .i64 s.port, .bool s.passing, .int .i64 s.version, .bool s.gone]] w fun e w' => e = .returned (.tuple #[.slice none 0 0, .int .i64 (chk ms)]) ∧ Below w.heap.size w w' := by
  have he : (chk ms != 0) = true := by simpa using hne
  have hb0 : Below w.heap.size w (w.alloc (.cells #[.string s.node, .string s.idn, .string s.name, .string s.tag, .int .i64 s.addr, .int .i64 s.port, .bool s.passing, .int .i64 s.version, .bool s.gone] 24)) := (Below.refl _ _).alloc (Nat.le_refl _) _
  have HV : Hid (Sl (w.alloc (.cells #[.string s.node, .string s.idn, .string s.name, .string s.tag, .int .i64 s.addr, .int .i64 s.port, .bool s.passing, .int .i64 s.version, .bool s.gone] 24)) v ms) := hv.below hb0
  clear hne hv
  go_enter Tryz.func7, Tryz.ntmps7
  go_wp2_with (go_at_call 26; refine (check_any ms _ _ HV.out).mono ?_; rintro e w' ⟨rfl, hb2⟩)
  go_ret2
  exact ⟨rfl, hb0.trans (hb2.mono (by simp))⟩

set_option maxHeartbeats 3200000 in
set_option maxRecDepth 100000 in
theorem register_good (ms : List Svc) (v : Value) (s : Svc) (w : World) (hv : Sl w v ms) (h0 : chk ms = 0) (hs : s.ok) (p : Nat) (f : Bool) (hat : At ms (keyOf s) p f) :
    Calls Tryz.prog 7 #[v, .agg #[.string s.node, .string s.idn, .string s.name, .string s.tag, .int .i64 s.addr, .int .i64 s.port, .bool s.passing, .int .i64 s.version, .bool s.gone]] w fun e w' => ∃ v', e = .returned (.tuple #[v', .int .i64 (joinE ms [reg ms p f s])]) ∧ Below w.heap.size w w' ∧
      (joinE ms [reg ms p f s] ≠ 0 → v' = .slice none 0 0) ∧ (joinE ms [reg ms p f s] = 0 → Own w.heap.size w' v' (joinL ms [reg ms p f s])) := by
  have he : (chk ms != 0) = false := by simpa using h0
  have hz := chk_zero h0
  have hb0 : Below w.heap.size w (w.alloc (.cells #[.string s.node, .string s.idn, .string s.name, .string s.tag, .int .i64 s.addr, .int .i64 s.port, .bool s.passing, .int .i64 s.version, .bool s.gone] 24)) := (Below.refl _ _).alloc (Nat.le_refl _) _
  have HV : Hid (Sl (w.alloc (.cells #[.string s.node, .string s.idn, .string s.name, .string s.tag, .int .i64 s.addr, .int .i64 s.port, .bool s.passing, .int .i64 s.version, .bool s.gone] 24)) v ms) := hv.below hb0
  have HV0 : Hid (Sl w v ms) := hv
  have HR : Hid (Rise ms) := hz.2.1
  have hlen := hz.1
  have HF : Hid (firstE ms = 0) := hz.2.2
  have HAT : Hid (At ms (keyOf s) p f) := hat
  have HS : Hid ((reg ms p f s).ok) := hs
  have HG : Hid (reg ms p f s = { s with version := (fnd ms p f).version + 1, gone := false }) := rfl
  generalize reg ms p f s = g at *
  clear hv h0 hz hat hs
  go_enter Tryz.func7, Tryz.ntmps7
  go_wp2_with fail
  refine (check_any ms _ _ HV.out).mono ?_
  rintro e w1 ⟨rfl, hb1⟩
  have hs1 : w.heap.size + 1 ≤ w1.heap.size := by have := hb1.size; simpa using this
  have t0 : w1.cell? ⟨w.heap.size, 0, none⟩ = some (.string s.node) := (hb1.cell (p := ⟨w.heap.size, 0, none⟩) (by simp)).trans ((cell_topL rfl).trans rfl)
  have t1 : w1.cell? ⟨w.heap.size, 1, none⟩ = some (.string s.idn) := (hb1.cell (p := ⟨w.heap.size, 1, none⟩) (by simp)).trans ((cell_topL rfl).trans rfl)
  have t2 : w1.cell? ⟨w.heap.size, 2, none⟩ = some (.string s.name) := (hb1.cell (p := ⟨w.heap.size, 2, none⟩) (by simp)).trans ((cell_topL rfl).trans rfl)
  have t3 : w1.cell? ⟨w.heap.size, 3, none⟩ = some (.string s.tag) := (hb1.cell (p := ⟨w.heap.size, 3, none⟩) (by simp)).trans ((cell_topL rfl).trans rfl)
  have t4 : w1.cell? ⟨w.heap.size, 4, none⟩ = some (.int .i64 s.addr) := (hb1.cell (p := ⟨w.heap.size, 4, none⟩) (by simp)).trans ((cell_topL rfl).trans rfl)
  have t5 : w1.cell? ⟨w.heap.size, 5, none⟩ = some (.int .i64 s.port) := (hb1.cell (p := ⟨w.heap.size, 5, none⟩) (by simp)).trans ((cell_topL rfl).trans rfl)
  have t6 : w1.cell? ⟨w.heap.size, 6, none⟩ = some (.bool s.passing) := (hb1.cell (p := ⟨w.heap.size, 6, none⟩) (by simp)).trans ((cell_topL rfl).trans rfl)
  have t7 : w1.cell? ⟨w.heap.size, 7, none⟩ = some (.int .i64 s.version) := (hb1.cell (p := ⟨w.heap.size, 7, none⟩) (by simp)).trans ((cell_topL rfl).trans rfl)
  have t8 : w1.cell? ⟨w.heap.size, 8, none⟩ = some (.bool s.gone) := (hb1.cell (p := ⟨w.heap.size, 8, none⟩) (by simp)).trans ((cell_topL rfl).trans rfl)
  have hfz1 : ∀ o, w1.frozen? ⟨w.heap.size, o, none⟩ = false := fun o => (hb1.frozen (p := ⟨w.heap.size, o, none⟩) (by simp)).trans (by simp)
  go_wp2_with fail
  refine (find2_any ms _ s.node s.idn _ (HV.out.below hb1) hlen HR.out).mono ?_
  rintro e w2 ⟨p', f', rfl, hb2, hat'⟩
  obtain ⟨rfl, rfl⟩ := at_uniq HAT.out hat'
  have hver := fnd_ver HF.out hat'
  have hs2 : w1.heap.size ≤ w2.heap.size := hb2.size
  have hw2 : w.heap.size < w2.heap.size := by omega
  have r0 : w2.cell? ⟨w.heap.size, 0, none⟩ = some (.string s.node) := (hb2.cell (p := ⟨w.heap.size, 0, none⟩) (by show w.heap.size < w1.heap.size; omega)).trans t0
  have r1 : w2.cell? ⟨w.heap.size, 1, none⟩ = some (.string s.idn) := (hb2.cell (p := ⟨w.heap.size, 1, none⟩) (by show w.heap.size < w1.heap.size; omega)).trans t1
  have r2 : w2.cell? ⟨w.heap.size, 2, none⟩ = some (.string s.name) := (hb2.cell (p := ⟨w.heap.size, 2, none⟩) (by show w.heap.size < w1.heap.size; omega)).trans t2
  have r3 : w2.cell? ⟨w.heap.size, 3, none⟩ = some (.string s.tag) := (hb2.cell (p := ⟨w.heap.size, 3, none⟩) (by show w.heap.size < w1.heap.size; omega)).trans t3
  have r4 : w2.cell? ⟨w.heap.size, 4, none⟩ = some (.int .i64 s.addr) := (hb2.cell (p := ⟨w.heap.size, 4, none⟩) (by show w.heap.size < w1.heap.size; omega)).trans t4
  have r5 : w2.cell? ⟨w.heap.size, 5, none⟩ = some (.int .i64 s.port) := (hb2.cell (p := ⟨w.heap.size, 5, none⟩) (by show w.heap.size < w1.heap.size; omega)).trans t5
  have r6 : w2.cell? ⟨w.heap.size, 6, none⟩ = some (.bool s.passing) := (hb2.cell (p := ⟨w.heap.size, 6, none⟩) (by show w.heap.size < w1.heap.size; omega)).trans t6
  have r7 : w2.cell? ⟨w.heap.size, 7, none⟩ = some (.int .i64 s.version) := (hb2.cell (p := ⟨w.heap.size, 7, none⟩) (by show w.heap.size < w1.heap.size; omega)).trans t7
  have r8 : w2.cell? ⟨w.heap.size, 8, none⟩ = some (.bool s.gone) := (hb2.cell (p := ⟨w.heap.size, 8, none⟩) (by show w.heap.size < w1.heap.size; omega)).trans t8
  have hfz : ∀ o, w2.frozen? ⟨w.heap.size, o, none⟩ = false := fun o => (hb2.frozen (p := ⟨w.heap.size, o, none⟩) (by show w.heap.size < w1.heap.size; omega)).trans (hfz1 o)
  have HB2 : Hid (Below w.heap.size w w2) := hb0.trans ((hb1.trans (hb2.mono hb1.size)).mono (by simp))
  have HV2 : Hid (Sl w2 v ms) := (HV.out.below hb1).below hb2
  clear hat' hb1 hb2 HV t0 t1 t2 t3 t4 t5 t6 t7 t8 hfz1 hb0
  generalize fnd ms p f = kn at *
  obtain ⟨k_node, k_idn, k_name, k_tag, k_addr, k_port, k_passing, k_version, k_gone⟩ := kn
  simp only at hver
  obtain ⟨hv0, hv1⟩ := hver
  go_wp2_with fail
  have hg := HG.out
  refine (show Calls Tryz.prog 28 #[v, .agg #[.string g.node, .string g.idn, .string g.name, .string g.tag, .int .i64 g.addr, .int .i64 g.port, .bool g.passing, .int .i64 g.version, .bool g.gone]] _ _ → _ from fun h => by rw [hg] at h; exact h) ?_
  have hBx := ((HB2.out.setCell (p := ⟨w.heap.size, 7, none⟩) (Nat.le_refl _) (.int .i64 (k_version + 1))).setCell (p := ⟨w.heap.size, 8, none⟩) (Nat.le_refl _) (.bool false)).alloc (by simp; omega) (.cells #[.string k_node, .string k_idn, .string k_name, .string k_tag, .int .i64 k_addr, .int .i64 k_port, .bool k_passing, .int .i64 k_version, .bool k_gone] 24)
  refine (replace_any ms v g _ (HV0.out.below hBx) HS.out).mono ?_
  rintro e w3 ⟨v', rfl, hb3, hbad, hgood⟩
  have HBAD : Hid (joinE ms [g] ≠ 0 → v' = .slice none 0 0) := hbad
  have HB3 : Hid (Below w.heap.size w w3) := hBx.trans (hb3.mono (by simp; omega))
  have HGOOD : Hid (joinE ms [g] = 0 → Own w.heap.size w3 v' (joinL ms [g])) := fun h => (hgood h).mono (by simp; omega)
  clear hbad hgood hb3 hBx hg
  go_wp2_with fail
  go_ret2
  exact ⟨v', rfl, HB3.out, HBAD.out, HGOOD.out⟩

/-- E4: is a service one that Find tells? -/
def keep (name tag : ByteArray) (m : Svc) : Bool := (m.name.toList == name.toList) && ((tag.toList == []) || (m.tag.toList == tag.toList)) && m.passing && !m.gone
def findL (ms : List Svc) (name tag : ByteArray) : List Svc := ms.filter (keep name tag)
def findE (name tag : ByteArray) : Int := if (labB name && tagB tag) = true then 0 else 1

theorem findL_yes {ms : List Svc} {name tag : ByteArray} {k : Nat} (hk : k < ms.length) (h : keep name tag (ms.getD k dm) = true) : findL (ms.take (k + 1)) name tag = findL (ms.take k) name tag ++ [ms.getD k dm] := by
  rw [RL.getD_el dm hk] at h ⊢
  rw [findL, findL, List.take_succ_eq_append_getElem hk, List.filter_append, List.filter_cons_of_pos h]
  rfl
theorem findL_no {ms : List Svc} {name tag : ByteArray} {k : Nat} (hk : k < ms.length) (h : keep name tag (ms.getD k dm) = false) : findL (ms.take (k + 1)) name tag = findL (ms.take k) name tag := by
  rw [RL.getD_el dm hk] at h
  rw [findL, findL, List.take_succ_eq_append_getElem hk, List.filter_append, List.filter_cons_of_neg (by rw [h]; exact Bool.false_ne_true)]
  simp
theorem findL_len (ms : List Svc) (name tag : ByteArray) : (findL ms name tag).length ≤ ms.length := List.length_filter_le _ _
theorem findL_ok {ms : List Svc} {name tag : ByteArray} (h : ∀ m ∈ ms, m.ok) : ∀ m ∈ findL ms name tag, m.ok := fun m hm => h m (List.mem_filter.1 hm).1

/-- Why a service is not told, or is. -/
theorem keep_why (name tag : ByteArray) (m : Svc) :
    (keep name tag m = false ∧ ((m.name.toList == name.toList) = false ∨ ((m.name.toList == name.toList) = true ∧ (tag.toList == []) = false ∧ (m.tag.toList == tag.toList) = false)
      ∨ ((m.name.toList == name.toList) = true ∧ (tag.toList == []) = true ∧ m.passing = false) ∨ ((m.name.toList == name.toList) = true ∧ (tag.toList == []) = false ∧ (m.tag.toList == tag.toList) = true ∧ m.passing = false)
      ∨ ((m.name.toList == name.toList) = true ∧ (tag.toList == []) = true ∧ m.passing = true ∧ m.gone = true) ∨ ((m.name.toList == name.toList) = true ∧ (tag.toList == []) = false ∧ (m.tag.toList == tag.toList) = true ∧ m.passing = true ∧ m.gone = true)))
    ∨ (keep name tag m = true ∧ (((m.name.toList == name.toList) = true ∧ (tag.toList == []) = true ∧ m.passing = true ∧ m.gone = false) ∨ ((m.name.toList == name.toList) = true ∧ (tag.toList == []) = false ∧ (m.tag.toList == tag.toList) = true ∧ m.passing = true ∧ m.gone = false))) := by
  unfold keep
  generalize (m.name.toList == name.toList) = b1
  generalize (tag.toList == []) = b2
  generalize (m.tag.toList == tag.toList) = b3
  generalize m.passing = b4
  generalize m.gone = b5
  cases b1 <;> cases b2 <;> cases b3 <;> cases b4 <;> cases b5 <;> simp

set_option maxHeartbeats 400000 in
theorem findS_bad (ms : List Svc) (v : Value) (name tag : ByteArray) (w : World) (hv : Sl w v ms) (hne : chk ms ≠ 0) :
    Calls Tryz.prog 8 #[v, .string name, .string tag] w fun e w' => e = .returned (.tuple #[.slice none 0 0, .int .i64 (chk ms)]) ∧ Below w.heap.size w w' := by
  have he : (chk ms != 0) = true := by simpa using hne
  have HV : Hid (Sl w v ms) := hv
  clear hne hv
  go_enter Tryz.func8, Tryz.ntmps8
  go_wp2_with (go_at_call 26; refine (check_any ms _ _ HV.out).mono ?_; rintro e w' ⟨rfl, hb2⟩)
  go_ret2
  exact ⟨rfl, hb2⟩

set_option maxHeartbeats 800000 in
theorem findS_form (ms : List Svc) (v : Value) (name tag : ByteArray) (w : World) (hv : Sl w v ms) (h0 : chk ms = 0) (hn : name.size ≤ maxLen) (ht : tag.size ≤ maxLen) (hl : findE name tag ≠ 0) :
    Calls Tryz.prog 8 #[v, .string name, .string tag] w fun e w' => e = .returned (.tuple #[.slice none 0 0, .int .i64 (findE name tag)]) ∧ Below w.heap.size w w' := by
  have he : (chk ms != 0) = false := by simpa using h0
  have HV : Hid (Sl w v ms) := hv
  have HE : Hid (findE name tag = 1) := by
    show findE name tag = 1
    unfold findE at hl ⊢
    split at hl
    · exact absurd rfl hl
    · rename_i h; rw [if_neg h]
  have hll : (labB name && tagB tag) = false := by
    unfold findE at hl
    cases h : (labB name && tagB tag)
    · rfl
    · rw [h, if_pos rfl] at hl; exact absurd rfl hl
  clear hv h0 hl
  rcases h1 : labB name with _ | _
  · go_enter Tryz.func8, Tryz.ntmps8
    go_wp2_with (first | (go_at_call 26; refine (check_any ms _ _ HV.out).mono ?_; rintro e w' ⟨rfl, hb2⟩) | (go_at_call 29; refine (label_any _ _ hn).mono ?_; rintro e w' ⟨rfl, rfl⟩; rw [h1]))
    go_ret2
    exact ⟨by rw [HE.out]; rfl, hb2⟩
  · have h2 : tagB tag = false := by rw [h1] at hll; simpa using hll
    go_enter Tryz.func8, Tryz.ntmps8
    go_wp2_with (first | (go_at_call 26; refine (check_any ms _ _ HV.out).mono ?_; rintro e w' ⟨rfl, hb2⟩) | (go_at_call 29; refine (label_any _ _ hn).mono ?_; rintro e w' ⟨rfl, rfl⟩; rw [h1]) | (go_at_call 30; refine (tag_any tag _ _ ht (heap_new1 _ _)).mono ?_; rintro e w3 ⟨rfl, rfl⟩; rw [h2]))
    go_ret2
    exact ⟨by rw [HE.out]; rfl, hb2.alloc hb2.size _⟩

set_option maxHeartbeats 6400000 in
set_option maxRecDepth 100000 in
theorem findS_good (ms : List Svc) (v : Value) (name tag : ByteArray) (w : World) (hv : Sl w v ms) (h0 : chk ms = 0) (hn : name.size ≤ maxLen) (ht : tag.size ≤ maxLen) (hl : findE name tag = 0) :
    Calls Tryz.prog 8 #[v, .string name, .string tag] w fun e w' => ∃ v', e = .returned (.tuple #[v', .int .i64 0]) ∧ Own w.heap.size w' v' (findL ms name tag) ∧ Below w.heap.size w w' := by
  obtain ⟨i0, hi0, hz0, hzs, hzb⟩ := info_parts Tryz.info24
  have he : (chk ms != 0) = false := by simpa using h0
  have hlen := (chk_zero h0).1
  have HV : Hid (Sl w v ms) := hv
  have hll : labB name = true ∧ tagB tag = true := by
    unfold findE at hl
    split at hl
    · rename_i h; simpa using h
    · cases hl
  obtain ⟨h1, h2⟩ := hll
  obtain ⟨pa, ca, rfl, _, ha⟩ := hv
  have HA : Hid (ms = [] ∨ ∃ b off, pa = some ⟨b, off, none⟩ ∧ b < w.heap.size ∧ Row w b off ms) := ha
  clear ha h0 hl
  generalize hna : ms.length = n at *
  have HN : Hid (ms.length = n) := hna
  clear hna
  go_enter Tryz.func8, Tryz.ntmps8
  go_wp2_with (first | (go_at_call 26; refine (check_any ms _ _ HV.out).mono ?_; rintro e w1 ⟨rfl, hb1⟩) | (go_at_call 29; refine (label_any _ _ hn).mono ?_; rintro e w' ⟨rfl, rfl⟩; rw [h1]) | (go_at_call 30; refine (tag_any tag _ _ ht (heap_new1 _ _)).mono ?_; rintro e w3 ⟨rfl, rfl⟩; rw [h2]))
  have HB1 : Hid (Below w.heap.size w _) := hb1.alloc hb1.size (.cells #[.string tag] 9)
  have hs1 := HB1.out.size
  clear hb1 HV
  go_loopw [9, 28] (fun kn i w' => ∃ k : Nat, k ≤ n ∧ i = .int .i64 k ∧ Below w.heap.size w w' ∧ Hid (Own w.heap.size w' kn (findL (ms.take k) name tag))) (fun _ i _ => n - (intOf i).toNat)
  case atStart => exact ⟨0, Nat.zero_le _, rfl, HB1.out, own_nil _ _⟩
  case round =>
    obtain ⟨k, hk, rfl, hbl, HO⟩ := hrel
    obtain ⟨hbc, hbf⟩ := bcell hbl
    have hsz := hbl.size
    have hll2 : (findL (ms.take k) name tag).length ≤ 40 := by have h1 := findL_len (ms.take k) name tag; have h2 : (ms.take k).length ≤ k := List.length_take_le _ _; omega
    by_cases hlt : k < n
    · obtain ⟨b1, o1, hp1, hl1, hr1⟩ : ∃ b off, pa = some ⟨b, off, none⟩ ∧ b < w.heap.size ∧ Row w b off ms := by
        rcases HA.out with h | h
        · have := HN.out; rw [h] at this; simp at this; omega
        · exact h
      subst hp1
      obtain ⟨c0, c1, c2, c3, c4, c5, c6, c7, c8⟩ := hr1 k (by rw [HN.out]; exact hlt)
      clear hr1
      have hkl : k < ms.length := by rw [HN.out]; exact hlt
      have HY : Hid (keep name tag (ms.getD k dm) = true → findL (ms.take (k + 1)) name tag = findL (ms.take k) name tag ++ [ms.getD k dm]) := fun h => findL_yes hkl h
      have HNO : Hid (keep name tag (ms.getD k dm) = false → findL (ms.take (k + 1)) name tag = findL (ms.take k) name tag) := fun h => findL_no hkl h
      generalize ms.getD k dm = m at *
      rcases keep_why name tag m with ⟨hkp, hw⟩ | ⟨hkp, hw⟩
      · have HST : Hid (findL (ms.take (k + 1)) name tag = findL (ms.take k) name tag) := HNO.out hkp
        clear HY HNO hkp
        rcases hw with h | ⟨h, g1, g2⟩ | ⟨h, g1, g2⟩ | ⟨h, g1, g2, g3⟩ | ⟨h, g1, g2, g3⟩ | ⟨h, g1, g2, g3, g4⟩
        all_goals
          go_wp2_with fail
          go_roundw
          case rel => exact ⟨k + 1, by omega, by go_num, hbl.alloc hsz _, by rw [HST.out]; exact HO.out.below ((Below.refl _ _).alloc (Nat.le_refl _) _)⟩
          case measure => simp [intOf]; omega
      · have HST : Hid (findL (ms.take (k + 1)) name tag = findL (ms.take k) name tag ++ [m]) := HY.out hkp
        clear HY HNO hkp
        generalize findL (ms.take k) name tag = L at *
        rcases hw with ⟨h, g1, gp, gg⟩ | ⟨h, g1, g2, gp, gg⟩
        all_goals
          go_wp2_with (at_builtin; refine wpList_append_own _ rfl _ _ 22 rfl w.heap.size 24 i0 _ 9 104 Tryz.underlying22 hi0 hz0 hzs hzb rfl (by omega) _ L.length (fl L) rfl ?hown ⟨wr.heap.size + 1, 0, none⟩ 1 1 m.cs rfl rfl ?hnews (cs_one _) ?h63 ?hbytes ?hbase ?_)
          case hown => exact HO.out.below (((Below.refl _ _).alloc (Nat.le_refl _) _).alloc (by simp) _)
          case hnews => (intro j u hj; rw [Addr.add_lit]; exact (cell_topL (by simp)).trans (by simpa [Svc.cs, gp, gg] using hj))
          case h63 => (unfold maxLen; omega)
          case hbytes => omega
          case hbase => (simp; omega)
          all_goals
            intro v' w2 r1 r2 r3
            have HBX : Hid (Below w.heap.size w w2) := ((hbl.alloc hsz _).alloc (by simp; omega) _).grown r2 (by simp; omega) (fun j hj => (HO.out.lt j hj).1)
            have HOX : Hid (Own w.heap.size w2 v' (L ++ [m])) := own_snoc r1
            clear r1 r2 r3
            go_wp2_with fail
            go_roundw
            case rel => exact ⟨k + 1, by omega, by go_num, HBX.out, by rw [HST.out]; exact HOX.out⟩
            case measure => simp [intOf]; omega
    · have hkn : k = n := by omega
      subst hkn
      have HFO : Hid (Own w.heap.size wr u9 (findL ms name tag)) := by
        have h := HO.out
        rw [List.take_of_length_le (by rw [HN.out]; exact Nat.le_refl _)] at h
        exact h
      go_wp2_with fail
      go_ret2
      exact ⟨u9, rfl, HFO.out, hbl⟩

end Sv
end Go.Proofs.YtkicpbomjpgjpaaGreat

