
/- AnswerTrue: one service. -/
import Derived.Test.YtignmeaeibaejaaGreatANRV
namespace Go.Proofs.YtignmeaeibaejaaGreat
open Go.RowKit

set_option maxHeartbeats 6400000 in
set_option maxRecDepth 1000000 in
theorem rb3 {u0 u1 u4 u6 u7 u11 u12 u13 u14 u15 u16 u17 u18 u19 u20 u21 u22 u23 u24 u25 u26 u27 u28 u29 u30 u31 u32 u33 u34 u35 u36 u37 u38 u39 u40 u41 u42 u43 u44 u45 u46 u47 u48 u49 u50 u51 u52 u53 u54 u55 u56 u57 u58 u59 u60 u61 u62 u63 u64 u65 u66 u67 u68 u69 u70 u71 u72 u73 u74 u75 u76 u77 u78 u79 u80 u81 u82 u83 u84 u85 u86 u87 u88 u89 u90 u91 u92 u93 u94 u95 u96 u97 u98 u99 u100 u101 u102 u103 u104 u105 u106 u107 u108 u109 u110 u111 u112 u113 u114 u115 u116 u117 u118 u119 u120 u121 u122 u123 u124 u125 u126 u127 u128 u129 u130 : Value} (w : World) (q : Qu) (sv : List Sv.Svc) (ms : List Mem) (qb kb rb ro nr cr i k n cf nm cm : Nat) (pf pm : Option Addr) (f : Bool) (ra : Int) (Q : Exit → Act → World → Prop) (hc : chk ms = 0) (hk : k < n) (hi : i < nr) (hqb : qb < w.heap.size) (hkb : kb < w.heap.size) (hrb : rb < w.heap.size)
    (q0 : w.cell? ⟨qb, 0, none⟩ = some (.string q.service)) (q1 : w.cell? ⟨qb, 1, none⟩ = some (.string q.tag)) (d1 : w.cell? ⟨kb, 1, none⟩ = some (.slice pf n cf)) (d2 : w.cell? ⟨kb, 2, none⟩ = some (.slice pm nm cm)) (c0 : w.cell? ⟨rb, ro + i * 7 + 3, none⟩ = some (.int .i64 ra))
    (HM : Hid (Sl w (.slice pm nm cm) ms)) (HF : Hid (Sv.Sl w (.slice pf n cf) sv))
    (hN : ∀ (y11 y12 y64 y65 y66 y67 y68 y69 y70 y71 y72 y73 y74 y75 y76 y77 y78 y79 y80 y81 y82 y83 y84 y85 y86 y87 y88 y89 y90 y91 y92 y93 y94 y95 y96 y97 y98 y99 y100 y101 y102 y103 y104 y105 y106 y107 y108 y109 y110 y111 y112 y113 y114 y115 y116 y117 y118 y119 y120 y121 y122 y123 y124 y125 : Value) (wx : World), Hid (Below w.heap.size w wx) → Q .normal ⟨#[u0, u1, .pointer (some ⟨qb, 0, none⟩), .pointer (some ⟨kb, 0, none⟩), u4, .slice (some ⟨rb, ro, none⟩) nr cr, u6, u7, .int .i64 i, .bool (f || okS q ms ra (sv.getD k Sv.dm)), .int .i64 k, y11, y12, u13, u14, u15, u16, u17, u18, u19, u20, u21, u22, u23, u24, u25, u26, u27, u28, u29, u30, u31, u32, u33, u34, u35, u36, u37, u38, u39, u40, u41, u42, u43, u44, u45, u46, u47, u48, u49, u50, u51, u52, u53, u54, u55, u56, u57, u58, u59, u60, u61, u62, u63, y64, y65, y66, y67, y68, y69, y70, y71, y72, y73, y74, y75, y76, y77, y78, y79, y80, y81, y82, y83, y84, y85, y86, y87, y88, y89, y90, y91, y92, y93, y94, y95, y96, y97, y98, y99, y100, y101, y102, y103, y104, y105, y106, y107, y108, y109, y110, y111, y112, y113, y114, y115, y116, y117, y118, y119, y120, y121, y122, y123, y124, y125, u126, u127, u128, u129, u130], []⟩ wx) :
    Code.wp Tryz.prog ((Tryz.f4.body.bind (blkIn 3)).getD .skip) Q ⟨#[u0, u1, .pointer (some ⟨qb, 0, none⟩), .pointer (some ⟨kb, 0, none⟩), u4, .slice (some ⟨rb, ro, none⟩) nr cr, u6, u7, .int .i64 i, .bool f, .int .i64 k, u11, u12, u13, u14, u15, u16, u17, u18, u19, u20, u21, u22, u23, u24, u25, u26, u27, u28, u29, u30, u31, u32, u33, u34, u35, u36, u37, u38, u39, u40, u41, u42, u43, u44, u45, u46, u47, u48, u49, u50, u51, u52, u53, u54, u55, u56, u57, u58, u59, u60, u61, u62, u63, u64, u65, u66, u67, u68, u69, u70, u71, u72, u73, u74, u75, u76, u77, u78, u79, u80, u81, u82, u83, u84, u85, u86, u87, u88, u89, u90, u91, u92, u93, u94, u95, u96, u97, u98, u99, u100, u101, u102, u103, u104, u105, u106, u107, u108, u109, u110, u111, u112, u113, u114, u115, u116, u117, u118, u119, u120, u121, u122, u123, u124, u125, u126, u127, u128, u129, u130], []⟩ w := by
  conv => arg 2; whnf
  have HQN : Hid _ := hN
  clear hN
  have HMS : Hid (Sl w (.slice pm nm cm) ms) := HM
  obtain ⟨_, _, hme, -, hma⟩ := HM.out
  simp only [Value.slice.injEq] at hme
  obtain ⟨rfl, hml, rfl⟩ := hme
  have HML : Hid (ms.length = nm) := hml.symm
  have hml2 : ms.length ≤ 1000 := by have := (chk_zero hc).1; omega
  have HMA : Hid (ms = [] ∨ ∃ b off, pm = some ⟨b, off, none⟩ ∧ b < w.heap.size ∧ Row w b off ms) := hma
  obtain ⟨_, _, hfe, hfz, hfa⟩ := HF.out
  simp only [Value.slice.injEq] at hfe
  obtain ⟨rfl, hfl, rfl⟩ := hfe
  obtain ⟨b, off, hp1, hl1, hr⟩ : ∃ b off, pf = some ⟨b, off, none⟩ ∧ b < w.heap.size ∧ Sv.Row w b off sv := by
    rcases hfa with h | h
    · rw [h] at hfl; simp at hfl; omega
    · exact h
  subst hp1
  have hrk := hr k (by omega)
  have HAT : Hid (∀ W, Sl W (.slice pm nm cm) ms → Calls Tryz.prog 9 #[.slice pm nm cm, .string (sv.getD k Sv.dm).node] W fun e w' => ∃ r : Int, e = .returned (.int .i64 r) ∧ Hid (AtF ms (sv.getD k Sv.dm).node r) ∧ w' = W) := fun W h => memAt_any ms _ _ W h hml2
  have HOK : Hid (okS q ms ra (sv.getD k Sv.dm) = (((sv.getD k Sv.dm).addr == ra) && Sv.keep q.service q.tag (sv.getD k Sv.dm) && decide ((mOf ms (sv.getD k Sv.dm).node).state < 3))) := rfl
  generalize okS q ms ra (sv.getD k Sv.dm) = OK at *
  have HST : Hid (∀ r, AtF ms (sv.getD k Sv.dm).node r → (r = -1 ∧ (mOf ms (sv.getD k Sv.dm).node).state < 3) ∨ ∃ j : Nat, j < ms.length ∧ r = j ∧ (mOf ms (sv.getD k Sv.dm).node).state = (ms.getD j dm).state) := fun r h => at_state h
  clear hma hfa hr hfz hml hfl HM HF hc hml2
  generalize sv.getD k Sv.dm = s at *
  obtain ⟨nd, idn, snm, tag, ad, po, pa1, ver, gon⟩ := s
  unfold Sv.keep at HOK
  simp only at *
  obtain ⟨s0, s1, s2, s3, s4, s5, s6, s7, s8⟩ := hrk
  have HQ0 : Hid _ := q0
  have HQ1 : Hid _ := q1
  have HD2 : Hid _ := d2
  have HC0 : Hid _ := c0
  generalize (mOf ms nd).state = st at *
  have hk0 : (0 : Int) ≤ (k : Int) := Int.natCast_nonneg _
  have hk1 : (k : Int) < (n : Int) := by omega
  obtain ⟨W, hW⟩ : ∃ W, W = w.alloc (.cells #[.string nd, .string idn, .string snm, .string tag, .int .i64 ad, .int .i64 po, .bool pa1, .int .i64 ver, .bool gon] 39) := ⟨_, rfl⟩
  have hbW : Below w.heap.size w W := by rw [hW]; exact (Below.refl _ _).alloc (Nat.le_refl _) _
  have hg : W.heap[w.heap.size]? = some (.cells #[.string nd, .string idn, .string snm, .string tag, .int .i64 ad, .int .i64 po, .bool pa1, .int .i64 ver, .bool gon] 39 (0, 0)) := by rw [hW]; exact heap_alloc_new w _
  have e2 : (w.alloc (.cells #[.string nd, .string idn, .string snm, .string tag, .int .i64 ad, .int .i64 po, .bool pa1, .int .i64 ver, .bool gon] 39)).cell? ⟨kb, 2, none⟩ = some (.slice pm nm cm) := by rw [← hW]; exact (hbW.cell hkb).trans d2
  have HG : Hid _ := hg
  have HBW : Hid _ := hbW
  clear hg hbW q0 q1 c0
  go_wp2_with fail
  rw [← hW] at e2 ⊢
  have hsW : w.heap.size + 1 ≤ W.heap.size := by rw [hW]; simp
  clear hW
  refine Calls.mono (HAT.out W (HMS.out.below HBW.out)) ?_
  rintro e w1 ⟨r, rfl, hat, hw1⟩
  obtain rfl := hw1.symm
  have HA : Hid ((r = -1 ∧ st < 3) ∨ ∃ (mb mo nm2 cm2 j : Nat), r = (j : Int) ∧ W.cell? ⟨kb, 2, none⟩ = some (.slice (some ⟨mb, mo, none⟩) nm2 cm2) ∧ W.cell? ⟨mb, mo + j * 5 + 1, none⟩ = some (.int .i64 st) ∧ j < nm2) := by
    rcases HST.out r hat.out with h | ⟨j, h1, h2, h3⟩
    · exact .inl h
    · rcases HMA.out with h | ⟨mb, mo, h4, h5, h6⟩
      · rw [h] at h1; simp at h1
      · obtain ⟨-, g1, -, -, -⟩ := h6 j h1
        exact .inr ⟨mb, mo, nm, cm, j, h2, by rw [← h4]; exact (HBW.out.cell hkb).trans HD2.out, by rw [h3]; exact (HBW.out.cell h5).trans g1, by rw [← HML.out]; exact h1⟩
  have HR : Hid ((f || OK) = (f || ((ad == ra) && ((snm.toList == q.service.toList) && ((q.tag.toList == []) || (tag.toList == q.tag.toList)) && pa1 && !gon) && decide (st < 3)))) := by show _ = _; rw [HOK.out]
  clear hat HST HOK e2
  go_upto_region 17 with fail
  refine rt17 W qb kb rb ro nr cr i w.heap.size _ f ra ad r st snm q.service q.tag tag pa1 gon (f || OK) ((HBW.out.cell hrb).trans HC0.out) hi (cellsAt HG.out 4) (cellsAt HG.out 2) ((HBW.out.cell hqb).trans HQ0.out) ((HBW.out.cell hqb).trans HQ1.out) (cellsAt HG.out 3) (cellsAt HG.out 6) (cellsAt HG.out 8) HA.out HR.out ?_
  intro _ _ _ _ _ _ _ _ _ _ _ _ _ _ _ _ _ _ _ _ _ _ _ _ _ _ _ _ _ _ _ _ _ _ _ _ _ _ _ _ _ _ _ _ _ _ _ _ _ _ _ _ wx hb
  go_wp2_with fail
  exact HQN.out _ _ _ _ _ _ _ _ _ _ _ _ _ _ _ _ _ _ _ _ _ _ _ _ _ _ _ _ _ _ _ _ _ _ _ _ _ _ _ _ _ _ _ _ _ _ _ _ _ _ _ _ _ _ _ _ _ _ _ _ _ _ _ _ _ (HBW.out.trans (hb.mono HBW.out.size))

end Go.Proofs.YtignmeaeibaejaaGreat
