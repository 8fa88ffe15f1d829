
/- AnswerTrue: one record. -/
import Derived.Test.YtignmeaeibaejaaGreatANSV
namespace Go.Proofs.YtignmeaeibaejaaGreat
open Go.RowKit

theorem any_snoc {L : List Sv.Svc} {p : Sv.Svc → Bool} {k : Nat} (h : k < L.length) : (L.take (k + 1)).any p = ((L.take k).any p || p (L.getD k Sv.dm)) := by
  rw [take_snocS h, List.any_append]
  simp
set_option maxHeartbeats 6400000 in
set_option maxRecDepth 1000000 in
theorem rb1 {u0 u1 u4 u6 u7 u9 u10 u11 u12 u13 u14 u15 u16 u17 u18 u19 u20 u21 u22 u23 u24 u25 u26 u27 u28 u29 u30 u31 u32 u33 u34 u35 u36 u37 u38 u39 u40 u41 u42 u43 u44 u45 u46 u47 u48 u49 u50 u51 u52 u53 u54 u55 u56 u57 u58 u59 u60 u61 u62 u63 u64 u65 u66 u67 u68 u69 u70 u71 u72 u73 u74 u75 u76 u77 u78 u79 u80 u81 u82 u83 u84 u85 u86 u87 u88 u89 u90 u91 u92 u93 u94 u95 u96 u97 u98 u99 u100 u101 u102 u103 u104 u105 u106 u107 u108 u109 u110 u111 u112 u113 u114 u115 u116 u117 u118 u119 u120 u121 u122 u123 u124 u125 u126 u127 u128 u129 u130 : Value} (w : World) (q : Qu) (sv : List Sv.Svc) (ms : List Mem) (qb kb rb ro nr cr i n cf nm cm : Nat) (pf pm : Option Addr) (ra : Int) (Q : Exit → Act → World → Prop) (hc : chk ms = 0) (hn40 : n ≤ 1000) (hi : i < nr) (hqb : qb < w.heap.size) (hkb : kb < w.heap.size) (hrb : rb < w.heap.size)
    (q0 : w.cell? ⟨qb, 0, none⟩ = some (.string q.service)) (q1 : w.cell? ⟨qb, 1, none⟩ = some (.string q.tag)) (d1 : w.cell? ⟨kb, 1, none⟩ = some (.slice pf n cf)) (d2 : w.cell? ⟨kb, 2, none⟩ = some (.slice pm nm cm)) (c0 : w.cell? ⟨rb, ro + i * 7 + 3, none⟩ = some (.int .i64 ra))
    (HM : Hid (Sl w (.slice pm nm cm) ms)) (HF : Hid (Sv.Sl w (.slice pf n cf) sv)) (HS : Hid (∃ s ∈ sv, okS q ms ra s = true))
    (hN : ∀ (y9 y10 y11 y12 y57 y58 y59 y60 y61 y62 y63 y64 y65 y66 y67 y68 y69 y70 y71 y72 y73 y74 y75 y76 y77 y78 y79 y80 y81 y82 y83 y84 y85 y86 y87 y88 y89 y90 y91 y92 y93 y94 y95 y96 y97 y98 y99 y100 y101 y102 y103 y104 y105 y106 y107 y108 y109 y110 y111 y112 y113 y114 y115 y116 y117 y118 y119 y120 y121 y122 y123 y124 y125 y126 y127 : Value) (wx : World), Hid (Below w.heap.size w wx) → Q .normal ⟨#[u0, u1, .pointer (some ⟨qb, 0, none⟩), .pointer (some ⟨kb, 0, none⟩), u4, .slice (some ⟨rb, ro, none⟩) nr cr, u6, u7, .int .i64 i, y9, y10, y11, y12, u13, u14, u15, u16, u17, u18, u19, u20, u21, u22, u23, u24, u25, u26, u27, u28, u29, u30, u31, u32, u33, u34, u35, u36, u37, u38, u39, u40, u41, u42, u43, u44, u45, u46, u47, u48, u49, u50, u51, u52, u53, u54, u55, u56, y57, y58, y59, y60, y61, y62, y63, y64, y65, y66, y67, y68, y69, y70, y71, y72, y73, y74, y75, y76, y77, y78, y79, y80, y81, y82, y83, y84, y85, y86, y87, y88, y89, y90, y91, y92, y93, y94, y95, y96, y97, y98, y99, y100, y101, y102, y103, y104, y105, y106, y107, y108, y109, y110, y111, y112, y113, y114, y115, y116, y117, y118, y119, y120, y121, y122, y123, y124, y125, y126, y127, u128, u129, u130], []⟩ wx) :
    Code.wp Tryz.prog ((Tryz.f4.body.bind (blkIn 1)).getD .skip) Q ⟨#[u0, u1, .pointer (some ⟨qb, 0, none⟩), .pointer (some ⟨kb, 0, none⟩), u4, .slice (some ⟨rb, ro, none⟩) nr cr, u6, u7, .int .i64 i, u9, u10, u11, u12, u13, u14, u15, u16, u17, u18, u19, u20, u21, u22, u23, u24, u25, u26, u27, u28, u29, u30, u31, u32, u33, u34, u35, u36, u37, u38, u39, u40, u41, u42, u43, u44, u45, u46, u47, u48, u49, u50, u51, u52, u53, u54, u55, u56, u57, u58, u59, u60, u61, u62, u63, u64, u65, u66, u67, u68, u69, u70, u71, u72, u73, u74, u75, u76, u77, u78, u79, u80, u81, u82, u83, u84, u85, u86, u87, u88, u89, u90, u91, u92, u93, u94, u95, u96, u97, u98, u99, u100, u101, u102, u103, u104, u105, u106, u107, u108, u109, u110, u111, u112, u113, u114, u115, u116, u117, u118, u119, u120, u121, u122, u123, u124, u125, u126, u127, u128, u129, u130], []⟩ w := by
  conv => arg 2; whnf
  have HQN : Hid _ := hN
  clear hN
  have HL : Hid (sv.length = n) := by
    obtain ⟨_, _, hfe, _, _⟩ := HF.out
    simp only [Value.slice.injEq] at hfe
    exact hfe.2.1.symm
  have HQ0 : Hid _ := q0
  have HQ1 : Hid _ := q1
  have HD1 : Hid _ := d1
  have HD2 : Hid _ := d2
  have HC0 : Hid _ := c0
  have HHC : Hid (chk ms = 0) := hc
  clear q0 q1 d1 d2 c0 hc
  go_wp2_with fail
  go_loopw [9, 10] (fun fv kv wr => ∃ k : Nat, k ≤ n ∧ kv = .int .i64 k ∧ fv = .bool ((sv.take k).any (okS q ms ra)) ∧ Hid (Below w.heap.size w wr)) (fun _ kv _ => n - (intOf kv).toNat)
  case atStart => exact ⟨0, Nat.zero_le _, rfl, rfl, Below.refl _ _⟩
  case round =>
    obtain ⟨k, hkn, rfl, rfl, HB⟩ := hrel
    have hsr := HB.out.size
    have d1 : wr.cell? ⟨kb, 1, none⟩ = some (.slice pf n cf) := (HB.out.cell hkb).trans HD1.out
    by_cases hlt : k < n
    · have HST : Hid ((sv.take (k + 1)).any (okS q ms ra) = ((sv.take k).any (okS q ms ra) || okS q ms ra (sv.getD k Sv.dm))) := any_snoc (by rw [HL.out]; exact hlt)
      generalize (sv.take k).any (okS q ms ra) = f at *
      go_upto_block 3 with fail
      refine rb3 wr q sv ms qb kb rb ro nr cr i k n cf nm cm pf pm f ra _ HHC.out hlt hi (Nat.lt_of_lt_of_le hqb hsr) (Nat.lt_of_lt_of_le hkb hsr) (Nat.lt_of_lt_of_le hrb hsr) ((HB.out.cell hqb).trans HQ0.out) ((HB.out.cell hqb).trans HQ1.out) d1 ((HB.out.cell hkb).trans HD2.out) ((HB.out.cell hrb).trans HC0.out) (HM.out.below HB.out) (HF.out.below HB.out) ?_
      intro _ _ _ _ _ _ _ _ _ _ _ _ _ _ _ _ _ _ _ _ _ _ _ _ _ _ _ _ _ _ _ _ _ _ _ _ _ _ _ _ _ _ _ _ _ _ _ _ _ _ _ _ _ _ _ _ _ _ _ _ _ _ _ _ wx hb
      have HB2 : Hid (Below w.heap.size w wx) := HB.out.trans (hb.out.mono hsr)
      rw [← HST.out]
      clear hb HST
      obtain ⟨f2, hf2⟩ : ∃ f2, f2 = (sv.take (k + 1)).any (okS q ms ra) := ⟨_, rfl⟩
      rw [← hf2]
      have HF2 : Hid (f2 = (sv.take (k + 1)).any (okS q ms ra)) := hf2
      clear hf2
      go_wp2_with fail
      go_roundw
      case rel => exact ⟨k + 1, by omega, by go_num, by rw [HF2.out], HB2⟩
      case measure => simp [intOf]; omega
    · have hT : (sv.take k).any (okS q ms ra) = true := by
        rw [List.take_of_length_le (by rw [HL.out]; omega), List.any_eq_true]
        exact HS.out
      rw [hT]
      clear hT
      go_wp2_with fail
      exact HQN.out _ _ _ _ _ _ _ _ _ _ _ _ _ _ _ _ _ _ _ _ _ _ _ _ _ _ _ _ _ _ _ _ _ _ _ _ _ _ _ _ _ _ _ _ _ _ _ _ _ _ _ _ _ _ _ _ _ _ _ _ _ _ _ _ _ _ _ _ _ _ _ _ _ _ _ _ HB

end Go.Proofs.YtignmeaeibaejaaGreat
