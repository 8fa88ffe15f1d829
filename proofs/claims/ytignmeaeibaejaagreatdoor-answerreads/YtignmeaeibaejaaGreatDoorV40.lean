/- HN -/
import Derived.Test.YtignmeaeibaejaaGreatDoorV35
/- The document's MessageOf: a record's data. -/
namespace Go.Proofs.YtignmeaeibaejaaGreatDoor
open Go.RowKit

/-- It ends by an error: what lies there then. -/
def ErrRet (w : World) (t : ByteArray) (a : Act) (W : World) : Prop := a.defers = [] ∧ a.tmps.getD 2 undef = .pointer (some ⟨w.heap.size, 0, none⟩) ∧ a.tmps.getD 3 undef = .int .i64 1 ∧ W.heap[w.heap.size]? = some (.cells zmsg 38 (0, 0)) ∧ Below w.heap.size w W ∧ rdE t ≠ 0
theorem Sc.zeroed {w W : World} {t : ByteArray} {mb a : Nat} {bad : Bool} {mc : Array Value} (h : Sc w t mb a bad mc W) : (((((((W.setCell ⟨w.heap.size, 0, none⟩ (.int .i64 0)).setCell ⟨w.heap.size, 1, none⟩ (.bool false)).setCell ⟨w.heap.size, 2, none⟩ (.bool false)).setCell ⟨w.heap.size, 3, none⟩ (.int .i64 0)).setCell ⟨w.heap.size, 4, none⟩ (.string ⟨#[]⟩)).setCell ⟨w.heap.size, 5, none⟩ (.int .i64 0)).setCell ⟨w.heap.size, 6, none⟩ (.slice none 0 0)).heap[w.heap.size]? = some (.cells zmsg 38 (0, 0)) :=
  Joins.block_setCell (i := 6) (Joins.block_setCell (i := 5) (Joins.block_setCell (i := 4) (Joins.block_setCell (i := 3) (Joins.block_setCell (i := 2) (Joins.block_setCell (i := 1) (Joins.block_setCell (i := 0) h.qx _) _) _) _) _) _) _

set_option maxHeartbeats 3200000 in
set_option maxRecDepth 1000000 in
theorem psw {u1 u3 u5 u6 u7 u8 u9 u10 u12 u13 u14 u15 u16 u17 u18 u19 u20 u21 u22 u23 u24 u25 u26 u27 u28 u29 u30 u31 u32 u33 u34 u35 u36 u37 u38 u39 u40 u41 u42 u43 u44 u45 u46 u47 u48 u49 u50 u51 u52 u53 u54 u55 u56 u57 u58 u59 u60 u61 u62 u63 u64 u65 u66 u67 u68 u69 u70 u71 u72 u73 u74 u75 u76 u77 u78 u79 u80 u81 u82 u83 u84 u85 u86 u87 u88 u89 u90 u91 u92 u93 u94 u95 u96 u97 u98 u99 u100 u101 u102 u103 u104 u105 u106 u107 u108 u109 u110 u111 u112 u113 u114 u115 u116 u117 u118 u119 u120 u121 u122 u123 u124 u125 u126 u127 u128 u129 u130 u131 u132 u133 u134 u135 u136 u137 u138 u139 u140 u141 u142 u143 u144 u145 u146 u147 u148 u149 u150 u151 u152 u153 u155 u156 u157 u158 u159 u160 u161 u162 u163 u164 u165 u166 u167 u168 u169 u170 u171 u172 u173 u174 u175 u176 u177 u178 u179 u180 u181 u182 u183 u184 u185 u186 u187 u188 u189 u190 u191 u192 u193 u194 u195 u196 u197 u198 u199 u200 u201 u202 u203 u204 u205 u206 u207 u208 u209 u210 u211 u212 u213 u214 u215 u216 u217 u218 u219 u220 u221 u222 u223 u224 u225 u226 u227 u228 u229 u230 u231 u232 u233 u234 u235 u236 u237 u238 u239 u240 u241 u242 u243 u244 u245 u246 u247 u248 u249 u250 u251 u252 u253 u254 u255 u256 u257 u258 u259 u260 u261 : Value} (w wr wh : World) (t s1 : ByteArray) (mb rb b b1 b5 x2 x4 : Nat) (mv : Array Value) (hs : t.size ≤ 1000) (hs1 : s1.size ≤ 1000) (hb5 : b5 ≤ 20000) (HRM : Hid (recF t b = none → msgF t = none)) (HRE : Hid (recF t b = recH t b1 (datF t b5 s1 x2 x4)))
    (HS : Hid (Sc w t mb b false mv wr)) (R9 : Hid (Sr (w.heap.size + 1) rb t wr b5 false #[.string s1, .int .i64 x2, .int .i64 x4, .int .i64 0, .string ⟨#[]⟩, .int .i64 0, .string ⟨#[]⟩] wh)) (Q : Exit → Act → World → Prop) (hE : ∀ a W, ErrRet w t a W → Q .ret a W)
    (hN : ∀ (y14 y155 y156 y157 y158 y159 y160 y161 y162 y163 y164 y165 y166 y167 y168 y169 y170 y171 y172 y173 y174 y175 y176 y177 y178 y179 y180 y181 y182 y183 y184 y185 y186 y187 y188 y189 y190 y191 y192 y193 y194 y195 y196 y197 y198 y199 y200 y201 y202 y203 y204 y205 y206 y207 y208 y209 y210 y211 y212 y213 y214 y215 y216 y217 y218 y219 y220 : Value) (r : Rc.Rec) (a : Nat) (d : Bool) (wx : World), a ≤ 20000 → Hid (r.ok ∧ r.name.size ≤ 1000 ∧ r.target.size ≤ 1000) → Hid (Sr (w.heap.size + 1) rb t wr a d (recA r) wx) → Hid (d = true → datF t b5 s1 x2 x4 = none) → Hid (d = false → datF t b5 s1 x2 x4 = some (r, a)) → Q .normal ⟨#[.string t, u1, .pointer (some ⟨w.heap.size, 0, none⟩), u3, .pointer (some ⟨w.heap.size + 1, 0, none⟩), u5, u6, u7, u8, u9, u10, .pointer (some ⟨rb, 0, none⟩), u12, u13, y14, u15, u16, u17, u18, u19, u20, u21, u22, u23, u24, u25, u26, u27, u28, u29, u30, u31, u32, u33, u34, u35, u36, u37, u38, u39, u40, u41, u42, u43, u44, u45, u46, u47, u48, u49, u50, u51, u52, u53, u54, u55, u56, u57, u58, u59, u60, u61, u62, u63, u64, u65, u66, u67, u68, u69, u70, u71, u72, u73, u74, u75, u76, u77, u78, u79, u80, u81, u82, u83, u84, u85, u86, u87, u88, u89, u90, u91, u92, u93, u94, u95, u96, u97, u98, u99, u100, u101, u102, u103, u104, u105, u106, u107, u108, u109, u110, u111, u112, u113, u114, u115, u116, u117, u118, u119, u120, u121, u122, u123, u124, u125, u126, u127, u128, u129, u130, u131, u132, u133, u134, u135, u136, u137, u138, u139, u140, u141, u142, u143, u144, u145, u146, u147, u148, u149, u150, u151, u152, u153, .int .i64 x2, y155, y156, y157, y158, y159, y160, y161, y162, y163, y164, y165, y166, y167, y168, y169, y170, y171, y172, y173, y174, y175, y176, y177, y178, y179, y180, y181, y182, y183, y184, y185, y186, y187, y188, y189, y190, y191, y192, y193, y194, y195, y196, y197, y198, y199, y200, y201, y202, y203, y204, y205, y206, y207, y208, y209, y210, y211, y212, y213, y214, y215, y216, y217, y218, y219, y220, u221, u222, u223, u224, u225, u226, u227, u228, u229, u230, u231, u232, u233, u234, u235, u236, u237, u238, u239, u240, u241, u242, u243, u244, u245, u246, u247, u248, u249, u250, u251, u252, u253, u254, u255, u256, u257, u258, u259, u260, u261], []⟩ wx) :
    Code.wp Tryz.prog ((Tryz.f15.body.bind (blkIn 2)).getD .skip) Q ⟨#[.string t, u1, .pointer (some ⟨w.heap.size, 0, none⟩), u3, .pointer (some ⟨w.heap.size + 1, 0, none⟩), u5, u6, u7, u8, u9, u10, .pointer (some ⟨rb, 0, none⟩), u12, u13, u14, u15, u16, u17, u18, u19, u20, u21, u22, u23, u24, u25, u26, u27, u28, u29, u30, u31, u32, u33, u34, u35, u36, u37, u38, u39, u40, u41, u42, u43, u44, u45, u46, u47, u48, u49, u50, u51, u52, u53, u54, u55, u56, u57, u58, u59, u60, u61, u62, u63, u64, u65, u66, u67, u68, u69, u70, u71, u72, u73, u74, u75, u76, u77, u78, u79, u80, u81, u82, u83, u84, u85, u86, u87, u88, u89, u90, u91, u92, u93, u94, u95, u96, u97, u98, u99, u100, u101, u102, u103, u104, u105, u106, u107, u108, u109, u110, u111, u112, u113, u114, u115, u116, u117, u118, u119, u120, u121, u122, u123, u124, u125, u126, u127, u128, u129, u130, u131, u132, u133, u134, u135, u136, u137, u138, u139, u140, u141, u142, u143, u144, u145, u146, u147, u148, u149, u150, u151, u152, u153, .int .i64 x2, u155, u156, u157, u158, u159, u160, u161, u162, u163, u164, u165, u166, u167, u168, u169, u170, u171, u172, u173, u174, u175, u176, u177, u178, u179, u180, u181, u182, u183, u184, u185, u186, u187, u188, u189, u190, u191, u192, u193, u194, u195, u196, u197, u198, u199, u200, u201, u202, u203, u204, u205, u206, u207, u208, u209, u210, u211, u212, u213, u214, u215, u216, u217, u218, u219, u220, u221, u222, u223, u224, u225, u226, u227, u228, u229, u230, u231, u232, u233, u234, u235, u236, u237, u238, u239, u240, u241, u242, u243, u244, u245, u246, u247, u248, u249, u250, u251, u252, u253, u254, u255, u256, u257, u258, u259, u260, u261], []⟩ wh := by
  conv => arg 2; whnf
  have HQN : Hid _ := hN
  clear hN
  have HQE : Hid _ := hE
  clear hE
  have k5 : wh.cell? ⟨w.heap.size + 1, 2, none⟩ = some (.bool false) := R9.out.sbad
  by_cases h1 : x2 = 1
  · have hx1 : ((x2 : Nat) : Int) = 1 := by omega
    have HX1 : Hid (((x2 : Nat) : Int) = 1) := hx1
    have e1 : ((x2 : Int) == 1) = true := by simp [hx1]
    clear h1 hx1 HRE k5
    go_wp2_with fail
    refine (snum_l (w.heap.size + 1) b5 4 t false _ R9.out.sc hs (by omega) (by omega) hb5).mono ?_
    rintro e wi ⟨x6, b6, d6, rfl, hb6, hx6, HD, HI, HN6⟩
    have RA : Hid (Sr (w.heap.size + 1) rb t wr b6 d6 #[.string s1, .int .i64 x2, .int .i64 x4, .int .i64 0, .string ⟨#[]⟩, .int .i64 0, .string ⟨#[]⟩] wi) := R9.out.call HI HD
    have z3 := RA.out.free 3
    have c3 : wi.cell? ⟨rb, 3, none⟩ = some (.int .i64 0) := RA.out.cell 3
    have HX := dat_one (s := s1) (la := (x4 : Int)) HN6.out
    rw [← HX1.out] at HX
    have HXA : Hid (d6 = true → datF t b5 s1 x2 x4 = none) := HX.1
    have HXB : Hid (d6 = false → datF t b5 s1 x2 x4 = some (⟨s1, x2, x4, x6, ⟨#[]⟩, 0, ⟨#[]⟩⟩, b6)) := HX.2
    clear HX HX1 R9 HD HI HN6
    go_wp2_with fail
    exact HQN.out _ _ _ _ _ _ _ _ _ _ _ _ _ _ _ _ _ _ _ _ _ _ _ _ _ _ _ _ _ _ _ _ _ _ _ _ _ _ _ _ _ _ _ _ _ _ _ _ _ _ _ _ _ _ _ _ _ _ _ _ _ _ _ _ _ _ _ ⟨s1, x2, x4, x6, ⟨#[]⟩, 0, ⟨#[]⟩⟩ b6 d6 _ hb6 (rec_oks hs1 (Nat.zero_le _) (Nat.zero_le _)) (RA.out.store 3 (.int .i64 x6)) HXA HXB
  by_cases h16 : x2 = 16
  · have hx1 : ((x2 : Nat) : Int) = 16 := by omega
    have HX1 : Hid (((x2 : Nat) : Int) = 16) := hx1
    have e1 : ((x2 : Int) == 1) = false := by simp; omega
    have e2 : ((x2 : Int) == 16) = true := by simp [hx1]
    clear h1 h16 hx1 k5
    go_wp2_with fail
    refine (snum_l (w.heap.size + 1) b5 1 t false _ R9.out.sc hs (by omega) (by omega) hb5).mono ?_
    rintro e wi ⟨x6, b6, d6, rfl, hb6, hx6, HD, HI, HN6⟩
    have RA : Hid (Sr (w.heap.size + 1) rb t wr b6 d6 #[.string s1, .int .i64 x2, .int .i64 x4, .int .i64 0, .string ⟨#[]⟩, .int .i64 0, .string ⟨#[]⟩] wi) := R9.out.call HI HD
    have HSY : Hid (Sc w t mb b6 d6 mv wi) := HS.out.call RA.out.sc RA.out.rd
    have HX := dat_text (s := s1) (la := (x4 : Int)) HN6.out
    rw [← HX1.out] at HX
    have HXA : Hid (d6 = true → datF t b5 s1 x2 x4 = none) := HX.1
    have HXB : Hid (d6 = false → (¬ b6 + x6 ≤ t.size → datF t b5 s1 x2 x4 = none) ∧ (b6 + x6 ≤ t.size → datF t b5 s1 x2 x4 = some (⟨s1, x2, x4, 0, t.extract b6 (b6 + x6), 0, ⟨#[]⟩⟩, b6 + x6))) := HX.2
    have l1 : wi.cell? ⟨w.heap.size + 1, 1, none⟩ = some (.int .i64 b6) := RA.out.sat
    have l2 : wi.cell? ⟨w.heap.size + 1, 2, none⟩ = some (.bool d6) := RA.out.sbad
    have l3 := RA.out.sfree 1
    have hw6 : IntKind.i64.wrap ((b6 : Int) + (x6 : Int)) = (b6 : Int) + (x6 : Int) := by rw [IntKind.wrap_i64]; omega
    clear HX HX1 R9 HD HI HN6
    cases d6 with
    | true =>
      have HE : Hid (rdE t ≠ 0) := rdE_none (HRM.out (rec_none HRE.out (HXA.out rfl)))
      clear HXA HXB HRE HQN
      have q0 : wi.cell? ⟨w.heap.size, 0, none⟩ = some (.int .i64 0) := HSY.out.qcell 0
      have yy0 := HSY.out.qfree 0
      have q1 : wi.cell? ⟨w.heap.size, 1, none⟩ = some (.bool false) := HSY.out.qcell 1
      have yy1 := HSY.out.qfree 1
      have q2 : wi.cell? ⟨w.heap.size, 2, none⟩ = some (.bool false) := HSY.out.qcell 2
      have yy2 := HSY.out.qfree 2
      have q3 : wi.cell? ⟨w.heap.size, 3, none⟩ = some (.int .i64 0) := HSY.out.qcell 3
      have yy3 := HSY.out.qfree 3
      have q4 : wi.cell? ⟨w.heap.size, 4, none⟩ = some (.string ⟨#[]⟩) := HSY.out.qcell 4
      have yy4 := HSY.out.qfree 4
      have q5 : wi.cell? ⟨w.heap.size, 5, none⟩ = some (.int .i64 0) := HSY.out.qcell 5
      have yy5 := HSY.out.qfree 5
      have q6 : wi.cell? ⟨w.heap.size, 6, none⟩ = some (.slice none 0 0) := HSY.out.qcell 6
      have yy6 := HSY.out.qfree 6
      go_wp2_with fail
      exact HQE.out _ _ ⟨rfl, rfl, rfl, HSY.out.zeroed, atop 6 (atop 5 (atop 4 (atop 3 (atop 2 (atop 1 (atop 0 HSY.out.bl (Nat.le_refl _)) (Nat.le_refl _)) (Nat.le_refl _)) (Nat.le_refl _)) (Nat.le_refl _)) (Nat.le_refl _)) (Nat.le_refl _), HE.out⟩
    | false =>
      obtain ⟨hxa, hxb⟩ := HXB.out rfl
      by_cases hin : b6 + x6 ≤ t.size
      rotate_left
      · have HE : Hid (rdE t ≠ 0) := rdE_none (HRM.out (rec_none HRE.out (hxa hin)))
        have hg6 : decide ((t.size : Int) < (b6 : Int) + (x6 : Int)) = true := by simp; omega
        clear HXA HXB HRE hxa hxb hin HQN
        have q0 : wi.cell? ⟨w.heap.size, 0, none⟩ = some (.int .i64 0) := HSY.out.qcell 0
        have yy0 := HSY.out.qfree 0
        have q1 : wi.cell? ⟨w.heap.size, 1, none⟩ = some (.bool false) := HSY.out.qcell 1
        have yy1 := HSY.out.qfree 1
        have q2 : wi.cell? ⟨w.heap.size, 2, none⟩ = some (.bool false) := HSY.out.qcell 2
        have yy2 := HSY.out.qfree 2
        have q3 : wi.cell? ⟨w.heap.size, 3, none⟩ = some (.int .i64 0) := HSY.out.qcell 3
        have yy3 := HSY.out.qfree 3
        have q4 : wi.cell? ⟨w.heap.size, 4, none⟩ = some (.string ⟨#[]⟩) := HSY.out.qcell 4
        have yy4 := HSY.out.qfree 4
        have q5 : wi.cell? ⟨w.heap.size, 5, none⟩ = some (.int .i64 0) := HSY.out.qcell 5
        have yy5 := HSY.out.qfree 5
        have q6 : wi.cell? ⟨w.heap.size, 6, none⟩ = some (.slice none 0 0) := HSY.out.qcell 6
        have yy6 := HSY.out.qfree 6
        go_wp2_with fail
        exact HQE.out _ _ ⟨rfl, rfl, rfl, HSY.out.zeroed, atop 6 (atop 5 (atop 4 (atop 3 (atop 2 (atop 1 (atop 0 HSY.out.bl (Nat.le_refl _)) (Nat.le_refl _)) (Nat.le_refl _)) (Nat.le_refl _)) (Nat.le_refl _)) (Nat.le_refl _)) (Nat.le_refl _), HE.out⟩
      have hg6 : decide ((t.size : Int) < (b6 : Int) + (x6 : Int)) = false := by simp; omega
      have HXC : Hid (datF t b5 s1 x2 x4 = some (⟨s1, x2, x4, 0, t.extract b6 (b6 + x6), 0, ⟨#[]⟩⟩, b6 + x6)) := hxb hin
      have z4 := RA.out.free 4
      have c4 : wi.cell? ⟨rb, 4, none⟩ = some (.string ⟨#[]⟩) := RA.out.cell 4
      have hts : (t.extract b6 (b6 + x6)).size ≤ 1000 := by simp; omega
      clear HXA HXB HRE hxa hxb HSY
      have hi0 : (0 : Int) ≤ (b6 : Int) := by omega
      have hi1 : (b6 : Int) ≤ (b6 : Int) + (x6 : Int) := by omega
      have hi2 : (b6 : Int) + (x6 : Int) ≤ (t.size : Int) := by omega
      have hi3 : ((b6 : Int) + (x6 : Int)).toNat = b6 + x6 := by omega
      have hi4 : ((b6 : Int)).toNat = b6 := by omega
      go_wp2_with fail
      go_region
      go_wp2_with fail
      exact HQN.out _ _ _ _ _ _ _ _ _ _ _ _ _ _ _ _ _ _ _ _ _ _ _ _ _ _ _ _ _ _ _ _ _ _ _ _ _ _ _ _ _ _ _ _ _ _ _ _ _ _ _ _ _ _ _ _ _ _ _ _ _ _ _ _ _ _ _ ⟨s1, x2, x4, 0, t.extract b6 (b6 + x6), 0, ⟨#[]⟩⟩ (b6 + x6) false _ (by omega) (rec_oks hs1 hts (Nat.zero_le _)) (((RA.out.store 4 (.string (t.extract b6 (b6 + x6)))).at (b6 + x6)).ext (World.Extends.refl _).drew) (fun e => by cases e) (fun _ => HXC.out)
  by_cases h33 : x2 = 33
  · have hx1 : ((x2 : Nat) : Int) = 33 := by omega
    have HX1 : Hid (((x2 : Nat) : Int) = 33) := hx1
    have e1 : ((x2 : Int) == 1) = false := by simp; omega
    have e2 : ((x2 : Int) == 16) = false := by simp; omega
    have e3 : ((x2 : Int) == 33) = true := by simp [hx1]
    clear h1 h16 h33 hx1 HRE
    go_wp2_with fail
    refine (snum_l (w.heap.size + 1) b5 4 t false _ R9.out.sc hs (by omega) (by omega) hb5).mono ?_
    rintro e wi ⟨x6, b6, d6, rfl, hb6, hx6, HD, HI, HN6⟩
    have RA : Hid (Sr (w.heap.size + 1) rb t wr b6 d6 #[.string s1, .int .i64 x2, .int .i64 x4, .int .i64 0, .string ⟨#[]⟩, .int .i64 0, .string ⟨#[]⟩] wi) := R9.out.call HI HD
    have l2 : wi.cell? ⟨w.heap.size + 1, 2, none⟩ = some (.bool d6) := RA.out.sbad
    have l3 := RA.out.sfree 2
    obtain ⟨d6x, hd6x⟩ : ∃ x, ((x6 : Int) != 0) = x := ⟨_, rfl⟩
    clear R9 HD HI k5
    go_wp2_with fail
    have RB : Hid (Sr (w.heap.size + 1) rb t wr b6 d6x #[.string s1, .int .i64 x2, .int .i64 x4, .int .i64 0, .string ⟨#[]⟩, .int .i64 0, .string ⟨#[]⟩] (wi.setCell ⟨w.heap.size + 1, 2, none⟩ (.bool d6x))) := RA.out.mark d6x
    refine (snum_l (w.heap.size + 1) b6 2 t d6x _ RB.out.sc hs (by omega) (by omega) hb6).mono ?_
    rintro e wj ⟨x7, b7, d7, rfl, hb7, hx7, HD, HI, HN7⟩
    have RC : Hid (Sr (w.heap.size + 1) rb t wr b7 d7 #[.string s1, .int .i64 x2, .int .i64 x4, .int .i64 0, .string ⟨#[]⟩, .int .i64 0, .string ⟨#[]⟩] wj) := RB.out.call HI HD
    have z5 := RC.out.free 5
    have c5 : wj.cell? ⟨rb, 5, none⟩ = some (.int .i64 0) := RC.out.cell 5
    have HX6 : Hid (((x6 : Int) != 0) = d6x) := hd6x
    have hb7s : d7 = false → b7 ≤ t.size := fun e => by have := (HN7.out.1 e).2; omega
    have HB7 : Hid (d7 = false → b7 ≤ t.size) := hb7s
    clear RA RB HD HI l2 l3 hd6x hb7s
    go_wp2_with fail
    have RD : Hid (Sr (w.heap.size + 1) rb t wr b7 d7 #[.string s1, .int .i64 x2, .int .i64 x4, .int .i64 0, .string ⟨#[]⟩, .int .i64 x7, .string ⟨#[]⟩] (wj.setCell ⟨rb, 5, none⟩ (.int .i64 x7))) := RC.out.store 5 (.int .i64 x7)
    refine (sname_l (w.heap.size + 1) b7 t d7 _ RD.out.sc hs hb7 HB7.out).mono ?_
    rintro e wk ⟨s8, b8, d8, rfl, hb8, hs8, HD, HI, HN8⟩
    have RE : Hid (Sr (w.heap.size + 1) rb t wr b8 d8 #[.string s1, .int .i64 x2, .int .i64 x4, .int .i64 0, .string ⟨#[]⟩, .int .i64 x7, .string ⟨#[]⟩] wk) := RD.out.call HI HD
    have z6 := RE.out.free 6
    have c6 : wk.cell? ⟨rb, 6, none⟩ = some (.string ⟨#[]⟩) := RE.out.cell 6
    have HX := dat_where (s := s1) (la := (x4 : Int)) HN6.out (by rw [HX6.out]; exact HN7.out) HN8.out
    rw [← HX1.out] at HX
    have HXA : Hid (d8 = true → datF t b5 s1 x2 x4 = none) := HX.1
    have HXB : Hid (d8 = false → datF t b5 s1 x2 x4 = some (⟨s1, x2, x4, 0, ⟨#[]⟩, x7, s8⟩, b8)) := HX.2
    clear HX HX1 RC RD HD HI HN6 HN7 HN8 HX6 z5 c5 HB7
    go_wp2_with fail
    exact HQN.out _ _ _ _ _ _ _ _ _ _ _ _ _ _ _ _ _ _ _ _ _ _ _ _ _ _ _ _ _ _ _ _ _ _ _ _ _ _ _ _ _ _ _ _ _ _ _ _ _ _ _ _ _ _ _ _ _ _ _ _ _ _ _ _ _ _ _ ⟨s1, x2, x4, 0, ⟨#[]⟩, x7, s8⟩ b8 d8 _ hb8 (rec_oks hs1 (Nat.zero_le _) hs8) (RE.out.store 6 (.string s8)) HXA HXB
  · have e1 : ((x2 : Int) == 1) = false := by simp; omega
    have e2 : ((x2 : Int) == 16) = false := by simp; omega
    have e3 : ((x2 : Int) == 33) = false := by simp; omega
    have HXB : Hid (datF t b5 s1 x2 x4 = some (⟨s1, x2, x4, 0, ⟨#[]⟩, 0, ⟨#[]⟩⟩, b5)) := dat_else (by omega) (by omega) (by omega)
    clear h1 h16 h33 HRE k5
    go_wp2_with fail
    exact HQN.out _ _ _ _ _ _ _ _ _ _ _ _ _ _ _ _ _ _ _ _ _ _ _ _ _ _ _ _ _ _ _ _ _ _ _ _ _ _ _ _ _ _ _ _ _ _ _ _ _ _ _ _ _ _ _ _ _ _ _ _ _ _ _ _ _ _ _ ⟨s1, x2, x4, 0, ⟨#[]⟩, 0, ⟨#[]⟩⟩ b5 false _ hb5 (rec_oks hs1 (Nat.zero_le _) (Nat.zero_le _)) R9 (fun e => by cases e) (fun _ => HXB.out)

end Go.Proofs.YtignmeaeibaejaaGreatDoor

