
/- AnswerTrue: region 17, whole. -/
import Derived.Test.YtignmeaeibaejaaGreatANPV
import Derived.Test.YtignmeaeibaejaaGreatANQV
namespace Go.Proofs.YtignmeaeibaejaaGreat
open Go.RowKit

set_option maxHeartbeats 6400000 in
set_option maxRecDepth 1000000 in
theorem rt17 {u0 u1 u4 u6 u7 u10 u13 u14 u15 u16 u17 u18 u19 u20 u21 u22 u23 u24 u25 u26 u27 u28 u29 u30 u31 u32 u33 u34 u35 u36 u37 u38 u39 u40 u41 u42 u43 u44 u45 u46 u47 u48 u49 u50 u51 u52 u53 u54 u55 u56 u57 u58 u59 u60 u61 u62 u63 u64 u65 u66 u67 u68 u69 u70 u71 u72 u73 u74 u75 u76 u77 u78 u79 u80 u81 u82 u83 u84 u85 u86 u87 u88 u89 u90 u91 u92 u93 u94 u95 u96 u97 u98 u99 u100 u101 u102 u103 u104 u105 u106 u107 u108 u109 u110 u111 u112 u113 u114 u115 u116 u117 u118 u119 u120 u121 u122 u123 u124 u125 u126 u127 u128 u129 u130 : Value} (w : World) (qb kb rb ro nr cr i sb : Nat) (Q : Exit → Act → World → Prop) (f : Bool) (ra ad at0 st : Int) (nm qs qt tg : ByteArray) (pa gn R : Bool) (c0 : w.cell? ⟨rb, ro + i * 7 + 3, none⟩ = some (.int .i64 ra)) (hi : i < nr) (c1 : w.cell? ⟨sb, 4, none⟩ = some (.int .i64 ad)) (c2 : w.cell? ⟨sb, 2, none⟩ = some (.string nm)) (c3 : w.cell? ⟨qb, 0, none⟩ = some (.string qs)) (c4 : w.cell? ⟨qb, 1, none⟩ = some (.string qt)) (c5 : w.cell? ⟨sb, 3, none⟩ = some (.string tg)) (c6 : w.cell? ⟨sb, 6, none⟩ = some (.bool pa)) (c8 : w.cell? ⟨sb, 8, none⟩ = some (.bool gn))
    (hat : (at0 = -1 ∧ st < 3) ∨ ∃ (mb mo nm2 cm2 j : Nat), at0 = (j : Int) ∧ w.cell? ⟨kb, 2, none⟩ = some (.slice (some ⟨mb, mo, none⟩) nm2 cm2) ∧ w.cell? ⟨mb, mo + j * 5 + 1, none⟩ = some (.int .i64 st) ∧ j < nm2)
    (hR : R = (f || ((ad == ra) && ((nm.toList == qs.toList) && ((qt.toList == []) || (tg.toList == qt.toList)) && pa && !gn) && decide (st < 3))))
    (hN : ∀ (y74 y75 y76 y77 y78 y79 y80 y81 y82 y83 y84 y85 y86 y87 y88 y89 y90 y91 y92 y93 y94 y95 y96 y97 y98 y99 y100 y101 y102 y103 y104 y105 y106 y107 y108 y109 y110 y111 y112 y113 y114 y115 y116 y117 y118 y119 y120 y121 y122 y123 y124 y125 : Value) (wx : World), Below w.heap.size w wx → Q .normal ⟨#[u0, u1, .pointer (some ⟨qb, 0, none⟩), .pointer (some ⟨kb, 0, none⟩), u4, .slice (some ⟨rb, ro, none⟩) nr cr, u6, u7, .int .i64 i, .bool R, u10, .pointer (some ⟨sb, 0, none⟩), .int .i64 at0, u13, u14, u15, u16, u17, u18, u19, u20, u21, u22, u23, u24, u25, u26, u27, u28, u29, u30, u31, u32, u33, u34, u35, u36, u37, u38, u39, u40, u41, u42, u43, u44, u45, u46, u47, u48, u49, u50, u51, u52, u53, u54, u55, u56, u57, u58, u59, u60, u61, u62, u63, u64, u65, u66, u67, u68, u69, u70, u71, u72, u73, y74, y75, y76, y77, y78, y79, y80, y81, y82, y83, y84, y85, y86, y87, y88, y89, y90, y91, y92, y93, y94, y95, y96, y97, y98, y99, y100, y101, y102, y103, y104, y105, y106, y107, y108, y109, y110, y111, y112, y113, y114, y115, y116, y117, y118, y119, y120, y121, y122, y123, y124, y125, u126, u127, u128, u129, u130], []⟩ wx) :
    Code.wp Tryz.prog ((Tryz.f4.body.bind (regIn 17)).getD .skip) Q ⟨#[u0, u1, .pointer (some ⟨qb, 0, none⟩), .pointer (some ⟨kb, 0, none⟩), u4, .slice (some ⟨rb, ro, none⟩) nr cr, u6, u7, .int .i64 i, .bool f, u10, .pointer (some ⟨sb, 0, none⟩), .int .i64 at0, u13, u14, u15, u16, u17, u18, u19, u20, u21, u22, u23, u24, u25, u26, u27, u28, u29, u30, u31, u32, u33, u34, u35, u36, u37, u38, u39, u40, u41, u42, u43, u44, u45, u46, u47, u48, u49, u50, u51, u52, u53, u54, u55, u56, u57, u58, u59, u60, u61, u62, u63, u64, u65, u66, u67, u68, u69, u70, u71, u72, u73, u74, u75, u76, u77, u78, u79, u80, u81, u82, u83, u84, u85, u86, u87, u88, u89, u90, u91, u92, u93, u94, u95, u96, u97, u98, u99, u100, u101, u102, u103, u104, u105, u106, u107, u108, u109, u110, u111, u112, u113, u114, u115, u116, u117, u118, u119, u120, u121, u122, u123, u124, u125, u126, u127, u128, u129, u130], []⟩ w := by
  cases f with
  | true =>
    have hr : R = true := by rw [hR]; rfl
    subst hr
    exact rt17_t0 w qb kb rb ro nr cr i sb Q at0   hN
  | false =>
    simp only [Bool.false_or] at hR
    cases e1 : (ad == ra) with
    | false =>
      have hr : R = false := by rw [hR, e1]; rfl
      subst hr
      exact rt17_a w qb kb rb ro nr cr i sb Q ra ad at0 c0 hi c1 e1 hN
    | true =>
      cases e2 : (nm.toList == qs.toList) with
      | false =>
        have hr : R = false := by rw [hR, e1, e2]; rfl
        subst hr
        exact rt17_b w qb kb rb ro nr cr i sb Q ra ad at0 nm qs c0 hi c1 c2 c3 e1 e2 hN
      | true =>
        cases e3 : (qt.toList == []) with
        | false =>
          cases e4 : (tg.toList == qt.toList) with
          | false =>
            have hr : R = false := by rw [hR, e1, e2, e3, e4]; rfl
            subst hr
            exact rt17_c w qb kb rb ro nr cr i sb Q ra ad at0 nm qs qt tg c0 hi c1 c2 c3 c4 c5 e1 e2 e3 e4 hN
          | true =>
            cases pa with
            | false =>
              have hr : R = false := by rw [hR, e1, e2, e3, e4]; simp
              subst hr
              exact rt17_e1 w qb kb rb ro nr cr i sb Q ra ad at0 nm qs qt tg c0 hi c1 c2 c3 c4 c5 c6 e1 e2 e3 e4 hN
            | true =>
              cases gn with
              | true =>
                have hr : R = false := by rw [hR, e1, e2, e3, e4]; simp
                subst hr
                exact rt17_e2 w qb kb rb ro nr cr i sb Q ra ad at0 nm qs qt tg c0 hi c1 c2 c3 c4 c5 c6 c8 e1 e2 e3 e4 hN
              | false =>
                rcases hat with ⟨h1, h2⟩ | ⟨mb, mo, nm2, cm2, j, h1, c9, c10, hj⟩
                · have hr : R = true := by rw [hR, e1, e2, e3, e4]; simp [h2]
                  subst hr
                  subst h1
                  exact rt17_e3 w qb kb rb ro nr cr i sb Q ra ad nm qs qt tg c0 hi c1 c2 c3 c4 c5 c6 c8 e1 e2 e3 e4 hN
                · subst h1
                  by_cases e5 : st < 3
                  · have hr : R = true := by rw [hR, e1, e2, e3, e4]; simp [e5]
                    subst hr
                    exact rt17_e4 w qb kb rb ro nr cr i sb Q ra ad st nm qs qt tg mb mo nm2 cm2 j c0 hi c1 c2 c3 c4 c5 c6 c8 c9 c10 hj e1 e2 e3 e4 e5 hN
                  · have hr : R = false := by rw [hR, e1, e2, e3, e4]; simp [e5]
                    subst hr
                    exact rt17_e5 w qb kb rb ro nr cr i sb Q ra ad st nm qs qt tg mb mo nm2 cm2 j c0 hi c1 c2 c3 c4 c5 c6 c8 c9 c10 hj e1 e2 e3 e4 e5 hN
        | true =>
          cases pa with
          | false =>
            have hr : R = false := by rw [hR, e1, e2, e3]; simp
            subst hr
            exact rt17_d1 w qb kb rb ro nr cr i sb Q ra ad at0 nm qs qt c0 hi c1 c2 c3 c4 c6 e1 e2 e3 hN
          | true =>
            cases gn with
            | true =>
              have hr : R = false := by rw [hR, e1, e2, e3]; simp
              subst hr
              exact rt17_d2 w qb kb rb ro nr cr i sb Q ra ad at0 nm qs qt c0 hi c1 c2 c3 c4 c6 c8 e1 e2 e3 hN
            | false =>
              rcases hat with ⟨h1, h2⟩ | ⟨mb, mo, nm2, cm2, j, h1, c9, c10, hj⟩
              · have hr : R = true := by rw [hR, e1, e2, e3]; simp [h2]
                subst hr
                subst h1
                exact rt17_d3 w qb kb rb ro nr cr i sb Q ra ad nm qs qt c0 hi c1 c2 c3 c4 c6 c8 e1 e2 e3 hN
              · subst h1
                by_cases e5 : st < 3
                · have hr : R = true := by rw [hR, e1, e2, e3]; simp [e5]
                  subst hr
                  exact rt17_d4 w qb kb rb ro nr cr i sb Q ra ad st nm qs qt mb mo nm2 cm2 j c0 hi c1 c2 c3 c4 c6 c8 c9 c10 hj e1 e2 e3 e5 hN
                · have hr : R = false := by rw [hR, e1, e2, e3]; simp [e5]
                  subst hr
                  exact rt17_d5 w qb kb rb ro nr cr i sb Q ra ad st nm qs qt mb mo nm2 cm2 j c0 hi c1 c2 c3 c4 c6 c8 c9 c10 hj e1 e2 e3 e5 hN

end Go.Proofs.YtignmeaeibaejaaGreat
