/- RU9, NDWS, NDWP -/
import Derived.Test.YtdfkpehggecbaaaGreatDoorV39
import Derived.Test.YtdfkpehggecbaaaGreatDoorV7
import Derived.Test.YtdfkpehggecbaaaGreatDoorV11
import Derived.Laws.StructEq
import Derived.Test.YtdfkpehggecbaaaGreatDoorV28
import Derived.Test.YtdfkpehggecbaaaGreatDoorV16
import Derived.Test.YtdfkpehggecbaaaGreatDoorV37
import Derived.Test.YtdfkpehggecbaaaGreatDoorV40
/- Rumors: the document's Check, and whether lists are the same. -/
namespace Go.Proofs.YtdfkpehggecbaaaGreatDoor
open Go.RowKit Go.WideMaps Go.Maps

set_option maxHeartbeats 800000 in
theorem eqInM (d : Nat) (m : Mem) (w : World) : (Op.equalIn (d + 1 + 1) 55 (.agg #[.string m.name, .int .i64 m.state, .int .i64 m.life, .int .i64 m.addr, .bool m.server]) (.agg #[.string m.name, .int .i64 m.state, .int .i64 m.life, .int .i64 m.addr, .bool m.server])).run Tryz.prog w = .ok true w := by
  obtain ⟨n1, s1, l1, a1, v1⟩ := m
  have u3 := run_underlying Tryz.underlying3
  have a3 := Tryz.isAgg3
  have z3 := Tryz.sizeOf3
  have u4 := run_underlying Tryz.underlying4
  have a4 := Tryz.isAgg4
  have z4 := Tryz.sizeOf4
  have u9 := run_underlying Tryz.underlying9
  have a9 := Tryz.isAgg9
  have z9 := Tryz.sizeOf9
  have hS : Tryz.prog.underlying 55 = some (.struct (Tryz.prog.fieldsOf 55)) := by kernel_rfl
  have hp : Tryz.prog.stoodInHeld 55 = false := by kernel_rfl
  rw [run_equalIn_agg w (d + 1) 55 _ _ hS hp]
  simp only [Program.fieldsOf, Tryz.underlying55]
  go_simp

theorem beq_names (a b : ByteArray) : (a.toList == b.toList) = decide (a = b) := by
  by_cases h : a = b
  · subst h; simp
  · have h2 : ¬ a.toList = b.toList := fun e => h (ba_ext (by rw [Lib.toList_data, Lib.toList_data] at e; exact e))
    simp [h, h2]

end Go.Proofs.YtdfkpehggecbaaaGreatDoor

/- Places that are told: lists that are the same. -/
namespace Go.Proofs.YtdfkpehggecbaaaGreatDoor
namespace Wh
open Go.RowKit

set_option maxHeartbeats 800000 in
theorem eqInP (d : Nat) (r : Whe) (w : World) : (Op.equalIn (d + 1 + 1) 64 (.agg #[.int .i64 r.x, .int .i64 r.y, .int .i64 r.z, .int .i64 r.h, .int .i64 r.s]) (.agg #[.int .i64 r.x, .int .i64 r.y, .int .i64 r.z, .int .i64 r.h, .int .i64 r.s])).run Tryz.prog w = .ok true w := by
  obtain ⟨n1, x1, y1, z1, h1, s1⟩ := r
  have u3 := run_underlying Tryz.underlying3
  have a3 := Tryz.isAgg3
  have z3 := Tryz.sizeOf3
  have hS : Tryz.prog.underlying 64 = some (.struct (Tryz.prog.fieldsOf 64)) := by kernel_rfl
  have hp : Tryz.prog.stoodInHeld 64 = false := by kernel_rfl
  rw [run_equalIn_agg w (d + 1) 64 _ _ hS hp]
  simp only [Program.fieldsOf, Tryz.underlying64]
  go_simp

set_option maxHeartbeats 800000 in
theorem eqInW (r : Whe) (w : World) : (Op.equalIn 10000 66 (.agg #[.string r.node, .int .i64 r.x, .int .i64 r.y, .int .i64 r.z, .int .i64 r.h, .int .i64 r.s]) (.agg #[.string r.node, .int .i64 r.x, .int .i64 r.y, .int .i64 r.z, .int .i64 r.h, .int .i64 r.s])).run Tryz.prog w = .ok true w := by
  have hM := fun w => eqInP 9997 r w
  obtain ⟨n1, x1, y1, z1, h1, s1⟩ := r
  have u9 := run_underlying Tryz.underlying9
  have a9 := Tryz.isAgg9
  have z9 := Tryz.sizeOf9
  have a24 := Tryz.isAgg64
  have z24 := Tryz.sizeOf64
  have hS : Tryz.prog.underlying 66 = some (.struct (Tryz.prog.fieldsOf 66)) := by kernel_rfl
  have hp : Tryz.prog.stoodInHeld 66 = false := by kernel_rfl
  simp only at hM
  rw [show (10000 : Nat) = 9999 + 1 from rfl, run_equalIn_agg w 9999 66 _ _ hS hp]
  simp only [Program.fieldsOf, Tryz.underlying66]
  go_simp

theorem neqW (r : Whe) (w : World) : Sem.run Tryz.prog (binOp .neq 66 (.agg #[.string r.node, .int .i64 r.x, .int .i64 r.y, .int .i64 r.z, .int .i64 r.h, .int .i64 r.s]) (.agg #[.string r.node, .int .i64 r.x, .int .i64 r.y, .int .i64 r.z, .int .i64 r.h, .int .i64 r.s])) w = .ok (.bool false) w := by
  rw [run_neq_struct, eqInW]
  rfl

set_option maxHeartbeats 1600000 in
theorem same_self (rs : List Whe) (va vb : Value) (w : World) (ha : Sl w va rs) (hb : Sl w vb rs) (hsm : rs.length ≤ 1000) :
    Calls Tryz.prog 43 #[va, vb] w fun e w' => e = .returned (.bool true) ∧ Below w.heap.size w w' := by
  obtain ⟨pa, ca, rfl, _, ha⟩ := ha
  obtain ⟨pv, cb, rfl, _, hb⟩ := hb
  have HA : Hid (rs = [] ∨ ∃ b off, pa = some ⟨b, off, none⟩ ∧ b < w.heap.size ∧ Row w b off rs) := ha
  have HB : Hid (rs = [] ∨ ∃ b off, pv = some ⟨b, off, none⟩ ∧ b < w.heap.size ∧ Row w b off rs) := hb
  clear ha hb
  generalize hna : rs.length = n at *
  have HN : Hid (rs.length = n) := hna
  clear hna
  have hgR : Tryz.prog.eqGuardType Tryz.prog.depth 66 = false := by kernel_rfl
  go_enter Tryz.func43, Tryz.ntmps43
  go_wp2_with fail
  go_loopw [5] (fun i w' => ∃ k : Nat, k ≤ n ∧ i = .int .i64 k ∧ Hid (Below w.heap.size w w')) (fun i _ => n - (intOf i).toNat)
  case atStart => exact ⟨0, Nat.zero_le _, rfl, Below.refl _ _⟩
  case round =>
    obtain ⟨k, hk, rfl, HBL⟩ := hrel
    by_cases hlt : k < n
    · obtain ⟨b1, o1, hp1, hl1, hr1⟩ : ∃ b off, pa = some ⟨b, off, none⟩ ∧ b < w.heap.size ∧ Row w b off rs := by
        rcases HA.out with h | h
        · have := HN.out; rw [h] at this; simp at this; omega
        · exact h
      obtain ⟨b2, o2, hp2, hl2, hr2⟩ : ∃ b off, pv = some ⟨b, off, none⟩ ∧ b < w.heap.size ∧ Row w b off rs := by
        rcases HB.out with h | h
        · have := HN.out; rw [h] at this; simp at this; omega
        · exact h
      subst hp1
      subst hp2
      obtain ⟨c0, c1, c2, c3, c4, c5⟩ := Row.later hr1 HBL.out hl1 k (by rw [HN.out]; exact hlt)
      obtain ⟨d0, d1, d2, d3, d4, d5⟩ := Row.later hr2 HBL.out hl2 k (by rw [HN.out]; exact hlt)
      clear hr1 hr2
      have hneq := neqW (rs.getD k dm)
      generalize rs.getD k dm = rk at *
      obtain ⟨n1, x1, y1, z1, h1, s1⟩ := rk
      simp only at c0 c1 c2 c3 c4 c5 d0 d1 d2 d3 d4 d5 hneq
      go_wp2_with fail
      go_quiet (fail)
      go_wp2_with fail
      go_roundw
      case rel => exact ⟨k + 1, by omega, by go_num, below_drewN HBL.out _⟩
      case measure => simp [intOf]; omega
    · go_wp2_with fail
      go_ret
      exact ⟨rfl, HBL.out⟩

end Wh
end Go.Proofs.YtdfkpehggecbaaaGreatDoor

/- Packets that are the same. -/
namespace Go.Proofs.YtdfkpehggecbaaaGreatDoor
open Go.RowKit
theorem SameM (L : List Mem) (v1 v2 : Value) (w : World) (h1 : Sl w v1 L) (h2 : Sl w v2 L) (hn : L.length ≤ 1000) :
    Calls Tryz.prog 40 #[v1, v2] w fun e w' => e = .returned (.bool true) ∧ Below w.heap.size w w' :=
  (same_any L L v1 v2 w h1 h2 hn).mono (by rintro e w' ⟨r, rfl, hr, hb⟩; rw [hr.2 rfl]; exact ⟨rfl, hb⟩)
theorem SameS (L : List Sv.Svc) (v1 v2 : Value) (w : World) (h1 : Sv.Sl w v1 L) (h2 : Sv.Sl w v2 L) (hn : L.length ≤ 1000) :
    Calls Tryz.prog 41 #[v1, v2] w fun e w' => e = .returned (.bool true) ∧ Below w.heap.size w w' :=
  (Sv.same_any L L v1 v2 w h1 h2 hn).mono (by rintro e w' ⟨r, rfl, hr, hb⟩; rw [hr.2 rfl]; exact ⟨rfl, hb⟩)
theorem SameG (L : List Gw.Gwy) (v1 v2 : Value) (w : World) (h1 : Gw.Sl w v1 L) (h2 : Gw.Sl w v2 L) (hn : L.length ≤ 1000) :
    Calls Tryz.prog 42 #[v1, v2] w fun e w' => e = .returned (.bool true) ∧ Below w.heap.size w w' :=
  (Gw.same_any L L v1 v2 w h1 h2 hn).mono (by rintro e w' ⟨r, rfl, hr, hb⟩; rw [hr.2 rfl]; exact ⟨rfl, hb⟩)

/-- A packet lies in an array. -/
def IsPk (w : World) (p : Pk) (A : Array Value) : Prop := ∃ vm vs vg vw, A = #[.string p.frm, .bool p.whole, vm, vs, vg, vw] ∧ Sl w vm p.ms ∧ Sv.Sl w vs p.sv ∧ Gw.Sl w vg p.gw ∧ Wh.Sl w vw p.wh
theorem IsPk.below {w w' : World} {p : Pk} {A : Array Value} (h : IsPk w p A) (hb : Below w.heap.size w w') : IsPk w' p A := by
  obtain ⟨a, b, c, d, h1, h2, h3, h4, h5⟩ := h
  exact ⟨a, b, c, d, h1, h2.below hb, h3.below hb, h4.below hb, h5.below hb⟩
structure Pk.Small (p : Pk) : Prop where
  ms : p.ms.length ≤ 1000
  sv : p.sv.length ≤ 1000
  gw : p.gw.length ≤ 1000
  wh : p.wh.length ≤ 1000

set_option maxHeartbeats 12800000 in
set_option maxRecDepth 100000 in
theorem samePacket_any (p : Pk) (C D : Array Value) (w : World) (h1 : IsPk w p C) (h2 : IsPk w p D) (hs : p.Small) :
    Calls Tryz.prog 14 #[.agg C, .agg D] w fun e w' => e = .returned (.bool true) ∧ Below w.heap.size w w' := by
  obtain ⟨vm, vs, vg, vw, rfl, g1m, g1s, g1g, g1w⟩ := h1
  obtain ⟨um, us, ug, uw, rfl, g2m, g2s, g2g, g2w⟩ := h2
  obtain ⟨nm, wo, ms, sv, gw, wh⟩ := p
  obtain ⟨s1, s3, s4, s5⟩ := hs
  simp only at s1 s3 s4 s5 g1m g1s g1g g1w g2m g2s g2g g2w ⊢
  have HM : Hid (∀ W, Below w.heap.size w W → Calls Tryz.prog 40 #[vm, um] W fun e w' => e = .returned (.bool true) ∧ Below W.heap.size W w') := fun W hW => SameM ms _ _ W (g1m.below hW) (g2m.below hW) s1
  have HS : Hid (∀ W, Below w.heap.size w W → Calls Tryz.prog 41 #[vs, us] W fun e w' => e = .returned (.bool true) ∧ Below W.heap.size W w') := fun W hW => SameS sv _ _ W (g1s.below hW) (g2s.below hW) s3
  have HG : Hid (∀ W, Below w.heap.size w W → Calls Tryz.prog 42 #[vg, ug] W fun e w' => e = .returned (.bool true) ∧ Below W.heap.size W w') := fun W hW => SameG gw _ _ W (g1g.below hW) (g2g.below hW) s4
  have HW : Hid (∀ W, Below w.heap.size w W → Calls Tryz.prog 43 #[vw, uw] W fun e w' => e = .returned (.bool true) ∧ Below W.heap.size W w') := fun W hW => Wh.same_self wh _ _ W (g1w.below hW) (g2w.below hW) s5
  obtain ⟨em, cm, rfl, _, _⟩ := g1m
  obtain ⟨es, cs_, rfl, _, _⟩ := g1s
  obtain ⟨eg_, cg, rfl, _, _⟩ := g1g
  obtain ⟨eh, ch, rfl, _, _⟩ := g1w
  obtain ⟨fm, dm_, rfl, _, _⟩ := g2m
  obtain ⟨fs, ds_, rfl, _, _⟩ := g2s
  obtain ⟨fg, dg, rfl, _, _⟩ := g2g
  obtain ⟨fh, dh, rfl, _, _⟩ := g2w
  clear s1 s3 s4 s5
  obtain ⟨W0, hW0⟩ : ∃ W0, W0 = (w.alloc (.cells #[.string nm, .bool wo, .slice em ms.length cm, .slice es sv.length cs_, .slice eg_ gw.length cg, .slice eh wh.length ch] 27)).alloc (.cells #[.string nm, .bool wo, .slice fm ms.length dm_, .slice fs sv.length ds_, .slice fg gw.length dg, .slice fh wh.length dh] 27) := ⟨_, rfl⟩
  have hb0 : Below w.heap.size w W0 := by rw [hW0]; exact ((Below.refl _ _).alloc (Nat.le_refl _) _).alloc (by simp) _
  have hg0 : W0.heap[w.heap.size]? = some (.cells #[.string nm, .bool wo, .slice em ms.length cm, .slice es sv.length cs_, .slice eg_ gw.length cg, .slice eh wh.length ch] 27 (0, 0)) := by
    rw [hW0, Below.heap_alloc _ _ _ (by simp)]; exact heap_alloc_new w _
  have hz0 : W0.heap[w.heap.size + 1]? = some (.cells #[.string nm, .bool wo, .slice fm ms.length dm_, .slice fs sv.length ds_, .slice fg gw.length dg, .slice fh wh.length dh] 27 (0, 0)) := by
    have h := heap_alloc_new (w.alloc (.cells #[.string nm, .bool wo, .slice em ms.length cm, .slice es sv.length cs_, .slice eg_ gw.length cg, .slice eh wh.length ch] 27)) (.cells #[.string nm, .bool wo, .slice fm ms.length dm_, .slice fs sv.length ds_, .slice fg gw.length dg, .slice fh wh.length dh] 27)
    rw [hW0]; simpa using h
  have hs0 : w.heap.size + 1 < W0.heap.size := by rw [hW0]; simp
  have HB0 : Hid (Below w.heap.size w W0) := hb0
  have HG0 : Hid (W0.heap[w.heap.size]? = some (.cells #[.string nm, .bool wo, .slice em ms.length cm, .slice es sv.length cs_, .slice eg_ gw.length cg, .slice eh wh.length ch] 27 (0, 0))) := hg0
  have HZ0 : Hid (W0.heap[w.heap.size + 1]? = some (.cells #[.string nm, .bool wo, .slice fm ms.length dm_, .slice fs sv.length ds_, .slice fg gw.length dg, .slice fh wh.length dh] 27 (0, 0))) := hz0
  clear hb0 hg0 hz0
  go_enter Tryz.func14, Tryz.ntmps14
  go_wp2_with fail
  rw [← hW0]
  clear hW0
  refine (HM.out W0 HB0.out).mono ?_
  rintro e w1 ⟨rfl, hb1⟩
  have hg1 : w1.heap[w.heap.size]? = some (.cells #[.string nm, .bool wo, .slice em ms.length cm, .slice es sv.length cs_, .slice eg_ gw.length cg, .slice eh wh.length ch] 27 (0, 0)) := (hb1.block _ (by omega)).trans HG0.out
  have hz1 : w1.heap[w.heap.size + 1]? = some (.cells #[.string nm, .bool wo, .slice fm ms.length dm_, .slice fs sv.length ds_, .slice fg gw.length dg, .slice fh wh.length dh] 27 (0, 0)) := (hb1.block _ (by omega)).trans HZ0.out
  have hs1 : w.heap.size + 1 < w1.heap.size := by have := hb1.size; omega
  have HB1 : Hid (Below w.heap.size w w1) := HB0.out.trans (hb1.mono HB0.out.size)
  have HG1 : Hid (w1.heap[w.heap.size]? = some (.cells #[.string nm, .bool wo, .slice em ms.length cm, .slice es sv.length cs_, .slice eg_ gw.length cg, .slice eh wh.length ch] 27 (0, 0))) := hg1
  have HZ1 : Hid (w1.heap[w.heap.size + 1]? = some (.cells #[.string nm, .bool wo, .slice fm ms.length dm_, .slice fs sv.length ds_, .slice fg gw.length dg, .slice fh wh.length dh] 27 (0, 0))) := hz1
  have a1_3 : w1.cell? ⟨w.heap.size, 3, none⟩ = _ := cellsAt hg1 3
  have b1_3 : w1.cell? ⟨w.heap.size + 1, 3, none⟩ = _ := cellsAt hz1 3
  clear hb1 hg1 hz1 hs0
  go_wp2_with fail
  refine (HS.out w1 HB1.out).mono ?_
  rintro e w2 ⟨rfl, hb2⟩
  have hg2 : w2.heap[w.heap.size]? = some (.cells #[.string nm, .bool wo, .slice em ms.length cm, .slice es sv.length cs_, .slice eg_ gw.length cg, .slice eh wh.length ch] 27 (0, 0)) := (hb2.block _ (by omega)).trans HG1.out
  have hz2 : w2.heap[w.heap.size + 1]? = some (.cells #[.string nm, .bool wo, .slice fm ms.length dm_, .slice fs sv.length ds_, .slice fg gw.length dg, .slice fh wh.length dh] 27 (0, 0)) := (hb2.block _ (by omega)).trans HZ1.out
  have hs2 : w.heap.size + 1 < w2.heap.size := by have := hb2.size; omega
  have HB2 : Hid (Below w.heap.size w w2) := HB1.out.trans (hb2.mono HB1.out.size)
  have HG2 : Hid (w2.heap[w.heap.size]? = some (.cells #[.string nm, .bool wo, .slice em ms.length cm, .slice es sv.length cs_, .slice eg_ gw.length cg, .slice eh wh.length ch] 27 (0, 0))) := hg2
  have HZ2 : Hid (w2.heap[w.heap.size + 1]? = some (.cells #[.string nm, .bool wo, .slice fm ms.length dm_, .slice fs sv.length ds_, .slice fg gw.length dg, .slice fh wh.length dh] 27 (0, 0))) := hz2
  have a2_4 : w2.cell? ⟨w.heap.size, 4, none⟩ = _ := cellsAt hg2 4
  have b2_4 : w2.cell? ⟨w.heap.size + 1, 4, none⟩ = _ := cellsAt hz2 4
  clear hb2 hg2 hz2 hs1
  go_wp2_with fail
  refine (HG.out w2 HB2.out).mono ?_
  rintro e w3 ⟨rfl, hb3⟩
  have hg3 : w3.heap[w.heap.size]? = some (.cells #[.string nm, .bool wo, .slice em ms.length cm, .slice es sv.length cs_, .slice eg_ gw.length cg, .slice eh wh.length ch] 27 (0, 0)) := (hb3.block _ (by omega)).trans HG2.out
  have hz3 : w3.heap[w.heap.size + 1]? = some (.cells #[.string nm, .bool wo, .slice fm ms.length dm_, .slice fs sv.length ds_, .slice fg gw.length dg, .slice fh wh.length dh] 27 (0, 0)) := (hb3.block _ (by omega)).trans HZ2.out
  have hs3 : w.heap.size + 1 < w3.heap.size := by have := hb3.size; omega
  have HB3 : Hid (Below w.heap.size w w3) := HB2.out.trans (hb3.mono HB2.out.size)
  have HG3 : Hid (w3.heap[w.heap.size]? = some (.cells #[.string nm, .bool wo, .slice em ms.length cm, .slice es sv.length cs_, .slice eg_ gw.length cg, .slice eh wh.length ch] 27 (0, 0))) := hg3
  have HZ3 : Hid (w3.heap[w.heap.size + 1]? = some (.cells #[.string nm, .bool wo, .slice fm ms.length dm_, .slice fs sv.length ds_, .slice fg gw.length dg, .slice fh wh.length dh] 27 (0, 0))) := hz3
  have a3_5 : w3.cell? ⟨w.heap.size, 5, none⟩ = _ := cellsAt hg3 5
  have b3_5 : w3.cell? ⟨w.heap.size + 1, 5, none⟩ = _ := cellsAt hz3 5
  clear hb3 hg3 hz3 hs2
  go_wp2_with fail
  refine (HW.out w3 HB3.out).mono ?_
  rintro e w4 ⟨rfl, hb4⟩
  have hg4 : w4.heap[w.heap.size]? = some (.cells #[.string nm, .bool wo, .slice em ms.length cm, .slice es sv.length cs_, .slice eg_ gw.length cg, .slice eh wh.length ch] 27 (0, 0)) := (hb4.block _ (by omega)).trans HG3.out
  have hz4 : w4.heap[w.heap.size + 1]? = some (.cells #[.string nm, .bool wo, .slice fm ms.length dm_, .slice fs sv.length ds_, .slice fg gw.length dg, .slice fh wh.length dh] 27 (0, 0)) := (hb4.block _ (by omega)).trans HZ3.out
  have hs4 : w.heap.size + 1 < w4.heap.size := by have := hb4.size; omega
  have HB4 : Hid (Below w.heap.size w w4) := HB3.out.trans (hb4.mono HB3.out.size)
  have HG4 : Hid (w4.heap[w.heap.size]? = some (.cells #[.string nm, .bool wo, .slice em ms.length cm, .slice es sv.length cs_, .slice eg_ gw.length cg, .slice eh wh.length ch] 27 (0, 0))) := hg4
  have HZ4 : Hid (w4.heap[w.heap.size + 1]? = some (.cells #[.string nm, .bool wo, .slice fm ms.length dm_, .slice fs sv.length ds_, .slice fg gw.length dg, .slice fh wh.length dh] 27 (0, 0))) := hz4
  clear hb4 hg4 hz4 hs3
  go_wp2_with fail
  go_ret
  exact ⟨rfl, HB4.out⟩

end Go.Proofs.YtdfkpehggecbaaaGreatDoor

