/- JH, JJ, JK -/
import Derived.Test.YtdfkpehggecbaaaGreatDoorV29
import Derived.Shelf.RegionOpen
/- Packets: Write. -/
namespace Go.Proofs.YtdfkpehggecbaaaGreatDoor
open Go.RowKit

theorem Tryz.cellsByte : Tryz.prog.cellsOf 5 = 1 := by kernel_rfl

set_option maxHeartbeats 1000000 in
set_option maxRecDepth 100000 in
theorem string_any (B b : Nat) (l : List UInt8) (w : World) (h : IsW B b (Lib.byteCells l) w) (h0 : l ≠ []) :
    Calls Tryz.prog 16 #[.pointer (some ⟨b, 0, none⟩)] w fun e w' => e = .returned (.string ⟨l.toArray⟩) ∧ Below B w w' := by
  obtain ⟨p, hB, v, hbk, hown, hne⟩ : ∃ p, WAt B b p (Lib.byteCells l) w := by
    rcases h with h | h
    · exact ⟨_, h⟩
    · exact ⟨_, h⟩
  have hl0 : l.length ≠ 0 := by simpa using h0
  rw [Lib.byteCells_length] at hown
  obtain ⟨g, cap, cur, rfl, hbg, hg, hnc, hcm, hcs, htake⟩ : ∃ g cap cur, v = .slice (some ⟨g, 0, none⟩) l.length cap ∧ B ≤ g ∧ w.heap[g]? = some (.cells cur 5 (0, 0)) ∧ l.length ≤ cap ∧ cap ≤ maxLen ∧ cur.size = cap * 1 ∧ cur.toList.take (l.length * 1) = Lib.byteCells l := by
    rcases hown.2 with ⟨_, hz⟩ | ⟨g, cap, cur, hv, r⟩
    · exact absurd hz hl0
    · exact ⟨g, cap, cur, hv, r⟩
  have c1 : w.drew.cell? ⟨b, 1, none⟩ = some (.slice (some ⟨g, 0, none⟩) l.length cap) := by
    have : w.drew.heap[b]? = some (.cells #[p, .slice (some ⟨g, 0, none⟩) l.length cap] 46 (0, 0)) := hbk
    rw [Lib.cell_of_heap this]; rfl
  have hSD : (Builtin.unsafeSliceData_ #[42] 93 #[.slice (some ⟨g, 0, none⟩) l.length cap]).run Tryz.prog w.drew = .ok (.pointer (some ⟨g, 0, none⟩)) w.drew :=
    Lib.run_unsafeSliceData_row _ _ _ _ _ _ (by omega)
  have hUS : (Builtin.unsafeString_ #[93, 3] 9 #[.pointer (some ⟨g, 0, none⟩), .int .i64 l.length]).run Tryz.prog w.drew = .ok (.string ⟨l.toArray⟩) (w.drew.freeze ⟨g, 0, none⟩ l.length) := by
    refine Lib.run_unsafeString_row w.drew 93 3 9 5 Tryz.underlying93 Tryz.cellsByte g cur.size (by have hg' : w.drew.heap[g]? = some (.cells cur 5 (0, 0)) := hg; simp [World.shape?, hg']) l h0 (by omega) (by unfold maxLen at hcm; omega) ?_
    intro j x hx
    have := hown.cells (g := g) rfl j (.int .u8 x.toNat) (by simp [Lib.byteCells, hx])
    exact this
  have mixed : Tryz.prog.follows .mixedOrders = true := by kernel_rfl
  go_enter Tryz.func16, Tryz.ntmps16
  go_wp2_with fail
  go_region_o
  all_goals (go_wp2; go_ret; exact ⟨rfl, Lib.below_freeze (Below.drew (Below.refl B w)) (p := ⟨g, 0, none⟩) hbg _⟩)


theorem lab_size {s : ByteArray} (h : labB s = true) : s.size ≤ 1000 := by
  unfold labB at h
  simp only [Bool.and_eq_true, decide_eq_true_eq] at h
  have := h.1.2
  omega
theorem tag_size {s : ByteArray} (h : Sv.tagB s = true) : s.size ≤ 1000 := by
  unfold Sv.tagB at h
  rw [Bool.or_eq_true, decide_eq_true_eq] at h
  rcases h with rfl | h
  · show 0 ≤ 1000; omega
  · exact lab_size h
theorem within_in {n a b : Int} (h : within n a b = true) (ha : -9223372036854775808 ≤ a) (hb : b ≤ 9223372036854775807) : In63 n := by
  unfold within at h
  rw [Bool.and_eq_true, decide_eq_true_eq, decide_eq_true_eq] at h
  exact ⟨by omega, by omega⟩
theorem wokM {m : Mem} (h : m.e = 0) : wok m := by
  unfold Mem.e oneE at h
  split at h
  · rename_i h1
    split at h
    · rename_i h2
      split at h
      · rename_i h3
        split at h
        · rename_i h4
          exact ⟨lab_size h1, within_in h2 (by omega) (by omega), within_in h3 (by omega) (by omega), within_in h4 (by omega) (by omega)⟩
        · cases h
      · cases h
    · cases h
  · cases h
theorem wokS {m : Sv.Svc} (h : m.e = 0) : Sv.wok m := by
  unfold Sv.Svc.e at h
  split at h
  · rename_i h1
    split at h
    · rename_i h2
      simp only [Bool.and_eq_true] at h1 h2
      exact ⟨lab_size h1.1, lab_size h1.2.1, lab_size h1.2.2.1, tag_size h1.2.2.2, within_in h2.1 (by omega) (by omega), within_in h2.2.1 (by omega) (by omega), within_in h2.2.2 (by omega) (by omega)⟩
    · cases h
  · cases h
theorem wokG {m : Gw.Gwy} (h : m.e = 0) : Gw.wok m := by
  unfold Gw.Gwy.e at h
  split at h
  · rename_i h1
    split at h
    · rename_i h2
      split at h
      · rename_i h3
        exact ⟨lab_size h1, within_in h2 (by omega) (by omega), within_in h3 (by omega) (by omega)⟩
      · cases h
    · cases h
  · cases h
theorem wokW {m : Wh.Whe} (h : m.e = 0) : Wh.wok m := by
  unfold Wh.Whe.e at h
  split at h
  · rename_i h1
    obtain ⟨a0, a1, a2, a3, a4, a5, a6, a7, a8, a9⟩ := (okP_iff _).1 h
    simp only at a0 a1 a2 a3 a4 a5 a6 a7 a8 a9
    exact ⟨lab_size h1, ⟨by omega, by omega⟩, ⟨by omega, by omega⟩, ⟨by omega, by omega⟩, ⟨by omega, by omega⟩, ⟨by omega, by omega⟩⟩
  · cases h
theorem chk_firstE {ms : List Mem} (h : chk ms = 0) : firstE ms = 0 := (chk_zero h).2.2
theorem pk_wok {p : Pk} (h : p.e = 0) : p.Wok := by
  unfold Pk.e at h
  split at h
  · rename_i h0
    rw [Bool.and_eq_true] at h0
    split at h
    · rename_i h1
      have hm : p.ms.length ≤ 20 ∧ ∀ m ∈ p.ms, wok m := by
        unfold Pk.mE at h1
        split at h1
        · exact ⟨(chk_zero h1).1, fun m hm => wokM (firstE_mem _ (chk_firstE h1) m hm)⟩
        · obtain ⟨a, b, _⟩ := chkT_zero h1
          exact ⟨by omega, fun m hm => wokM (firstE_mem _ b m hm)⟩
      split at h
      · rename_i h2
        split at h
        · rename_i h3
          exact ⟨lab_size h0.1, hm, ⟨(Sv.chk_zero h2).1, fun m hm => wokS (Sv.firstE_mem _ (Sv.chk_zero h2).2.2 m hm)⟩, ⟨(Gw.chk_zero h3).1, fun m hm => wokG (Gw.firstE_mem _ (Gw.chk_zero h3).2.2 m hm)⟩, ⟨(Wh.chk_zero h).1, fun m hm => wokW (Wh.firstE_mem _ (Wh.chk_zero h).2.2 m hm)⟩⟩
        · rename_i h3; exact absurd h h3
      · rename_i h2; exact absurd h h2
    · rename_i h1; exact absurd h h1
  · cases h
/-- I2: what Write says. -/
def Pk.T (p : Pk) : ByteArray := if p.e = 0 then ⟨p.B.toArray⟩ else ⟨#[]⟩
theorem Pk.B_ne (p : Pk) : p.B ≠ [] := by
  unfold Pk.B txtB numB
  simp

set_option maxHeartbeats 3200000 in
set_option maxRecDepth 100000 in
theorem pwrite_any (p : Pk) (zm zs zg zw : Value) (w : World) (hx : PkIs w p zm zs zg zw) (hlen : p.whole = true ∨ p.sv.length + p.gw.length + p.wh.length ≤ 4611686018427387904) (hT : Tab w.heap.size w) :
    Calls Tryz.prog 6 #[.agg #[.string p.frm, .bool p.whole, zm, zs, zg, zw]] w fun e w' => e = .returned (.tuple #[.string p.T, .int .i64 p.e]) ∧ Below w.heap.size w w' := by
  have HCK : Hid (∀ W, Below w.heap.size w W → Calls Tryz.prog 10 #[.agg #[.string p.frm, .bool p.whole, zm, zs, zg, zw]] W fun e w' => e = .returned (.int .i64 p.e) ∧ Below W.heap.size W w') := fun W hW => pcheck_any p zm zs zg zw W (hx.below hW) hlen
  have HWP : Hid (p.e = 0 → ∀ W b, Below w.heap.size w W → IsW w.heap.size b [] W → Calls Tryz.prog 15 #[.pointer (some ⟨b, 0, none⟩), .agg #[.string p.frm, .bool p.whole, zm, zs, zg, zw]] W fun e w' => e = .returned (.tuple #[]) ∧ IsW w.heap.size b (Lib.byteCells p.B) w' ∧ Kp w.heap.size b W w') := fun h0 W b hW hI => by
    have h := wpacket_any w.heap.size b p zm zs zg zw w W hI hx rfl hW hW.size (hT.below hW) (pk_wok h0)
    rw [p.L_eq] at h
    exact h
  have HPT : Hid (p.T = if p.e = 0 then ⟨p.B.toArray⟩ else ⟨#[]⟩) := rfl
  have HNE : Hid (p.B ≠ []) := p.B_ne
  generalize p.B = PB at *
  generalize p.T = PT at *
  generalize p.e = pe at *
  obtain ⟨frm, whole, ms, sv, gw, wh⟩ := p
  obtain ⟨⟨pm, cm, rfl, _, _⟩, ⟨ps, cs, rfl, _, _⟩, ⟨pg, cg, rfl, _, _⟩, ⟨ph, ch, rfl, _, _⟩, _, _⟩ := hx
  simp only at HCK HWP ⊢
  generalize ms.length = nm at *
  generalize sv.length = ns at *
  generalize gw.length = ng at *
  generalize wh.length = nh at *
  clear hlen hT
  obtain ⟨W0, hW0⟩ : ∃ W0, W0 = w.alloc (.cells #[.string frm, .bool whole, .slice pm nm cm, .slice ps ns cs, .slice pg ng cg, .slice ph nh ch] 27) := ⟨_, rfl⟩
  have hb0 : Below w.heap.size w W0 := by rw [hW0]; exact (Below.refl _ _).alloc (Nat.le_refl _) _
  have hg0 : W0.heap[w.heap.size]? = some (.cells #[.string frm, .bool whole, .slice pm nm cm, .slice ps ns cs, .slice pg ng cg, .slice ph nh ch] 27 (0, 0)) := by rw [hW0]; exact heap_alloc_new w _
  have HB0 : Hid (Below w.heap.size w W0) := hb0
  have HG0 : Hid (W0.heap[w.heap.size]? = some (.cells #[.string frm, .bool whole, .slice pm nm cm, .slice ps ns cs, .slice pg ng cg, .slice ph nh ch] 27 (0, 0))) := hg0
  have p0 : W0.cell? ⟨w.heap.size, 0, none⟩ = _ := cellsAt hg0 0
  have p1 : W0.cell? ⟨w.heap.size, 1, none⟩ = _ := cellsAt hg0 1
  have p2 : W0.cell? ⟨w.heap.size, 2, none⟩ = _ := cellsAt hg0 2
  have p3 : W0.cell? ⟨w.heap.size, 3, none⟩ = _ := cellsAt hg0 3
  have p4 : W0.cell? ⟨w.heap.size, 4, none⟩ = _ := cellsAt hg0 4
  have p5 : W0.cell? ⟨w.heap.size, 5, none⟩ = _ := cellsAt hg0 5
  clear hb0 hg0
  go_enter Tryz.func6, Tryz.ntmps6
  go_upto_region 1 with fail
  rw [← hW0]
  clear hW0
  go_wp2_with fail
  refine (HCK.out W0 HB0.out).mono ?_
  rintro e w1 ⟨rfl, hb1⟩
  have HB1 : Hid (Below w.heap.size w w1) := HB0.out.trans (hb1.mono HB0.out.size)
  have hg1 : w1.heap[w.heap.size]? = some (.cells #[.string frm, .bool whole, .slice pm nm cm, .slice ps ns cs, .slice pg ng cg, .slice ph nh ch] 27 (0, 0)) := (hb1.block _ (Array.getElem?_eq_some_iff.1 HG0.out).1).trans HG0.out
  have HG1 : Hid (w1.heap[w.heap.size]? = some (.cells #[.string frm, .bool whole, .slice pm nm cm, .slice ps ns cs, .slice pg ng cg, .slice ph nh ch] 27 (0, 0))) := hg1
  clear hb1 hg1 p0 p1 p2 p3 p4 p5
  by_cases h0 : pe = 0
  rotate_left
  · have HT2 : Hid (PT = ⟨#[]⟩) := HPT.out.trans (if_neg h0)
    have h1 : (pe != 0) = true := by simpa using h0
    clear h0
    go_wp2_with fail
    refine bodyPost_ret (v := .tuple #[.string ⟨#[]⟩, .int .i64 pe]) ?_ rfl ?_
    · simp [results, Tryz.results6, go_sem]
    · exact ⟨by rw [HT2.out], HB1.out⟩
  · subst h0
    have HT2 : Hid (PT = ⟨PB.toArray⟩) := HPT.out.trans (if_pos rfl)
    have HWQ := HWP.out rfl
    have HWR : Hid _ := HWQ
    clear HWQ HWP HPT
    obtain ⟨W2, hW2⟩ : ∃ W2, W2 = w1.alloc (.cells #[.pointer none, .slice none 0 0] 46) := ⟨_, rfl⟩
    have hb2 : Below w1.heap.size w1 W2 := by rw [hW2]; exact (Below.refl _ _).alloc (Nat.le_refl _) _
    have hw2 : W2.heap[w1.heap.size]? = some (.cells #[.pointer none, .slice none 0 0] 46 (0, 0)) := by rw [hW2]; exact heap_alloc_new w1 _
    have HI2 : Hid (IsW w.heap.size w1.heap.size [] W2) := .inl ⟨HB1.out.size, .slice none 0 0, hw2, ⟨by simp, .inl ⟨rfl, rfl⟩⟩, by simp [Value.ownBlock]⟩
    have hbw2 : Below w.heap.size w W2 := HB1.out.trans (hb2.mono HB1.out.size)
    have HBW2 : Hid (Below w.heap.size w W2) := hbw2
    have hg2 : W2.heap[w.heap.size]? = some (.cells #[.string frm, .bool whole, .slice pm nm cm, .slice ps ns cs, .slice pg ng cg, .slice ph nh ch] 27 (0, 0)) := (hb2.block _ (Array.getElem?_eq_some_iff.1 HG1.out).1).trans HG1.out
    have p0 : W2.cell? ⟨w.heap.size, 0, none⟩ = _ := cellsAt hg2 0
    have p1 : W2.cell? ⟨w.heap.size, 1, none⟩ = _ := cellsAt hg2 1
    have p2 : W2.cell? ⟨w.heap.size, 2, none⟩ = _ := cellsAt hg2 2
    have p3 : W2.cell? ⟨w.heap.size, 3, none⟩ = _ := cellsAt hg2 3
    have p4 : W2.cell? ⟨w.heap.size, 4, none⟩ = _ := cellsAt hg2 4
    have p5 : W2.cell? ⟨w.heap.size, 5, none⟩ = _ := cellsAt hg2 5
    clear hb2 hw2 hg2 hbw2
    go_upto_region 5 with fail
    rw [← hW2]
    clear hW2
    go_wp2_with fail
    refine (HWR.out W2 w1.heap.size HBW2.out HI2.out).mono ?_
    rintro e w3 ⟨rfl, h3, hk3⟩
    have HI3 : Hid (IsW w.heap.size w1.heap.size (Lib.byteCells PB) w3) := h3
    have HB3 : Hid (Below w.heap.size w w3) := HBW2.out.trans hk3.bel
    clear h3 hk3 p0 p1 p2 p3 p4 p5
    go_wp2_with fail
    refine (string_any w.heap.size w1.heap.size PB w3 HI3.out HNE.out).mono ?_
    rintro e w4 ⟨rfl, hb4⟩
    have HB4 : Hid (Below w.heap.size w w4) := HB3.out.trans hb4
    clear hb4
    go_wp2_with fail
    refine bodyPost_ret (v := .tuple #[.string ⟨PB.toArray⟩, .int .i64 0]) ?_ rfl ?_
    · simp [results, Tryz.results6, go_sem]
    · exact ⟨by rw [HT2.out], HB4.out⟩

end Go.Proofs.YtdfkpehggecbaaaGreatDoor

/- The document's TextBytes, YesBytes. -/
namespace Go.Proofs.YtdfkpehggecbaaaGreatDoor
open Go.RowKit

set_option maxHeartbeats 800000 in
theorem textBytes_any (s : ByteArray) (w : World) (hs : s.size ≤ 1000000) :
    Calls Tryz.prog 23 #[.string s] w fun e w' => e = .returned (.string (bstr (txtB s))) ∧ Below w.heap.size w w' := by
  have HC : Hid (Calls Tryz.prog 25 #[.int .i64 (s.size : Int)] w fun e w' => e = .returned (.string (bstr (numB s.size))) ∧ Below w.heap.size w w') := dec_any s.size w (in63_nat hs)
  have HS : Hid (bstr (numB s.size) ++ s = bstr (txtB s)) := by
    show _ = _
    unfold txtB
    rw [← bstr_app]
    rfl
  have hz : (bstr (numB s.size)).size ≤ 21 := by rw [bstr_size]; exact numB_len (in63_nat hs)
  have hss : ¬ 9223372036854775807 < (bstr (numB s.size)).size + s.size := by omega
  generalize bstr (numB s.size) = d at *
  generalize bstr (txtB s) = R at *
  go_enter Tryz.func23, Tryz.ntmps23
  go_wp2_with fail
  refine HC.out.mono ?_
  rintro e w1 ⟨rfl, hb1⟩
  have HB1 : Hid (Below w.heap.size w w1) := hb1
  clear hb1
  go_wp2_with fail
  go_ret
  exact ⟨by rw [← HS.out]; rfl, HB1.out⟩
theorem flgB_val (y : Bool) : flgB y = if y = true then [49, 59] else [48, 59] := by
  cases y
  · show numB 0 = _
    rw [numB_nat (by omega), show (0 : Int).toNat = 0 from rfl, Lib.decDigits_one (by omega)]; rfl
  · show numB 1 = _
    rw [numB_nat (by omega), show (1 : Int).toNat = 1 from rfl, Lib.decDigits_one (by omega)]; rfl
theorem yesBytes_any (y : Bool) (w : World) :
    Calls Tryz.prog 24 #[.bool y] w fun e w' => e = .returned (.string (bstr (flgB y))) ∧ Below w.heap.size w w' := by
  rw [flgB_val]
  cases y
  · go_enter Tryz.func24, Tryz.ntmps24
    go_wp2_with fail
    go_ret
    exact ⟨rfl, Below.refl _ _⟩
  · go_enter Tryz.func24, Tryz.ntmps24
    go_wp2_with fail
    go_ret
    exact ⟨rfl, Below.refl _ _⟩

end Go.Proofs.YtdfkpehggecbaaaGreatDoor

/- The document's PacketBytes. -/
namespace Go.Proofs.YtdfkpehggecbaaaGreatDoor
open Go.RowKit
theorem elsB_len (ms : List Mem) (h : ∀ m ∈ ms, wok m) : (ms.flatMap elB).length ≤ 3300 * ms.length := by
  have h1 := els_len ms h
  rw [bc_flat elL elB elL_eq] at h1
  simpa [Lib.byteCells] using h1
theorem Sv.elsB_len (ms : List Sv.Svc) (h : ∀ m ∈ ms, Sv.wok m) : (ms.flatMap Sv.elB).length ≤ 8800 * ms.length := by
  have h1 := Sv.els_len ms h
  rw [bc_flat Sv.elL Sv.elB Sv.elL_eq] at h1
  simpa [Lib.byteCells] using h1
theorem Gw.elsB_len (ms : List Gw.Gwy) (h : ∀ m ∈ ms, Gw.wok m) : (ms.flatMap Gw.elB).length ≤ 2200 * ms.length := by
  have h1 := Gw.els_len ms h
  rw [bc_flat Gw.elL Gw.elB Gw.elL_eq] at h1
  simpa [Lib.byteCells] using h1
theorem Wh.elsB_len (ms : List Wh.Whe) (h : ∀ m ∈ ms, Wh.wok m) : (ms.flatMap Wh.elB).length ≤ 2200 * ms.length := by
  have h1 := Wh.els_len ms h
  rw [bc_flat Wh.elL Wh.elB Wh.elL_eq] at h1
  simpa [Lib.byteCells] using h1

set_option maxHeartbeats 51200000 in
set_option maxRecDepth 100000 in
theorem packetBytes_any (p : Pk) (zm zs zg zw : Value) (w : World) (hx : PkIs w p zm zs zg zw) (hok : p.Wok) :
    Calls Tryz.prog 8 #[.agg #[.string p.frm, .bool p.whole, zm, zs, zg, zw]] w fun e w' => e = .returned (.string (bstr p.B)) ∧ Below w.heap.size w w' := by
  obtain ⟨frm, whole, ms, sv, gw, wh⟩ := p
  obtain ⟨⟨pm, cm, rfl, _, rM⟩, ⟨ps, cs, rfl, _, rS⟩, ⟨pg, cg, rfl, _, rG⟩, ⟨ph, ch, rfl, _, rW⟩, _, _⟩ := hx
  obtain ⟨okF, okM, okS, okG, okW⟩ := hok
  simp only at okF okM okS okG okW rM rS rG rW ⊢
  have HRM : Hid (ms = [] ∨ ∃ b off, pm = some ⟨b, off, none⟩ ∧ b < w.heap.size ∧ Row w b off ms) := rM
  have HOKM : Hid (∀ m ∈ ms, wok m) := okM.2
  have HRS : Hid (sv = [] ∨ ∃ b off, ps = some ⟨b, off, none⟩ ∧ b < w.heap.size ∧ Sv.Row w b off sv) := rS
  have HOKS : Hid (∀ m ∈ sv, Sv.wok m) := okS.2
  have HRG : Hid (gw = [] ∨ ∃ b off, pg = some ⟨b, off, none⟩ ∧ b < w.heap.size ∧ Gw.Row w b off gw) := rG
  have HOKG : Hid (∀ m ∈ gw, Gw.wok m) := okG.2
  have HRW : Hid (wh = [] ∨ ∃ b off, ph = some ⟨b, off, none⟩ ∧ b < w.heap.size ∧ Wh.Row w b off wh) := rW
  have HOKW : Hid (∀ m ∈ wh, Wh.wok m) := okW.2
  obtain ⟨PREM, hPREM⟩ : ∃ PRE, PRE = txtB frm ++ flgB whole ++ numB ms.length := ⟨_, rfl⟩
  have HPREM : Hid (txtB frm ++ flgB whole ++ numB ms.length = PREM) := hPREM.symm
  have hlM : PREM.length ≤ 2221 := by
    rw [hPREM]
    have g0 := numB_len (in63_nat (n := ms.length) (by omega))
    simp only [List.length_append]
    have g1 := numB_len (in63_nat (n := frm.size) (by omega))
    have g2 : (flgB whole).length ≤ 1100 := by rw [flgB_val]; split <;> decide
    have g3 : frm.data.toList.length = frm.size := rfl
    unfold txtB
    rw [List.length_append]
    omega
  have HSZM : Hid (∀ k, (bstr (PREM ++ (ms.take k).flatMap elB)).size ≤ 700000) := fun k => by
    have g1 := elsB_len (ms.take k) (fun m hm => okM.2 m (List.mem_of_mem_take hm))
    have g2 : (ms.take k).length ≤ 20 := Nat.le_trans (by rw [List.length_take]; omega) okM.1
    rw [bstr_size, List.length_append]
    omega
  obtain ⟨PRES, hPRES⟩ : ∃ PRE, PRE = PREM ++ ms.flatMap elB ++ numB sv.length := ⟨_, rfl⟩
  have HPRES : Hid (PREM ++ ms.flatMap elB ++ numB sv.length = PRES) := hPRES.symm
  have hlS : PRES.length ≤ 68242 := by
    rw [hPRES]
    have g0 := numB_len (in63_nat (n := sv.length) (by omega))
    simp only [List.length_append]
    have g1 := elsB_len ms okM.2
    have g2 : 3300 * ms.length ≤ 66000 := by have := okM.1; omega
    omega
  have HSZS : Hid (∀ k, (bstr (PRES ++ (sv.take k).flatMap Sv.elB)).size ≤ 700000) := fun k => by
    have g1 := Sv.elsB_len (sv.take k) (fun m hm => okS.2 m (List.mem_of_mem_take hm))
    have g2 : (sv.take k).length ≤ 40 := Nat.le_trans (by rw [List.length_take]; omega) okS.1
    rw [bstr_size, List.length_append]
    omega
  obtain ⟨PREG, hPREG⟩ : ∃ PRE, PRE = PRES ++ sv.flatMap Sv.elB ++ numB gw.length := ⟨_, rfl⟩
  have HPREG : Hid (PRES ++ sv.flatMap Sv.elB ++ numB gw.length = PREG) := hPREG.symm
  have hlG : PREG.length ≤ 420263 := by
    rw [hPREG]
    have g0 := numB_len (in63_nat (n := gw.length) (by omega))
    simp only [List.length_append]
    have g1 := Sv.elsB_len sv okS.2
    have g2 : 8800 * sv.length ≤ 352000 := by have := okS.1; omega
    omega
  have HSZG : Hid (∀ k, (bstr (PREG ++ (gw.take k).flatMap Gw.elB)).size ≤ 700000) := fun k => by
    have g1 := Gw.elsB_len (gw.take k) (fun m hm => okG.2 m (List.mem_of_mem_take hm))
    have g2 : (gw.take k).length ≤ 6 := Nat.le_trans (by rw [List.length_take]; omega) okG.1
    rw [bstr_size, List.length_append]
    omega
  obtain ⟨PREW, hPREW⟩ : ∃ PRE, PRE = PREG ++ gw.flatMap Gw.elB ++ numB wh.length := ⟨_, rfl⟩
  have HPREW : Hid (PREG ++ gw.flatMap Gw.elB ++ numB wh.length = PREW) := hPREW.symm
  have hlW : PREW.length ≤ 433484 := by
    rw [hPREW]
    have g0 := numB_len (in63_nat (n := wh.length) (by omega))
    simp only [List.length_append]
    have g1 := Gw.elsB_len gw okG.2
    have g2 : 2200 * gw.length ≤ 13200 := by have := okG.1; omega
    omega
  have HSZW : Hid (∀ k, (bstr (PREW ++ (wh.take k).flatMap Wh.elB)).size ≤ 700000) := fun k => by
    have g1 := Wh.elsB_len (wh.take k) (fun m hm => okW.2 m (List.mem_of_mem_take hm))
    have g2 : (wh.take k).length ≤ 20 := Nat.le_trans (by rw [List.length_take]; omega) okW.1
    rw [bstr_size, List.length_append]
    omega
  have HEND : Hid (bstr (PREW ++ wh.flatMap Wh.elB) = bstr (Pk.B ⟨frm, whole, ms, sv, gw, wh⟩)) := by
    show _ = _
    rw [hPREW, hPREG, hPRES, hPREM]
    unfold Pk.B
    simp only [List.append_assoc]
  generalize bstr (Pk.B ⟨frm, whole, ms, sv, gw, wh⟩) = RES at *
  have HM0 : Hid (frm.size ≤ 1000) := okF
  have HMM : Hid (ms.length ≤ 20) := okM.1
  have HNM : Hid (∃ n, n = ms.length) := ⟨_, rfl⟩
  have HMS : Hid (sv.length ≤ 40) := okS.1
  have HNS : Hid (∃ n, n = sv.length) := ⟨_, rfl⟩
  have HMG : Hid (gw.length ≤ 6) := okG.1
  have HNG : Hid (∃ n, n = gw.length) := ⟨_, rfl⟩
  have HMW : Hid (wh.length ≤ 20) := okW.1
  have HNW : Hid (∃ n, n = wh.length) := ⟨_, rfl⟩
  clear HNM
  generalize hnM : ms.length = nm at *
  have HNM : Hid (ms.length = nm) := hnM
  have hxM : nm ≤ 20 := HMM.out
  clear hnM
  clear HNS
  generalize hnS : sv.length = ns at *
  have HNS : Hid (sv.length = ns) := hnS
  have hxS : ns ≤ 40 := HMS.out
  clear hnS
  clear HNG
  generalize hnG : gw.length = ng at *
  have HNG : Hid (gw.length = ng) := hnG
  have hxG : ng ≤ 6 := HMG.out
  clear hnG
  clear HNW
  generalize hnW : wh.length = nh at *
  have HNW : Hid (wh.length = nh) := hnW
  have hxW : nh ≤ 20 := HMW.out
  clear hnW
  clear rM rS rG rW okF okM okS okG okW hPREM hPRES hPREG hPREW hlM hlS hlG hlW
  obtain ⟨W0, hW0⟩ : ∃ W0, W0 = w.alloc (.cells #[.string frm, .bool whole, .slice pm nm cm, .slice ps ns cs, .slice pg ng cg, .slice ph nh ch] 27) := ⟨_, rfl⟩
  have HBX : Hid (∀ W, Below W0.heap.size W0 W → W.heap[w.heap.size]? = some (.cells #[.string frm, .bool whole, .slice pm nm cm, .slice ps ns cs, .slice pg ng cg, .slice ph nh ch] 27 (0, 0)) ∧ Below w.heap.size w W) := fun W hW => by
    have hb0 : Below w.heap.size w W0 := by rw [hW0]; exact (Below.refl _ _).alloc (Nat.le_refl _) _
    have hg0 : W0.heap[w.heap.size]? = some (.cells #[.string frm, .bool whole, .slice pm nm cm, .slice ps ns cs, .slice pg ng cg, .slice ph nh ch] 27 (0, 0)) := by rw [hW0]; exact heap_alloc_new w _
    exact ⟨(hW.block _ (Array.getElem?_eq_some_iff.1 hg0).1).trans hg0, hb0.trans (hW.mono hb0.size)⟩
  have hpk0 := (HBX.out W0 (Below.refl _ _)).1
  have F0 : ∀ d os, (Go.Sort.grow (redrawn W0 d) os).cell? ⟨w.heap.size, 0, none⟩ = some (.string frm) := cell_regrown (cellsAt hpk0 0)
  have F1 : ∀ d os, (Go.Sort.grow (redrawn W0 d) os).cell? ⟨w.heap.size, 1, none⟩ = some (.bool whole) := cell_regrown (cellsAt hpk0 1)
  have F2 : ∀ d os, (Go.Sort.grow (redrawn W0 d) os).cell? ⟨w.heap.size, 2, none⟩ = some (.slice pm nm cm) := cell_regrown (cellsAt hpk0 2)
  obtain ⟨a0, ha0⟩ : ∃ a, a = bstr (txtB frm) := ⟨_, rfl⟩
  obtain ⟨a1, ha1⟩ : ∃ a, a = bstr (flgB whole) := ⟨_, rfl⟩
  obtain ⟨a2, ha2⟩ : ∃ a, a = bstr (numB nm) := ⟨_, rfl⟩
  have z0 : a0.size ≤ 1100 := by
    rw [ha0, bstr_size]
    have g1 := numB_len (in63_nat (n := frm.size) (by have := HM0.out; omega))
    have g3 : frm.data.toList.length = frm.size := rfl
    have g4 := HM0.out
    unfold txtB
    rw [List.length_append]
    omega
  have z1 : a1.size ≤ 1100 := by rw [ha1, bstr_size, flgB_val]; split <;> decide
  have z2 : a2.size ≤ 1100 := by rw [ha2, bstr_size]; have := numB_len (in63_nat (n := nm) (by omega)); omega
  have hC0 : ∀ d os, Calls Tryz.prog 23 #[.string frm] (Go.Sort.grow (redrawn W0 d) os) fun e w'' => e = .returned (.string a0) ∧ ∃ q : Regrown, w'' = Go.Sort.grow (redrawn W0 q.d) q.os := fun d os => by rw [ha0]; exact Calls.regrown_of (textBytes_any _ _ (by have := HM0.out; omega))
  have hC1 : ∀ d os, Calls Tryz.prog 24 #[.bool whole] (Go.Sort.grow (redrawn W0 d) os) fun e w'' => e = .returned (.string a1) ∧ ∃ q : Regrown, w'' = Go.Sort.grow (redrawn W0 q.d) q.os := fun d os => by rw [ha1]; exact Calls.regrown_of (yesBytes_any _ _)
  have hC2 : ∀ d os, Calls Tryz.prog 25 #[.int .i64 (nm : Int)] (Go.Sort.grow (redrawn W0 d) os) fun e w'' => e = .returned (.string a2) ∧ ∃ q : Regrown, w'' = Go.Sort.grow (redrawn W0 q.d) q.os := fun d os => by rw [ha2]; exact Calls.regrown_of (dec_any _ _ (in63_nat (by omega)))
  have HPE0 : Hid (a0 ++ a1 ++ a2 = bstr PREM) := by
    show _ = _
    rw [ha0, ha1, ha2, bstr_app, bstr_app, HPREM.out]
  have y1 : ¬ 9223372036854775807 < a0.size + a1.size := by omega
  have y2 : ¬ 9223372036854775807 < (a0 ++ a1).size + a2.size := by simp only [ByteArray.size_append]; omega
  have y3 : ¬ 9223372036854775807 < a0.size + a1.size + a2.size := by omega
  clear ha0 ha1 ha2 hpk0
  go_enter Tryz.func8, Tryz.ntmps8
  go_upto_region 1 with fail
  rw [← hW0]
  clear hW0
  refine wp_region_quiet_below (by kernel_rfl) (by kernel_rfl) ?_
  repeat (quiet_step (fail))
  quiet_step (exact hC0 _ _)
  repeat (quiet_step (fail))
  quiet_step (exact hC1 _ _)
  repeat (quiet_step (fail))
  quiet_step (exact hC2 _ _)
  repeat (quiet_step (fail))
  refine wpQuiet_nil ?_
  intro _ hw'
  obtain ⟨⟨dq, osq⟩, hw''⟩ := hw'
  subst hw''
  have HBL : Hid (Below W0.heap.size W0 (Go.Sort.grow (redrawn W0 dq) osq)) := below_regrown W0 dq osq
  clear hC0 hC1 hC2 F0 F1 F2
  generalize Go.Sort.grow (redrawn W0 dq) osq = W1 at *
  go_wp2_with fail
  rw [HPE0.out]
  clear y1 y2 y3 z0 z1 z2 HPE0
  go_loopw [3, 4] (fun sv_ i w' => ∃ k : Nat, k ≤ nm ∧ sv_ = .string (bstr (PREM ++ (ms.take k).flatMap elB)) ∧ i = .int .i64 k ∧ Hid (Below W0.heap.size W0 w')) (fun _ i _ => nm - (intOf i).toNat)
  case atStart => exact ⟨0, Nat.zero_le _, by simp, rfl, HBL⟩
  case round =>
    clear HBL
    obtain ⟨k, hk, rfl, rfl, HBL⟩ := hrel
    have hpk := HBX.out wr HBL.out
    have p2 : wr.cell? ⟨w.heap.size, 2, none⟩ = some (.slice pm nm cm) := cellsAt hpk.1 2
    have HSS : Hid ((bstr (PREM ++ (ms.take k).flatMap elB)).size ≤ 700000) := HSZM.out k
    by_cases hlt : k < nm
    · obtain ⟨g, o, hp, hgl, hr⟩ : ∃ b off, pm = some ⟨b, off, none⟩ ∧ b < w.heap.size ∧ Row w b off ms := by
        rcases HRM.out with h | h
        · have := HNM.out; rw [h] at this; simp at this; omega
        · exact h
      subst hp
      have hkl : k < ms.length := by rw [HNM.out]; exact hlt
      obtain ⟨c0, c1, c2, c3, c4⟩ := hr k hkl
      have hbl : ∀ o, wr.cell? ⟨g, o, none⟩ = w.cell? ⟨g, o, none⟩ := fun o => hpk.2.cell (p := ⟨g, o, none⟩) hgl
      have hx : wok (ms.getD k dm) := HOKM.out _ (by rw [show ms.getD k dm = ms[k] by simp [List.getD, List.getElem?_eq_getElem hkl]]; exact List.getElem_mem _)
      have HST : Hid (bstr (PREM ++ (ms.take k).flatMap elB) ++ bstr (elB (ms.getD k dm)) = bstr (PREM ++ (ms.take (k + 1)).flatMap elB)) := by
        show _ = _
        rw [bstr_app, List.take_succ_eq_append_getElem hkl, List.flatMap_append]
        simp [List.getD, List.getElem?_eq_getElem hkl]
      have HEL : Hid (elB (ms.getD k dm) = txtB (ms.getD k dm).name ++ numB (ms.getD k dm).state ++ numB (ms.getD k dm).life ++ numB (ms.getD k dm).addr ++ flgB (ms.getD k dm).server) := by
        show _ = _
        unfold elB
        simp [List.flatMap_cons]
      generalize elB (ms.getD k dm) = EL at *
      generalize ms.getD k dm = x at *
      obtain ⟨x0, x1, x2, x3, x4⟩ := x
      obtain ⟨h0, h1, h2, h3⟩ := hx
      simp only at h0 h1 h2 h3 HEL c0 c1 c2 c3 c4
      have d0 := (hbl _).trans c0
      have d1 := (hbl _).trans c1
      have d2 := (hbl _).trans c2
      have d3 := (hbl _).trans c3
      have d4 := (hbl _).trans c4
      clear hbl c0 c1 c2 c3 c4 hr
      obtain ⟨W2, hW2⟩ : ∃ W2, W2 = wr.alloc (.cells #[.string x0, .int .i64 x1, .int .i64 x2, .int .i64 x3, .bool x4] 55) := ⟨_, rfl⟩
      have hb2 : Below wr.heap.size wr W2 := by rw [hW2]; exact (Below.refl _ _).alloc (Nat.le_refl _) _
      have hg2 : W2.heap[wr.heap.size]? = some (.cells #[.string x0, .int .i64 x1, .int .i64 x2, .int .i64 x3, .bool x4] 55 (0, 0)) := by rw [hW2]; exact heap_alloc_new wr _
      have HB2 : Hid (Below W0.heap.size W0 W2) := HBL.out.trans (hb2.mono HBL.out.size)
      have hki : (k : Int) < (nm : Int) := by omega
      go_upto_region 6 with fail
      rw [← hW2]
      clear hW2 p2 d0 d1 d2 d3 d4
      have F0 : ∀ d os, (Go.Sort.grow (redrawn W2 d) os).cell? ⟨wr.heap.size, 0, none⟩ = some (.string x0) := cell_regrown (cellsAt hg2 0)
      have F1 : ∀ d os, (Go.Sort.grow (redrawn W2 d) os).cell? ⟨wr.heap.size, 1, none⟩ = some (.int .i64 x1) := cell_regrown (cellsAt hg2 1)
      have F2 : ∀ d os, (Go.Sort.grow (redrawn W2 d) os).cell? ⟨wr.heap.size, 2, none⟩ = some (.int .i64 x2) := cell_regrown (cellsAt hg2 2)
      have F3 : ∀ d os, (Go.Sort.grow (redrawn W2 d) os).cell? ⟨wr.heap.size, 3, none⟩ = some (.int .i64 x3) := cell_regrown (cellsAt hg2 3)
      have F4 : ∀ d os, (Go.Sort.grow (redrawn W2 d) os).cell? ⟨wr.heap.size, 4, none⟩ = some (.bool x4) := cell_regrown (cellsAt hg2 4)
      obtain ⟨a0, ha0⟩ : ∃ a, a = bstr (txtB x0) := ⟨_, rfl⟩
      have z0 : a0.size ≤ 1100 := by rw [ha0]; exact (by have g1 := numB_len (in63_nat (n := x0.size) (by omega)); rw [bstr_size]; unfold txtB; rw [List.length_append]; have g2 : x0.data.toList.length = x0.size := rfl; omega)
      have hC0 : ∀ d os, Calls Tryz.prog 23 #[.string x0] (Go.Sort.grow (redrawn W2 d) os) fun e w'' => e = .returned (.string a0) ∧ ∃ q : Regrown, w'' = Go.Sort.grow (redrawn W2 q.d) q.os := fun d os => by rw [ha0]; exact Calls.regrown_of (textBytes_any _ _ (by have := h0; omega))
      obtain ⟨a1, ha1⟩ : ∃ a, a = bstr (numB x1) := ⟨_, rfl⟩
      have z1 : a1.size ≤ 1100 := by rw [ha1]; exact (by have g1 := numB_len h1; rw [bstr_size]; omega)
      have hC1 : ∀ d os, Calls Tryz.prog 25 #[.int .i64 x1] (Go.Sort.grow (redrawn W2 d) os) fun e w'' => e = .returned (.string a1) ∧ ∃ q : Regrown, w'' = Go.Sort.grow (redrawn W2 q.d) q.os := fun d os => by rw [ha1]; exact Calls.regrown_of (dec_any _ _ h1)
      obtain ⟨a2, ha2⟩ : ∃ a, a = bstr (numB x2) := ⟨_, rfl⟩
      have z2 : a2.size ≤ 1100 := by rw [ha2]; exact (by have g1 := numB_len h2; rw [bstr_size]; omega)
      have hC2 : ∀ d os, Calls Tryz.prog 25 #[.int .i64 x2] (Go.Sort.grow (redrawn W2 d) os) fun e w'' => e = .returned (.string a2) ∧ ∃ q : Regrown, w'' = Go.Sort.grow (redrawn W2 q.d) q.os := fun d os => by rw [ha2]; exact Calls.regrown_of (dec_any _ _ h2)
      obtain ⟨a3, ha3⟩ : ∃ a, a = bstr (numB x3) := ⟨_, rfl⟩
      have z3 : a3.size ≤ 1100 := by rw [ha3]; exact (by have g1 := numB_len h3; rw [bstr_size]; omega)
      have hC3 : ∀ d os, Calls Tryz.prog 25 #[.int .i64 x3] (Go.Sort.grow (redrawn W2 d) os) fun e w'' => e = .returned (.string a3) ∧ ∃ q : Regrown, w'' = Go.Sort.grow (redrawn W2 q.d) q.os := fun d os => by rw [ha3]; exact Calls.regrown_of (dec_any _ _ h3)
      obtain ⟨a4, ha4⟩ : ∃ a, a = bstr (flgB x4) := ⟨_, rfl⟩
      have z4 : a4.size ≤ 1100 := by rw [ha4]; exact (by rw [bstr_size, flgB_val]; split <;> decide)
      have hC4 : ∀ d os, Calls Tryz.prog 24 #[.bool x4] (Go.Sort.grow (redrawn W2 d) os) fun e w'' => e = .returned (.string a4) ∧ ∃ q : Regrown, w'' = Go.Sort.grow (redrawn W2 q.d) q.os := fun d os => by rw [ha4]; exact Calls.regrown_of (yesBytes_any _ _)
      have HTE : Hid (((((a0 ++ a1) ++ a2) ++ a3) ++ a4) = bstr EL) := by
        show _ = _
        rw [HEL.out, ha0, ha1, ha2, ha3, ha4]
        simp only [bstr_app, List.append_assoc]
      clear ha0 ha1 ha2 ha3 ha4
      generalize bstr (PREM ++ (ms.take k).flatMap elB) = S at *
      have hS : S.size ≤ 700000 := HSS.out
      have u2 : ¬ 9223372036854775807 < a0.size + a1.size + a2.size := by omega
      have u3 : ¬ 9223372036854775807 < a0.size + a1.size + a2.size + a3.size := by omega
      have u4 : ¬ 9223372036854775807 < a0.size + a1.size + a2.size + a3.size + a4.size := by omega
      have u0 : ¬ 9223372036854775807 < S.size + (a0.size + a1.size + a2.size + a3.size + a4.size) := by omega
      have y1 : ¬ 9223372036854775807 < a0.size + a1.size := by (try simp only [ByteArray.size_append]); omega
      have y2 : ¬ 9223372036854775807 < (a0 ++ a1).size + a2.size := by (try simp only [ByteArray.size_append]); omega
      have y3 : ¬ 9223372036854775807 < ((a0 ++ a1) ++ a2).size + a3.size := by (try simp only [ByteArray.size_append]); omega
      have y4 : ¬ 9223372036854775807 < (((a0 ++ a1) ++ a2) ++ a3).size + a4.size := by (try simp only [ByteArray.size_append]); omega
      have y0 : ¬ 9223372036854775807 < S.size + ((((a0 ++ a1) ++ a2) ++ a3) ++ a4).size := by (try simp only [ByteArray.size_append]); omega
      refine wp_region_quiet_below (by kernel_rfl) (by kernel_rfl) ?_
      repeat (quiet_step (fail))
      quiet_step (exact hC0 _ _)
      repeat (quiet_step (fail))
      quiet_step (exact hC1 _ _)
      repeat (quiet_step (fail))
      quiet_step (exact hC2 _ _)
      repeat (quiet_step (fail))
      quiet_step (exact hC3 _ _)
      repeat (quiet_step (fail))
      quiet_step (exact hC4 _ _)
      repeat (quiet_step (fail))
      refine wpQuiet_nil ?_
      intro _ hw'
      obtain ⟨⟨dq, osq⟩, hw''⟩ := hw'
      subst hw''
      have HB3 : Hid (Below W0.heap.size W0 (Go.Sort.grow (redrawn W2 dq) osq)) := HB2.out.trans ((below_regrown W2 dq osq).mono HB2.out.size)
      clear hC0 hC1 hC2 hC3 hC4
      generalize Go.Sort.grow (redrawn W2 dq) osq = W3 at *
      go_wp2_with fail
      go_roundw
      case rel => exact ⟨k + 1, by omega, by rw [HTE.out, HST.out], by go_num, HB3⟩
      case measure => simp [intOf]; omega
    · have hki : ¬ (k : Int) < (nm : Int) := by omega
      have hall : bstr (PREM ++ (ms.take k).flatMap elB) = bstr (PREM ++ ms.flatMap elB) := by rw [List.take_of_length_le (by rw [HNM.out]; omega)]
      rw [hall] at HSS ⊢
      clear hall hlt hk
      have p3 : wr.cell? ⟨w.heap.size, 3, none⟩ = some (.slice ps ns cs) := cellsAt hpk.1 3
      have HCS : Hid (Calls Tryz.prog 25 #[.int .i64 (ns : Int)] wr fun e w' => e = .returned (.string (bstr (numB ns))) ∧ Below wr.heap.size wr w') := dec_any _ _ (in63_nat (by have := HMS.out; omega))
      have hs2 : (bstr (numB ns)).size ≤ 21 := by rw [bstr_size]; exact numB_len (in63_nat (by have := HMS.out; omega))
      have HPE : Hid (bstr (PREM ++ ms.flatMap elB) ++ bstr (numB ns) = bstr PRES) := by
        show _ = _
        rw [bstr_app, HPRES.out]
      have hS : (bstr (PREM ++ ms.flatMap elB)).size ≤ 700000 := HSS.out
      generalize bstr (PREM ++ ms.flatMap elB) = S at *
      generalize bstr (numB ns) = dn at *
      have y0 : ¬ 9223372036854775807 < S.size + dn.size := by omega
      clear hpk
      go_wp2_with fail
      refine HCS.out.mono ?_
      rintro e W4 ⟨rfl, hb4⟩
      have HBL4 : Hid (Below W0.heap.size W0 W4) := HBL.out.trans (hb4.mono HBL.out.size)
      clear hb4 HBL p3 p2
      have HBL := HBL4
      clear HBL4
      go_wp2_with fail
      rw [HPE.out]
      clear hki HSS
      go_loopw [3, 6] (fun sv_ i w' => ∃ k : Nat, k ≤ ns ∧ sv_ = .string (bstr (PRES ++ (sv.take k).flatMap Sv.elB)) ∧ i = .int .i64 k ∧ Hid (Below W0.heap.size W0 w')) (fun _ i _ => ns - (intOf i).toNat)
      case atStart => exact ⟨0, Nat.zero_le _, by simp, rfl, HBL⟩
      case round =>
        clear HBL
        obtain ⟨k, hk, rfl, rfl, HBL⟩ := hrel
        have hpk := HBX.out wr HBL.out
        have p3 : wr.cell? ⟨w.heap.size, 3, none⟩ = some (.slice ps ns cs) := cellsAt hpk.1 3
        have HSS : Hid ((bstr (PRES ++ (sv.take k).flatMap Sv.elB)).size ≤ 700000) := HSZS.out k
        by_cases hlt : k < ns
        · obtain ⟨g, o, hp, hgl, hr⟩ : ∃ b off, ps = some ⟨b, off, none⟩ ∧ b < w.heap.size ∧ Sv.Row w b off sv := by
            rcases HRS.out with h | h
            · have := HNS.out; rw [h] at this; simp at this; omega
            · exact h
          subst hp
          have hkl : k < sv.length := by rw [HNS.out]; exact hlt
          obtain ⟨c0, c1, c2, c3, c4, c5, c6, c7, c8⟩ := hr k hkl
          have hbl : ∀ o, wr.cell? ⟨g, o, none⟩ = w.cell? ⟨g, o, none⟩ := fun o => hpk.2.cell (p := ⟨g, o, none⟩) hgl
          have hx : Sv.wok (sv.getD k Sv.dm) := HOKS.out _ (by rw [show sv.getD k Sv.dm = sv[k] by simp [List.getD, List.getElem?_eq_getElem hkl]]; exact List.getElem_mem _)
          have HST : Hid (bstr (PRES ++ (sv.take k).flatMap Sv.elB) ++ bstr (Sv.elB (sv.getD k Sv.dm)) = bstr (PRES ++ (sv.take (k + 1)).flatMap Sv.elB)) := by
            show _ = _
            rw [bstr_app, List.take_succ_eq_append_getElem hkl, List.flatMap_append]
            simp [List.getD, List.getElem?_eq_getElem hkl]
          have HEL : Hid (Sv.elB (sv.getD k Sv.dm) = txtB (sv.getD k Sv.dm).node ++ txtB (sv.getD k Sv.dm).idn ++ txtB (sv.getD k Sv.dm).name ++ txtB (sv.getD k Sv.dm).tag ++ numB (sv.getD k Sv.dm).addr ++ numB (sv.getD k Sv.dm).port ++ flgB (sv.getD k Sv.dm).passing ++ numB (sv.getD k Sv.dm).version ++ flgB (sv.getD k Sv.dm).gone) := by
            show _ = _
            unfold Sv.elB
            simp [List.flatMap_cons]
          generalize Sv.elB (sv.getD k Sv.dm) = EL at *
          generalize sv.getD k Sv.dm = x at *
          obtain ⟨x0, x1, x2, x3, x4, x5, x6, x7, x8⟩ := x
          obtain ⟨h0, h1, h2, h3, h4, h5, h6⟩ := hx
          simp only at h0 h1 h2 h3 h4 h5 h6 HEL c0 c1 c2 c3 c4 c5 c6 c7 c8
          have d0 := (hbl _).trans c0
          have d1 := (hbl _).trans c1
          have d2 := (hbl _).trans c2
          have d3 := (hbl _).trans c3
          have d4 := (hbl _).trans c4
          have d5 := (hbl _).trans c5
          have d6 := (hbl _).trans c6
          have d7 := (hbl _).trans c7
          have d8 := (hbl _).trans c8
          clear hbl c0 c1 c2 c3 c4 c5 c6 c7 c8 hr
          obtain ⟨W2, hW2⟩ : ∃ W2, W2 = wr.alloc (.cells #[.string x0, .string x1, .string x2, .string x3, .int .i64 x4, .int .i64 x5, .bool x6, .int .i64 x7, .bool x8] 60) := ⟨_, rfl⟩
          have hb2 : Below wr.heap.size wr W2 := by rw [hW2]; exact (Below.refl _ _).alloc (Nat.le_refl _) _
          have hg2 : W2.heap[wr.heap.size]? = some (.cells #[.string x0, .string x1, .string x2, .string x3, .int .i64 x4, .int .i64 x5, .bool x6, .int .i64 x7, .bool x8] 60 (0, 0)) := by rw [hW2]; exact heap_alloc_new wr _
          have HB2 : Hid (Below W0.heap.size W0 W2) := HBL.out.trans (hb2.mono HBL.out.size)
          have hki : (k : Int) < (ns : Int) := by omega
          go_upto_region 12 with fail
          rw [← hW2]
          clear hW2 p3 d0 d1 d2 d3 d4 d5 d6 d7 d8
          have F0 : ∀ d os, (Go.Sort.grow (redrawn W2 d) os).cell? ⟨wr.heap.size, 0, none⟩ = some (.string x0) := cell_regrown (cellsAt hg2 0)
          have F1 : ∀ d os, (Go.Sort.grow (redrawn W2 d) os).cell? ⟨wr.heap.size, 1, none⟩ = some (.string x1) := cell_regrown (cellsAt hg2 1)
          have F2 : ∀ d os, (Go.Sort.grow (redrawn W2 d) os).cell? ⟨wr.heap.size, 2, none⟩ = some (.string x2) := cell_regrown (cellsAt hg2 2)
          have F3 : ∀ d os, (Go.Sort.grow (redrawn W2 d) os).cell? ⟨wr.heap.size, 3, none⟩ = some (.string x3) := cell_regrown (cellsAt hg2 3)
          have F4 : ∀ d os, (Go.Sort.grow (redrawn W2 d) os).cell? ⟨wr.heap.size, 4, none⟩ = some (.int .i64 x4) := cell_regrown (cellsAt hg2 4)
          have F5 : ∀ d os, (Go.Sort.grow (redrawn W2 d) os).cell? ⟨wr.heap.size, 5, none⟩ = some (.int .i64 x5) := cell_regrown (cellsAt hg2 5)
          have F6 : ∀ d os, (Go.Sort.grow (redrawn W2 d) os).cell? ⟨wr.heap.size, 6, none⟩ = some (.bool x6) := cell_regrown (cellsAt hg2 6)
          have F7 : ∀ d os, (Go.Sort.grow (redrawn W2 d) os).cell? ⟨wr.heap.size, 7, none⟩ = some (.int .i64 x7) := cell_regrown (cellsAt hg2 7)
          have F8 : ∀ d os, (Go.Sort.grow (redrawn W2 d) os).cell? ⟨wr.heap.size, 8, none⟩ = some (.bool x8) := cell_regrown (cellsAt hg2 8)
          obtain ⟨a0, ha0⟩ : ∃ a, a = bstr (txtB x0) := ⟨_, rfl⟩
          have z0 : a0.size ≤ 1100 := by rw [ha0]; exact (by have g1 := numB_len (in63_nat (n := x0.size) (by omega)); rw [bstr_size]; unfold txtB; rw [List.length_append]; have g2 : x0.data.toList.length = x0.size := rfl; omega)
          have hC0 : ∀ d os, Calls Tryz.prog 23 #[.string x0] (Go.Sort.grow (redrawn W2 d) os) fun e w'' => e = .returned (.string a0) ∧ ∃ q : Regrown, w'' = Go.Sort.grow (redrawn W2 q.d) q.os := fun d os => by rw [ha0]; exact Calls.regrown_of (textBytes_any _ _ (by have := h0; omega))
          obtain ⟨a1, ha1⟩ : ∃ a, a = bstr (txtB x1) := ⟨_, rfl⟩
          have z1 : a1.size ≤ 1100 := by rw [ha1]; exact (by have g1 := numB_len (in63_nat (n := x1.size) (by omega)); rw [bstr_size]; unfold txtB; rw [List.length_append]; have g2 : x1.data.toList.length = x1.size := rfl; omega)
          have hC1 : ∀ d os, Calls Tryz.prog 23 #[.string x1] (Go.Sort.grow (redrawn W2 d) os) fun e w'' => e = .returned (.string a1) ∧ ∃ q : Regrown, w'' = Go.Sort.grow (redrawn W2 q.d) q.os := fun d os => by rw [ha1]; exact Calls.regrown_of (textBytes_any _ _ (by have := h1; omega))
          obtain ⟨a2, ha2⟩ : ∃ a, a = bstr (txtB x2) := ⟨_, rfl⟩
          have z2 : a2.size ≤ 1100 := by rw [ha2]; exact (by have g1 := numB_len (in63_nat (n := x2.size) (by omega)); rw [bstr_size]; unfold txtB; rw [List.length_append]; have g2 : x2.data.toList.length = x2.size := rfl; omega)
          have hC2 : ∀ d os, Calls Tryz.prog 23 #[.string x2] (Go.Sort.grow (redrawn W2 d) os) fun e w'' => e = .returned (.string a2) ∧ ∃ q : Regrown, w'' = Go.Sort.grow (redrawn W2 q.d) q.os := fun d os => by rw [ha2]; exact Calls.regrown_of (textBytes_any _ _ (by have := h2; omega))
          obtain ⟨a3, ha3⟩ : ∃ a, a = bstr (txtB x3) := ⟨_, rfl⟩
          have z3 : a3.size ≤ 1100 := by rw [ha3]; exact (by have g1 := numB_len (in63_nat (n := x3.size) (by omega)); rw [bstr_size]; unfold txtB; rw [List.length_append]; have g2 : x3.data.toList.length = x3.size := rfl; omega)
          have hC3 : ∀ d os, Calls Tryz.prog 23 #[.string x3] (Go.Sort.grow (redrawn W2 d) os) fun e w'' => e = .returned (.string a3) ∧ ∃ q : Regrown, w'' = Go.Sort.grow (redrawn W2 q.d) q.os := fun d os => by rw [ha3]; exact Calls.regrown_of (textBytes_any _ _ (by have := h3; omega))
          obtain ⟨a4, ha4⟩ : ∃ a, a = bstr (numB x4) := ⟨_, rfl⟩
          have z4 : a4.size ≤ 1100 := by rw [ha4]; exact (by have g1 := numB_len h4; rw [bstr_size]; omega)
          have hC4 : ∀ d os, Calls Tryz.prog 25 #[.int .i64 x4] (Go.Sort.grow (redrawn W2 d) os) fun e w'' => e = .returned (.string a4) ∧ ∃ q : Regrown, w'' = Go.Sort.grow (redrawn W2 q.d) q.os := fun d os => by rw [ha4]; exact Calls.regrown_of (dec_any _ _ h4)
          obtain ⟨a5, ha5⟩ : ∃ a, a = bstr (numB x5) := ⟨_, rfl⟩
          have z5 : a5.size ≤ 1100 := by rw [ha5]; exact (by have g1 := numB_len h5; rw [bstr_size]; omega)
          have hC5 : ∀ d os, Calls Tryz.prog 25 #[.int .i64 x5] (Go.Sort.grow (redrawn W2 d) os) fun e w'' => e = .returned (.string a5) ∧ ∃ q : Regrown, w'' = Go.Sort.grow (redrawn W2 q.d) q.os := fun d os => by rw [ha5]; exact Calls.regrown_of (dec_any _ _ h5)
          obtain ⟨a6, ha6⟩ : ∃ a, a = bstr (flgB x6) := ⟨_, rfl⟩
          have z6 : a6.size ≤ 1100 := by rw [ha6]; exact (by rw [bstr_size, flgB_val]; split <;> decide)
          have hC6 : ∀ d os, Calls Tryz.prog 24 #[.bool x6] (Go.Sort.grow (redrawn W2 d) os) fun e w'' => e = .returned (.string a6) ∧ ∃ q : Regrown, w'' = Go.Sort.grow (redrawn W2 q.d) q.os := fun d os => by rw [ha6]; exact Calls.regrown_of (yesBytes_any _ _)
          obtain ⟨a7, ha7⟩ : ∃ a, a = bstr (numB x7) := ⟨_, rfl⟩
          have z7 : a7.size ≤ 1100 := by rw [ha7]; exact (by have g1 := numB_len h6; rw [bstr_size]; omega)
          have hC7 : ∀ d os, Calls Tryz.prog 25 #[.int .i64 x7] (Go.Sort.grow (redrawn W2 d) os) fun e w'' => e = .returned (.string a7) ∧ ∃ q : Regrown, w'' = Go.Sort.grow (redrawn W2 q.d) q.os := fun d os => by rw [ha7]; exact Calls.regrown_of (dec_any _ _ h6)
          obtain ⟨a8, ha8⟩ : ∃ a, a = bstr (flgB x8) := ⟨_, rfl⟩
          have z8 : a8.size ≤ 1100 := by rw [ha8]; exact (by rw [bstr_size, flgB_val]; split <;> decide)
          have hC8 : ∀ d os, Calls Tryz.prog 24 #[.bool x8] (Go.Sort.grow (redrawn W2 d) os) fun e w'' => e = .returned (.string a8) ∧ ∃ q : Regrown, w'' = Go.Sort.grow (redrawn W2 q.d) q.os := fun d os => by rw [ha8]; exact Calls.regrown_of (yesBytes_any _ _)
          have HTE : Hid (((((((((a0 ++ a1) ++ a2) ++ a3) ++ a4) ++ a5) ++ a6) ++ a7) ++ a8) = bstr EL) := by
            show _ = _
            rw [HEL.out, ha0, ha1, ha2, ha3, ha4, ha5, ha6, ha7, ha8]
            simp only [bstr_app, List.append_assoc]
          clear ha0 ha1 ha2 ha3 ha4 ha5 ha6 ha7 ha8
          generalize bstr (PRES ++ (sv.take k).flatMap Sv.elB) = S at *
          have hS : S.size ≤ 700000 := HSS.out
          have u2 : ¬ 9223372036854775807 < a0.size + a1.size + a2.size := by omega
          have u3 : ¬ 9223372036854775807 < a0.size + a1.size + a2.size + a3.size := by omega
          have u4 : ¬ 9223372036854775807 < a0.size + a1.size + a2.size + a3.size + a4.size := by omega
          have u5 : ¬ 9223372036854775807 < a0.size + a1.size + a2.size + a3.size + a4.size + a5.size := by omega
          have u6 : ¬ 9223372036854775807 < a0.size + a1.size + a2.size + a3.size + a4.size + a5.size + a6.size := by omega
          have u7 : ¬ 9223372036854775807 < a0.size + a1.size + a2.size + a3.size + a4.size + a5.size + a6.size + a7.size := by omega
          have u8 : ¬ 9223372036854775807 < a0.size + a1.size + a2.size + a3.size + a4.size + a5.size + a6.size + a7.size + a8.size := by omega
          have u0 : ¬ 9223372036854775807 < S.size + (a0.size + a1.size + a2.size + a3.size + a4.size + a5.size + a6.size + a7.size + a8.size) := by omega
          have y1 : ¬ 9223372036854775807 < a0.size + a1.size := by (try simp only [ByteArray.size_append]); omega
          have y2 : ¬ 9223372036854775807 < (a0 ++ a1).size + a2.size := by (try simp only [ByteArray.size_append]); omega
          have y3 : ¬ 9223372036854775807 < ((a0 ++ a1) ++ a2).size + a3.size := by (try simp only [ByteArray.size_append]); omega
          have y4 : ¬ 9223372036854775807 < (((a0 ++ a1) ++ a2) ++ a3).size + a4.size := by (try simp only [ByteArray.size_append]); omega
          have y5 : ¬ 9223372036854775807 < ((((a0 ++ a1) ++ a2) ++ a3) ++ a4).size + a5.size := by (try simp only [ByteArray.size_append]); omega
          have y6 : ¬ 9223372036854775807 < (((((a0 ++ a1) ++ a2) ++ a3) ++ a4) ++ a5).size + a6.size := by (try simp only [ByteArray.size_append]); omega
          have y7 : ¬ 9223372036854775807 < ((((((a0 ++ a1) ++ a2) ++ a3) ++ a4) ++ a5) ++ a6).size + a7.size := by (try simp only [ByteArray.size_append]); omega
          have y8 : ¬ 9223372036854775807 < (((((((a0 ++ a1) ++ a2) ++ a3) ++ a4) ++ a5) ++ a6) ++ a7).size + a8.size := by (try simp only [ByteArray.size_append]); omega
          have y0 : ¬ 9223372036854775807 < S.size + ((((((((a0 ++ a1) ++ a2) ++ a3) ++ a4) ++ a5) ++ a6) ++ a7) ++ a8).size := by (try simp only [ByteArray.size_append]); omega
          refine wp_region_quiet_below (by kernel_rfl) (by kernel_rfl) ?_
          repeat (quiet_step (fail))
          quiet_step (exact hC0 _ _)
          repeat (quiet_step (fail))
          quiet_step (exact hC1 _ _)
          repeat (quiet_step (fail))
          quiet_step (exact hC2 _ _)
          repeat (quiet_step (fail))
          quiet_step (exact hC3 _ _)
          repeat (quiet_step (fail))
          quiet_step (exact hC4 _ _)
          repeat (quiet_step (fail))
          quiet_step (exact hC5 _ _)
          repeat (quiet_step (fail))
          quiet_step (exact hC6 _ _)
          repeat (quiet_step (fail))
          quiet_step (exact hC7 _ _)
          repeat (quiet_step (fail))
          quiet_step (exact hC8 _ _)
          repeat (quiet_step (fail))
          refine wpQuiet_nil ?_
          intro _ hw'
          obtain ⟨⟨dq, osq⟩, hw''⟩ := hw'
          subst hw''
          have HB3 : Hid (Below W0.heap.size W0 (Go.Sort.grow (redrawn W2 dq) osq)) := HB2.out.trans ((below_regrown W2 dq osq).mono HB2.out.size)
          clear hC0 hC1 hC2 hC3 hC4 hC5 hC6 hC7 hC8
          generalize Go.Sort.grow (redrawn W2 dq) osq = W3 at *
          go_wp2_with fail
          go_roundw
          case rel => exact ⟨k + 1, by omega, by rw [HTE.out, HST.out], by go_num, HB3⟩
          case measure => simp [intOf]; omega
        · have hki : ¬ (k : Int) < (ns : Int) := by omega
          have hall : bstr (PRES ++ (sv.take k).flatMap Sv.elB) = bstr (PRES ++ sv.flatMap Sv.elB) := by rw [List.take_of_length_le (by rw [HNS.out]; omega)]
          rw [hall] at HSS ⊢
          clear hall hlt hk
          have p4 : wr.cell? ⟨w.heap.size, 4, none⟩ = some (.slice pg ng cg) := cellsAt hpk.1 4
          have HCG : Hid (Calls Tryz.prog 25 #[.int .i64 (ng : Int)] wr fun e w' => e = .returned (.string (bstr (numB ng))) ∧ Below wr.heap.size wr w') := dec_any _ _ (in63_nat (by have := HMG.out; omega))
          have hs2 : (bstr (numB ng)).size ≤ 21 := by rw [bstr_size]; exact numB_len (in63_nat (by have := HMG.out; omega))
          have HPE : Hid (bstr (PRES ++ sv.flatMap Sv.elB) ++ bstr (numB ng) = bstr PREG) := by
            show _ = _
            rw [bstr_app, HPREG.out]
          have hS : (bstr (PRES ++ sv.flatMap Sv.elB)).size ≤ 700000 := HSS.out
          generalize bstr (PRES ++ sv.flatMap Sv.elB) = S at *
          generalize bstr (numB ng) = dn at *
          have y0 : ¬ 9223372036854775807 < S.size + dn.size := by omega
          clear hpk
          go_wp2_with fail
          refine HCG.out.mono ?_
          rintro e W4 ⟨rfl, hb4⟩
          have HBL4 : Hid (Below W0.heap.size W0 W4) := HBL.out.trans (hb4.mono HBL.out.size)
          clear hb4 HBL p4 p3
          have HBL := HBL4
          clear HBL4
          go_wp2_with fail
          rw [HPE.out]
          clear hki HSS
          go_loopw [3, 8] (fun sv_ i w' => ∃ k : Nat, k ≤ ng ∧ sv_ = .string (bstr (PREG ++ (gw.take k).flatMap Gw.elB)) ∧ i = .int .i64 k ∧ Hid (Below W0.heap.size W0 w')) (fun _ i _ => ng - (intOf i).toNat)
          case atStart => exact ⟨0, Nat.zero_le _, by simp, rfl, HBL⟩
          case round =>
            clear HBL
            obtain ⟨k, hk, rfl, rfl, HBL⟩ := hrel
            have hpk := HBX.out wr HBL.out
            have p4 : wr.cell? ⟨w.heap.size, 4, none⟩ = some (.slice pg ng cg) := cellsAt hpk.1 4
            have HSS : Hid ((bstr (PREG ++ (gw.take k).flatMap Gw.elB)).size ≤ 700000) := HSZG.out k
            by_cases hlt : k < ng
            · obtain ⟨g, o, hp, hgl, hr⟩ : ∃ b off, pg = some ⟨b, off, none⟩ ∧ b < w.heap.size ∧ Gw.Row w b off gw := by
                rcases HRG.out with h | h
                · have := HNG.out; rw [h] at this; simp at this; omega
                · exact h
              subst hp
              have hkl : k < gw.length := by rw [HNG.out]; exact hlt
              obtain ⟨c0, c1, c2⟩ := hr k hkl
              have hbl : ∀ o, wr.cell? ⟨g, o, none⟩ = w.cell? ⟨g, o, none⟩ := fun o => hpk.2.cell (p := ⟨g, o, none⟩) hgl
              have hx : Gw.wok (gw.getD k Gw.dm) := HOKG.out _ (by rw [show gw.getD k Gw.dm = gw[k] by simp [List.getD, List.getElem?_eq_getElem hkl]]; exact List.getElem_mem _)
              have HST : Hid (bstr (PREG ++ (gw.take k).flatMap Gw.elB) ++ bstr (Gw.elB (gw.getD k Gw.dm)) = bstr (PREG ++ (gw.take (k + 1)).flatMap Gw.elB)) := by
                show _ = _
                rw [bstr_app, List.take_succ_eq_append_getElem hkl, List.flatMap_append]
                simp [List.getD, List.getElem?_eq_getElem hkl]
              have HEL : Hid (Gw.elB (gw.getD k Gw.dm) = txtB (gw.getD k Gw.dm).centre ++ numB (gw.getD k Gw.dm).addr ++ numB (gw.getD k Gw.dm).version) := by
                show _ = _
                unfold Gw.elB
                simp [List.flatMap_cons]
              generalize Gw.elB (gw.getD k Gw.dm) = EL at *
              generalize gw.getD k Gw.dm = x at *
              obtain ⟨x0, x1, x2⟩ := x
              obtain ⟨h0, h1, h2⟩ := hx
              simp only at h0 h1 h2 HEL c0 c1 c2
              have d0 := (hbl _).trans c0
              have d1 := (hbl _).trans c1
              have d2 := (hbl _).trans c2
              clear hbl c0 c1 c2 hr
              have hki : (k : Int) < (ng : Int) := by omega
              go_upto_region 17 with fail
              have G0 : ∀ d os, (Go.Sort.grow (redrawn wr d) os).cell? ⟨w.heap.size, 4, none⟩ = some (.slice (some ⟨g, o, none⟩) ng cg) := cell_regrown p4
              have F0 : ∀ d os, (Go.Sort.grow (redrawn wr d) os).cell? ⟨g, o + k * 3, none⟩ = some (.string x0) := cell_regrown d0
              have F1 : ∀ d os, (Go.Sort.grow (redrawn wr d) os).cell? ⟨g, o + k * 3 + 1, none⟩ = some (.int .i64 x1) := cell_regrown d1
              have F2 : ∀ d os, (Go.Sort.grow (redrawn wr d) os).cell? ⟨g, o + k * 3 + 2, none⟩ = some (.int .i64 x2) := cell_regrown d2
              clear p4 d0 d1 d2
              obtain ⟨a0, ha0⟩ : ∃ a, a = bstr (txtB x0) := ⟨_, rfl⟩
              have z0 : a0.size ≤ 1100 := by rw [ha0]; exact (by have g1 := numB_len (in63_nat (n := x0.size) (by omega)); rw [bstr_size]; unfold txtB; rw [List.length_append]; have g2 : x0.data.toList.length = x0.size := rfl; omega)
              have hC0 : ∀ d os, Calls Tryz.prog 23 #[.string x0] (Go.Sort.grow (redrawn wr d) os) fun e w'' => e = .returned (.string a0) ∧ ∃ q : Regrown, w'' = Go.Sort.grow (redrawn wr q.d) q.os := fun d os => by rw [ha0]; exact Calls.regrown_of (textBytes_any _ _ (by have := h0; omega))
              obtain ⟨a1, ha1⟩ : ∃ a, a = bstr (numB x1) := ⟨_, rfl⟩
              have z1 : a1.size ≤ 1100 := by rw [ha1]; exact (by have g1 := numB_len h1; rw [bstr_size]; omega)
              have hC1 : ∀ d os, Calls Tryz.prog 25 #[.int .i64 x1] (Go.Sort.grow (redrawn wr d) os) fun e w'' => e = .returned (.string a1) ∧ ∃ q : Regrown, w'' = Go.Sort.grow (redrawn wr q.d) q.os := fun d os => by rw [ha1]; exact Calls.regrown_of (dec_any _ _ h1)
              obtain ⟨a2, ha2⟩ : ∃ a, a = bstr (numB x2) := ⟨_, rfl⟩
              have z2 : a2.size ≤ 1100 := by rw [ha2]; exact (by have g1 := numB_len h2; rw [bstr_size]; omega)
              have hC2 : ∀ d os, Calls Tryz.prog 25 #[.int .i64 x2] (Go.Sort.grow (redrawn wr d) os) fun e w'' => e = .returned (.string a2) ∧ ∃ q : Regrown, w'' = Go.Sort.grow (redrawn wr q.d) q.os := fun d os => by rw [ha2]; exact Calls.regrown_of (dec_any _ _ h2)
              have HTE : Hid (((a0 ++ a1) ++ a2) = bstr EL) := by
                show _ = _
                rw [HEL.out, ha0, ha1, ha2]
                simp only [bstr_app, List.append_assoc]
              clear ha0 ha1 ha2
              generalize bstr (PREG ++ (gw.take k).flatMap Gw.elB) = S at *
              have hS : S.size ≤ 700000 := HSS.out
              have u2 : ¬ 9223372036854775807 < a0.size + a1.size + a2.size := by omega
              have u0 : ¬ 9223372036854775807 < S.size + (a0.size + a1.size + a2.size) := by omega
              have y1 : ¬ 9223372036854775807 < a0.size + a1.size := by (try simp only [ByteArray.size_append]); omega
              have y2 : ¬ 9223372036854775807 < (a0 ++ a1).size + a2.size := by (try simp only [ByteArray.size_append]); omega
              have y0 : ¬ 9223372036854775807 < S.size + ((a0 ++ a1) ++ a2).size := by (try simp only [ByteArray.size_append]); omega
              refine wp_region_quiet_below (by kernel_rfl) (by kernel_rfl) ?_
              repeat (quiet_step (fail))
              quiet_step (exact hC0 _ _)
              repeat (quiet_step (fail))
              quiet_step (exact hC1 _ _)
              repeat (quiet_step (fail))
              quiet_step (exact hC2 _ _)
              repeat (quiet_step (fail))
              refine wpQuiet_nil ?_
              intro _ hw'
              obtain ⟨⟨dq, osq⟩, hw''⟩ := hw'
              subst hw''
              have HB3 : Hid (Below W0.heap.size W0 (Go.Sort.grow (redrawn wr dq) osq)) := HBL.out.trans ((below_regrown wr dq osq).mono HBL.out.size)
              clear hC0 hC1 hC2
              generalize Go.Sort.grow (redrawn wr dq) osq = W3 at *
              go_wp2_with fail
              go_roundw
              case rel => exact ⟨k + 1, by omega, by rw [HTE.out, HST.out], by go_num, HB3⟩
              case measure => simp [intOf]; omega
            · have hki : ¬ (k : Int) < (ng : Int) := by omega
              have hall : bstr (PREG ++ (gw.take k).flatMap Gw.elB) = bstr (PREG ++ gw.flatMap Gw.elB) := by rw [List.take_of_length_le (by rw [HNG.out]; omega)]
              rw [hall] at HSS ⊢
              clear hall hlt hk
              have p5 : wr.cell? ⟨w.heap.size, 5, none⟩ = some (.slice ph nh ch) := cellsAt hpk.1 5
              have HCW : Hid (Calls Tryz.prog 25 #[.int .i64 (nh : Int)] wr fun e w' => e = .returned (.string (bstr (numB nh))) ∧ Below wr.heap.size wr w') := dec_any _ _ (in63_nat (by have := HMW.out; omega))
              have hs2 : (bstr (numB nh)).size ≤ 21 := by rw [bstr_size]; exact numB_len (in63_nat (by have := HMW.out; omega))
              have HPE : Hid (bstr (PREG ++ gw.flatMap Gw.elB) ++ bstr (numB nh) = bstr PREW) := by
                show _ = _
                rw [bstr_app, HPREW.out]
              have hS : (bstr (PREG ++ gw.flatMap Gw.elB)).size ≤ 700000 := HSS.out
              generalize bstr (PREG ++ gw.flatMap Gw.elB) = S at *
              generalize bstr (numB nh) = dn at *
              have y0 : ¬ 9223372036854775807 < S.size + dn.size := by omega
              clear hpk
              go_wp2_with fail
              refine HCW.out.mono ?_
              rintro e W4 ⟨rfl, hb4⟩
              have HBL4 : Hid (Below W0.heap.size W0 W4) := HBL.out.trans (hb4.mono HBL.out.size)
              clear hb4 HBL p5 p4
              have HBL := HBL4
              clear HBL4
              go_wp2_with fail
              rw [HPE.out]
              clear hki HSS
              go_loopw [3, 9] (fun sv_ i w' => ∃ k : Nat, k ≤ nh ∧ sv_ = .string (bstr (PREW ++ (wh.take k).flatMap Wh.elB)) ∧ i = .int .i64 k ∧ Hid (Below W0.heap.size W0 w')) (fun _ i _ => nh - (intOf i).toNat)
              case atStart => exact ⟨0, Nat.zero_le _, by simp, rfl, HBL⟩
              case round =>
                clear HBL
                obtain ⟨k, hk, rfl, rfl, HBL⟩ := hrel
                have hpk := HBX.out wr HBL.out
                have p5 : wr.cell? ⟨w.heap.size, 5, none⟩ = some (.slice ph nh ch) := cellsAt hpk.1 5
                have HSS : Hid ((bstr (PREW ++ (wh.take k).flatMap Wh.elB)).size ≤ 700000) := HSZW.out k
                by_cases hlt : k < nh
                · obtain ⟨g, o, hp, hgl, hr⟩ : ∃ b off, ph = some ⟨b, off, none⟩ ∧ b < w.heap.size ∧ Wh.Row w b off wh := by
                    rcases HRW.out with h | h
                    · have := HNW.out; rw [h] at this; simp at this; omega
                    · exact h
                  subst hp
                  have hkl : k < wh.length := by rw [HNW.out]; exact hlt
                  obtain ⟨c0, c1, c2, c3, c4, c5⟩ := hr k hkl
                  have hbl : ∀ o, wr.cell? ⟨g, o, none⟩ = w.cell? ⟨g, o, none⟩ := fun o => hpk.2.cell (p := ⟨g, o, none⟩) hgl
                  have hx : Wh.wok (wh.getD k Wh.dm) := HOKW.out _ (by rw [show wh.getD k Wh.dm = wh[k] by simp [List.getD, List.getElem?_eq_getElem hkl]]; exact List.getElem_mem _)
                  have HST : Hid (bstr (PREW ++ (wh.take k).flatMap Wh.elB) ++ bstr (Wh.elB (wh.getD k Wh.dm)) = bstr (PREW ++ (wh.take (k + 1)).flatMap Wh.elB)) := by
                    show _ = _
                    rw [bstr_app, List.take_succ_eq_append_getElem hkl, List.flatMap_append]
                    simp [List.getD, List.getElem?_eq_getElem hkl]
                  have HEL : Hid (Wh.elB (wh.getD k Wh.dm) = txtB (wh.getD k Wh.dm).node ++ numB (wh.getD k Wh.dm).x ++ numB (wh.getD k Wh.dm).y ++ numB (wh.getD k Wh.dm).z ++ numB (wh.getD k Wh.dm).h ++ numB (wh.getD k Wh.dm).s) := by
                    show _ = _
                    unfold Wh.elB
                    simp [List.flatMap_cons]
                  generalize Wh.elB (wh.getD k Wh.dm) = EL at *
                  generalize wh.getD k Wh.dm = x at *
                  obtain ⟨x0, x1, x2, x3, x4, x5⟩ := x
                  obtain ⟨h0, h1, h2, h3, h4, h5⟩ := hx
                  simp only at h0 h1 h2 h3 h4 h5 HEL c0 c1 c2 c3 c4 c5
                  have d0 := (hbl _).trans c0
                  have d1 := (hbl _).trans c1
                  have d2 := (hbl _).trans c2
                  have d3 := (hbl _).trans c3
                  have d4 := (hbl _).trans c4
                  have d5 := (hbl _).trans c5
                  clear hbl c0 c1 c2 c3 c4 c5 hr
                  obtain ⟨W2, hW2⟩ : ∃ W2, W2 = wr.alloc (.cells #[.int .i64 x1, .int .i64 x2, .int .i64 x3, .int .i64 x4, .int .i64 x5] 64) := ⟨_, rfl⟩
                  have hb2 : Below wr.heap.size wr W2 := by rw [hW2]; exact (Below.refl _ _).alloc (Nat.le_refl _) _
                  have hg2 : W2.heap[wr.heap.size]? = some (.cells #[.int .i64 x1, .int .i64 x2, .int .i64 x3, .int .i64 x4, .int .i64 x5] 64 (0, 0)) := by rw [hW2]; exact heap_alloc_new wr _
                  have HB2 : Hid (Below W0.heap.size W0 W2) := HBL.out.trans (hb2.mono HBL.out.size)
                  have hki : (k : Int) < (nh : Int) := by omega
                  have q5 : W2.cell? ⟨w.heap.size, 5, none⟩ = some (.slice (some ⟨g, o, none⟩) nh ch) := cellsAt (HBX.out W2 HB2.out).1 5
                  have e0 : W2.cell? ⟨g, o + k * 6, none⟩ = some (.string x0) := (hb2.cell (p := ⟨g, o + k * 6, none⟩) (Nat.lt_of_lt_of_le hgl hpk.2.size)).trans d0
                  go_upto_region 23 with fail
                  rw [← hW2]
                  clear hW2 p5 d0 d1 d2 d3 d4 d5
                  have F0 : ∀ d os, (Go.Sort.grow (redrawn W2 d) os).cell? ⟨wr.heap.size, 0, none⟩ = some (.int .i64 x1) := cell_regrown (cellsAt hg2 0)
                  have F1 : ∀ d os, (Go.Sort.grow (redrawn W2 d) os).cell? ⟨wr.heap.size, 1, none⟩ = some (.int .i64 x2) := cell_regrown (cellsAt hg2 1)
                  have F2 : ∀ d os, (Go.Sort.grow (redrawn W2 d) os).cell? ⟨wr.heap.size, 2, none⟩ = some (.int .i64 x3) := cell_regrown (cellsAt hg2 2)
                  have F3 : ∀ d os, (Go.Sort.grow (redrawn W2 d) os).cell? ⟨wr.heap.size, 3, none⟩ = some (.int .i64 x4) := cell_regrown (cellsAt hg2 3)
                  have F4 : ∀ d os, (Go.Sort.grow (redrawn W2 d) os).cell? ⟨wr.heap.size, 4, none⟩ = some (.int .i64 x5) := cell_regrown (cellsAt hg2 4)
                  have G0 : ∀ d os, (Go.Sort.grow (redrawn W2 d) os).cell? ⟨w.heap.size, 5, none⟩ = some (.slice (some ⟨g, o, none⟩) nh ch) := cell_regrown q5
                  have G1 : ∀ d os, (Go.Sort.grow (redrawn W2 d) os).cell? ⟨g, o + k * 6, none⟩ = some (.string x0) := cell_regrown e0
                  clear q5 e0
                  obtain ⟨a0, ha0⟩ : ∃ a, a = bstr (txtB x0) := ⟨_, rfl⟩
                  have z0 : a0.size ≤ 1100 := by rw [ha0]; exact (by have g1 := numB_len (in63_nat (n := x0.size) (by omega)); rw [bstr_size]; unfold txtB; rw [List.length_append]; have g2 : x0.data.toList.length = x0.size := rfl; omega)
                  have hC0 : ∀ d os, Calls Tryz.prog 23 #[.string x0] (Go.Sort.grow (redrawn W2 d) os) fun e w'' => e = .returned (.string a0) ∧ ∃ q : Regrown, w'' = Go.Sort.grow (redrawn W2 q.d) q.os := fun d os => by rw [ha0]; exact Calls.regrown_of (textBytes_any _ _ (by have := h0; omega))
                  obtain ⟨a1, ha1⟩ : ∃ a, a = bstr (numB x1) := ⟨_, rfl⟩
                  have z1 : a1.size ≤ 1100 := by rw [ha1]; exact (by have g1 := numB_len h1; rw [bstr_size]; omega)
                  have hC1 : ∀ d os, Calls Tryz.prog 25 #[.int .i64 x1] (Go.Sort.grow (redrawn W2 d) os) fun e w'' => e = .returned (.string a1) ∧ ∃ q : Regrown, w'' = Go.Sort.grow (redrawn W2 q.d) q.os := fun d os => by rw [ha1]; exact Calls.regrown_of (dec_any _ _ h1)
                  obtain ⟨a2, ha2⟩ : ∃ a, a = bstr (numB x2) := ⟨_, rfl⟩
                  have z2 : a2.size ≤ 1100 := by rw [ha2]; exact (by have g1 := numB_len h2; rw [bstr_size]; omega)
                  have hC2 : ∀ d os, Calls Tryz.prog 25 #[.int .i64 x2] (Go.Sort.grow (redrawn W2 d) os) fun e w'' => e = .returned (.string a2) ∧ ∃ q : Regrown, w'' = Go.Sort.grow (redrawn W2 q.d) q.os := fun d os => by rw [ha2]; exact Calls.regrown_of (dec_any _ _ h2)
                  obtain ⟨a3, ha3⟩ : ∃ a, a = bstr (numB x3) := ⟨_, rfl⟩
                  have z3 : a3.size ≤ 1100 := by rw [ha3]; exact (by have g1 := numB_len h3; rw [bstr_size]; omega)
                  have hC3 : ∀ d os, Calls Tryz.prog 25 #[.int .i64 x3] (Go.Sort.grow (redrawn W2 d) os) fun e w'' => e = .returned (.string a3) ∧ ∃ q : Regrown, w'' = Go.Sort.grow (redrawn W2 q.d) q.os := fun d os => by rw [ha3]; exact Calls.regrown_of (dec_any _ _ h3)
                  obtain ⟨a4, ha4⟩ : ∃ a, a = bstr (numB x4) := ⟨_, rfl⟩
                  have z4 : a4.size ≤ 1100 := by rw [ha4]; exact (by have g1 := numB_len h4; rw [bstr_size]; omega)
                  have hC4 : ∀ d os, Calls Tryz.prog 25 #[.int .i64 x4] (Go.Sort.grow (redrawn W2 d) os) fun e w'' => e = .returned (.string a4) ∧ ∃ q : Regrown, w'' = Go.Sort.grow (redrawn W2 q.d) q.os := fun d os => by rw [ha4]; exact Calls.regrown_of (dec_any _ _ h4)
                  obtain ⟨a5, ha5⟩ : ∃ a, a = bstr (numB x5) := ⟨_, rfl⟩
                  have z5 : a5.size ≤ 1100 := by rw [ha5]; exact (by have g1 := numB_len h5; rw [bstr_size]; omega)
                  have hC5 : ∀ d os, Calls Tryz.prog 25 #[.int .i64 x5] (Go.Sort.grow (redrawn W2 d) os) fun e w'' => e = .returned (.string a5) ∧ ∃ q : Regrown, w'' = Go.Sort.grow (redrawn W2 q.d) q.os := fun d os => by rw [ha5]; exact Calls.regrown_of (dec_any _ _ h5)
                  have HTE : Hid ((((((a0 ++ a1) ++ a2) ++ a3) ++ a4) ++ a5) = bstr EL) := by
                    show _ = _
                    rw [HEL.out, ha0, ha1, ha2, ha3, ha4, ha5]
                    simp only [bstr_app, List.append_assoc]
                  clear ha0 ha1 ha2 ha3 ha4 ha5
                  generalize bstr (PREW ++ (wh.take k).flatMap Wh.elB) = S at *
                  have hS : S.size ≤ 700000 := HSS.out
                  have u2 : ¬ 9223372036854775807 < a0.size + a1.size + a2.size := by omega
                  have u3 : ¬ 9223372036854775807 < a0.size + a1.size + a2.size + a3.size := by omega
                  have u4 : ¬ 9223372036854775807 < a0.size + a1.size + a2.size + a3.size + a4.size := by omega
                  have u5 : ¬ 9223372036854775807 < a0.size + a1.size + a2.size + a3.size + a4.size + a5.size := by omega
                  have u0 : ¬ 9223372036854775807 < S.size + (a0.size + a1.size + a2.size + a3.size + a4.size + a5.size) := by omega
                  have y1 : ¬ 9223372036854775807 < a0.size + a1.size := by (try simp only [ByteArray.size_append]); omega
                  have y2 : ¬ 9223372036854775807 < (a0 ++ a1).size + a2.size := by (try simp only [ByteArray.size_append]); omega
                  have y3 : ¬ 9223372036854775807 < ((a0 ++ a1) ++ a2).size + a3.size := by (try simp only [ByteArray.size_append]); omega
                  have y4 : ¬ 9223372036854775807 < (((a0 ++ a1) ++ a2) ++ a3).size + a4.size := by (try simp only [ByteArray.size_append]); omega
                  have y5 : ¬ 9223372036854775807 < ((((a0 ++ a1) ++ a2) ++ a3) ++ a4).size + a5.size := by (try simp only [ByteArray.size_append]); omega
                  have y0 : ¬ 9223372036854775807 < S.size + (((((a0 ++ a1) ++ a2) ++ a3) ++ a4) ++ a5).size := by (try simp only [ByteArray.size_append]); omega
                  refine wp_region_quiet_below (by kernel_rfl) (by kernel_rfl) ?_
                  repeat (quiet_step (fail))
                  quiet_step (exact hC0 _ _)
                  repeat (quiet_step (fail))
                  quiet_step (exact hC1 _ _)
                  repeat (quiet_step (fail))
                  quiet_step (exact hC2 _ _)
                  repeat (quiet_step (fail))
                  quiet_step (exact hC3 _ _)
                  repeat (quiet_step (fail))
                  quiet_step (exact hC4 _ _)
                  repeat (quiet_step (fail))
                  quiet_step (exact hC5 _ _)
                  repeat (quiet_step (fail))
                  refine wpQuiet_nil ?_
                  intro _ hw'
                  obtain ⟨⟨dq, osq⟩, hw''⟩ := hw'
                  subst hw''
                  have HB3 : Hid (Below W0.heap.size W0 (Go.Sort.grow (redrawn W2 dq) osq)) := HB2.out.trans ((below_regrown W2 dq osq).mono HB2.out.size)
                  clear hC0 hC1 hC2 hC3 hC4 hC5
                  generalize Go.Sort.grow (redrawn W2 dq) osq = W3 at *
                  go_wp2_with fail
                  go_roundw
                  case rel => exact ⟨k + 1, by omega, by rw [HTE.out, HST.out], by go_num, HB3⟩
                  case measure => simp [intOf]; omega
                · have hki : ¬ (k : Int) < (nh : Int) := by omega
                  have hall : bstr (PREW ++ (wh.take k).flatMap Wh.elB) = bstr (PREW ++ wh.flatMap Wh.elB) := by rw [List.take_of_length_le (by rw [HNW.out]; omega)]
                  rw [hall] at HSS ⊢
                  clear hall hlt hk
                  go_wp2_with fail
                  go_ret
                  exact ⟨by rw [← HEND.out]; rfl, hpk.2⟩

end Go.Proofs.YtdfkpehggecbaaaGreatDoor

