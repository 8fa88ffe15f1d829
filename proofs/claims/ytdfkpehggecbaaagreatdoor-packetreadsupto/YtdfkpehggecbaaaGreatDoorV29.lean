/- JG, JI, ShelfA, JL -/
import Derived.Test.YtdfkpehggecbaaaGreatDoorV9
import Derived.Test.YtdfkpehggecbaaaGreatDoorV28
import Derived.Shelf.RegionOpen
import Derived.Lib.ConvBytes
import Derived.Laws.IdiomStrings
import Derived.Laws.DeepStrings4
import Derived.Lib.Split
import Derived.Shelf.Strings.Builder1
import Derived.Shelf.Strconv.Atoi
import Derived.Shelf.Strconv.Itoa0
import Derived.Shelf.Strconv.Itoa1
import Derived.Shelf.LaysM
import Derived.Shelf.Strconv.Itoa2
import Derived.Shelf.Strconv.Itoa3
import Derived.Shelf.Strconv.AtoiErrFast
import Derived.Shelf.Strconv.ParseIntEmpty
import Derived.Shelf.Strconv.AtoiFail
import Derived.Shelf.Strconv.Clone
import Derived.Shelf.Strconv.SyntaxError
import Derived.Shelf.LaysC
import Derived.Shelf.Strconv.ToError
import Derived.Shelf.Strconv.Lower
import Derived.Shelf.Strconv.ParseUint10
import Derived.Shelf.Strconv.ParseUint10Empty
import Derived.Shelf.Strconv.ParseUint10Any
import Derived.Shelf.Strconv.ParseInt10
import Derived.Shelf.Strconv.AtoiLong
import Derived.Shelf.Strconv.AtoiInnerAll
import Derived.Shelf.Strconv.RangeError
import Derived.Shelf.Strconv.ToErrorRange
import Derived.Shelf.Strconv.AtoiAll
import Derived.Shelf.Strings.Search1
import Derived.Test.YtdfkpehggecbaaaGreatDoorProg
import Derived.Test.YtdfkpehggecbaaaGreatDoorV2
import Derived.Test.YtdfkpehggecbaaaGreatDoorV10
/- Packets: what is written, as bytes; a packet written. -/
namespace Go.Proofs.YtdfkpehggecbaaaGreatDoor
open Go.RowKit

/-- I2: as bytes. -/
def numB (n : Int) : List UInt8 := Lib.itoa n ++ [59]
def txtB (s : ByteArray) : List UInt8 := numB s.size ++ s.data.toList
def flgB (y : Bool) : List UInt8 := numB (if y = true then 1 else 0)
theorem bc_app (a b : List UInt8) : Lib.byteCells (a ++ b) = Lib.byteCells a ++ Lib.byteCells b := by simp [Lib.byteCells]
theorem numL_eq (n : Int) : numL n = Lib.byteCells (numB n) := by
  unfold numL numB itoaB
  rw [bc_app, Lib.strCells_toArray]; rfl
theorem txtL_eq (s : ByteArray) : txtL s = Lib.byteCells (txtB s) := by
  unfold txtL txtB
  rw [bc_app, numL_eq]; rfl
theorem flgL_eq (y : Bool) : flgL y = Lib.byteCells (flgB y) := numL_eq _
theorem bc_flat {α : Type} (f : α → List Value) (g : α → List UInt8) (h : ∀ x, f x = Lib.byteCells (g x)) : ∀ l : List α, l.flatMap f = Lib.byteCells (l.flatMap g)
  | [] => rfl
  | x :: r => by rw [List.flatMap_cons, List.flatMap_cons, bc_app, h, bc_flat f g h r]
theorem nums_eq (l : List Int) : l.flatMap numL = Lib.byteCells (l.flatMap numB) := bc_flat numL numB numL_eq l
def elB (m : Mem) : List UInt8 := txtB m.name ++ [m.state, m.life, m.addr].flatMap numB ++ flgB m.server
theorem elL_eq (m : Mem) : elL m = Lib.byteCells (elB m) := by
  unfold elL elB
  simp only [bc_app, txtL_eq, flgL_eq, nums_eq]
def Sv.elB (m : Sv.Svc) : List UInt8 := txtB m.node ++ txtB m.idn ++ txtB m.name ++ txtB m.tag ++ [m.addr, m.port].flatMap numB ++ flgB m.passing ++ [m.version].flatMap numB ++ flgB m.gone
theorem Sv.elL_eq (m : Sv.Svc) : Sv.elL m = Lib.byteCells (Sv.elB m) := by
  unfold Sv.elL Sv.elB
  simp only [bc_app, txtL_eq, flgL_eq, nums_eq]
def Gw.elB (m : Gw.Gwy) : List UInt8 := txtB m.centre ++ [m.addr, m.version].flatMap numB
theorem Gw.elL_eq (m : Gw.Gwy) : Gw.elL m = Lib.byteCells (Gw.elB m) := by
  unfold Gw.elL Gw.elB
  simp only [bc_app, txtL_eq, nums_eq]
def Wh.elB (m : Wh.Whe) : List UInt8 := txtB m.node ++ [m.x, m.y, m.z, m.h, m.s].flatMap numB
theorem Wh.elL_eq (m : Wh.Whe) : Wh.elL m = Lib.byteCells (Wh.elB m) := by
  unfold Wh.elL Wh.elB
  simp only [bc_app, txtL_eq, nums_eq]
/-- I2: a packet. -/
def Pk.L (p : Pk) : List Value := txtL p.frm ++ flgL p.whole ++ (numL p.ms.length ++ p.ms.flatMap elL) ++ (numL p.sv.length ++ p.sv.flatMap Sv.elL) ++ (numL p.gw.length ++ p.gw.flatMap Gw.elL) ++ (numL p.wh.length ++ p.wh.flatMap Wh.elL)
def Pk.B (p : Pk) : List UInt8 := txtB p.frm ++ flgB p.whole ++ (numB p.ms.length ++ p.ms.flatMap elB) ++ (numB p.sv.length ++ p.sv.flatMap Sv.elB) ++ (numB p.gw.length ++ p.gw.flatMap Gw.elB) ++ (numB p.wh.length ++ p.wh.flatMap Wh.elB)
theorem Pk.L_eq (p : Pk) : p.L = Lib.byteCells p.B := by
  unfold Pk.L Pk.B
  simp only [bc_app, txtL_eq, flgL_eq, numL_eq, bc_flat elL elB elL_eq, bc_flat Sv.elL Sv.elB Sv.elL_eq, bc_flat Gw.elL Gw.elB Gw.elL_eq, bc_flat Wh.elL Wh.elB Wh.elL_eq]
structure Pk.Wok (p : Pk) : Prop where
  frm : p.frm.size ≤ 1000
  ms : p.ms.length ≤ 20 ∧ ∀ m ∈ p.ms, wok m
  sv : p.sv.length ≤ 40 ∧ ∀ m ∈ p.sv, Sv.wok m
  gw : p.gw.length ≤ 6 ∧ ∀ m ∈ p.gw, Gw.wok m
  wh : p.wh.length ≤ 20 ∧ ∀ m ∈ p.wh, Wh.wok m

set_option maxHeartbeats 6400000 in
set_option maxRecDepth 100000 in
theorem wpacket_any (B b : Nat) (p : Pk) (zm zs zg zw : Value) (w0 w : World) (h : IsW B b [] w) (hx : PkIs w0 p zm zs zg zw) (hB : B = w0.heap.size) (hbel : Below B w0 w) (hBw : B ≤ w.heap.size) (hT : Tab B w) (hok : p.Wok) :
    Calls Tryz.prog 15 #[.pointer (some ⟨b, 0, none⟩), .agg #[.string p.frm, .bool p.whole, zm, zs, zg, zw]] w fun e w' => e = .returned (.tuple #[]) ∧ IsW B b p.L w' ∧ Kp B b w w' := by
  have HPL : Hid (p.L = txtL p.frm ++ flgL p.whole ++ (numL p.ms.length ++ p.ms.flatMap elL) ++ (numL p.sv.length ++ p.sv.flatMap Sv.elL) ++ (numL p.gw.length ++ p.gw.flatMap Gw.elL) ++ (numL p.wh.length ++ p.wh.flatMap Wh.elL)) := rfl
  have HXI : Hid (PkIs w0 p zm zs zg zw) := hx
  have HOK : Hid p.Wok := hok
  obtain ⟨frm, whole, ms, sv, gw, wh⟩ := p
  obtain ⟨⟨pm, cm, rfl, _, _⟩, ⟨ps, cs, rfl, _, _⟩, ⟨pg, cg, rfl, _, _⟩, ⟨ph, ch, rfl, _, _⟩, _, _⟩ := hx
  simp only at HPL HXI ⊢
  generalize Pk.L ⟨frm, whole, ms, sv, gw, wh⟩ = PL at *
  have hlb := h.lt
  obtain ⟨W0, hW0⟩ : ∃ W0, W0 = (w.alloc (.cells #[.pointer (some ⟨b, 0, none⟩)] 81)).alloc (.cells #[.string frm, .bool whole, .slice pm ms.length cm, .slice ps sv.length cs, .slice pg gw.length cg, .slice ph wh.length ch] 27) := ⟨_, rfl⟩
  have hb0 : Below w.heap.size w W0 := by rw [hW0]; exact ((Below.refl _ _).alloc (Nat.le_refl _) _).alloc (by simp) _
  have HW0 : Hid (IsW B b [] W0) := h.below hb0
  have HK0 : Hid (Kp B b w W0) := Kp.of_below hb0 hBw
  have HB0 : Hid (W0.heap[w.heap.size]? = some (.cells #[.pointer (some ⟨b, 0, none⟩)] 81 (0, 0))) := by rw [hW0, Below.heap_alloc _ _ _ (by simp)]; exact heap_alloc_new w _
  have hx0 : W0.heap[w.heap.size + 1]? = some (.cells #[.string frm, .bool whole, .slice pm ms.length cm, .slice ps sv.length cs, .slice pg gw.length cg, .slice ph wh.length ch] 27 (0, 0)) := by
    have h := heap_alloc_new (w.alloc (.cells #[.pointer (some ⟨b, 0, none⟩)] 81)) (.cells #[.string frm, .bool whole, .slice pm ms.length cm, .slice ps sv.length cs, .slice pg gw.length cg, .slice ph wh.length ch] 27)
    rw [hW0]; simpa using h
  have HX0 : Hid (W0.heap[w.heap.size + 1]? = some (.cells #[.string frm, .bool whole, .slice pm ms.length cm, .slice ps sv.length cs, .slice pg gw.length cg, .slice ph wh.length ch] 27 (0, 0))) := hx0
  have HL0 : Hid (([] : List Value).length ≤ 0) := Nat.le_refl _
  have HT : Hid (Tab B w) := hT
  have HBE : Hid (Below B w0 w) := hbel
  clear h hb0 hT hbel hok hx0
  have HFZ := HOK.out.frm
  simp only at HFZ
  have HCM : Hid (∀ W bs, Kp B b w W → IsW B b bs W → bs.length + 66000 ≤ 600000 → W.heap[w.heap.size]? = some (.cells #[.pointer (some ⟨b, 0, none⟩)] 81 (0, 0)) → Calls Tryz.prog 46 #[.pointer (some ⟨b, 0, none⟩), .slice pm ms.length cm, .func (.func 47) #[] #[.pointer (some ⟨w.heap.size, 0, none⟩)]] W fun e w' => e = .returned (.tuple #[]) ∧ IsW B b (bs ++ (numL ms.length ++ ms.flatMap elL)) w' ∧ Kp B b W w') := fun W bs hK hW hl hwb =>
    wlist_any B b w.heap.size ms _ bs w0 W hW HXI.out.ms hB (HBE.out.trans hK.bel) (by have := HOK.out.ms.1; simp only at this; omega) (by have := HOK.out.ms.1; simp only at this; omega) (Nat.le_trans hBw hK.size) (HT.out.below hK.bel) hwb (by omega) HOK.out.ms.2
  have HLLM : Hid ((numL ms.length ++ ms.flatMap elL).length ≤ 21 + 3300 * 20) := by
    have g1 := els_len ms HOK.out.ms.2
    have g2 := numL_len (in63_nat (n := ms.length) (by have := HOK.out.ms.1; simp only at this; omega))
    have g3 := HOK.out.ms.1
    simp only at g3
    show (numL ms.length ++ ms.flatMap elL).length ≤ 21 + 3300 * 20
    rw [List.length_append]
    have g4 : 3300 * ms.length ≤ 3300 * 20 := Nat.mul_le_mul_left _ g3
    omega
  generalize (numL ms.length ++ ms.flatMap elL) = EM at *
  have HCS : Hid (∀ W bs, Kp B b w W → IsW B b bs W → bs.length + 352000 ≤ 600000 → W.heap[w.heap.size]? = some (.cells #[.pointer (some ⟨b, 0, none⟩)] 81 (0, 0)) → Calls Tryz.prog 49 #[.pointer (some ⟨b, 0, none⟩), .slice ps sv.length cs, .func (.func 50) #[] #[.pointer (some ⟨w.heap.size, 0, none⟩)]] W fun e w' => e = .returned (.tuple #[]) ∧ IsW B b (bs ++ (numL sv.length ++ sv.flatMap Sv.elL)) w' ∧ Kp B b W w') := fun W bs hK hW hl hwb =>
    Sv.wlist_any B b w.heap.size sv _ bs w0 W hW HXI.out.sv hB (HBE.out.trans hK.bel) (by have := HOK.out.sv.1; simp only at this; omega) (by have := HOK.out.sv.1; simp only at this; omega) (Nat.le_trans hBw hK.size) (HT.out.below hK.bel) hwb (by omega) HOK.out.sv.2
  have HLLS : Hid ((numL sv.length ++ sv.flatMap Sv.elL).length ≤ 21 + 8800 * 40) := by
    have g1 := Sv.els_len sv HOK.out.sv.2
    have g2 := numL_len (in63_nat (n := sv.length) (by have := HOK.out.sv.1; simp only at this; omega))
    have g3 := HOK.out.sv.1
    simp only at g3
    show (numL sv.length ++ sv.flatMap Sv.elL).length ≤ 21 + 8800 * 40
    rw [List.length_append]
    have g4 : 8800 * sv.length ≤ 8800 * 40 := Nat.mul_le_mul_left _ g3
    omega
  generalize (numL sv.length ++ sv.flatMap Sv.elL) = ES at *
  have HCG : Hid (∀ W bs, Kp B b w W → IsW B b bs W → bs.length + 13200 ≤ 600000 → W.heap[w.heap.size]? = some (.cells #[.pointer (some ⟨b, 0, none⟩)] 81 (0, 0)) → Calls Tryz.prog 51 #[.pointer (some ⟨b, 0, none⟩), .slice pg gw.length cg, .func (.func 52) #[] #[.pointer (some ⟨w.heap.size, 0, none⟩)]] W fun e w' => e = .returned (.tuple #[]) ∧ IsW B b (bs ++ (numL gw.length ++ gw.flatMap Gw.elL)) w' ∧ Kp B b W w') := fun W bs hK hW hl hwb =>
    Gw.wlist_any B b w.heap.size gw _ bs w0 W hW HXI.out.gw hB (HBE.out.trans hK.bel) (by have := HOK.out.gw.1; simp only at this; omega) (by have := HOK.out.gw.1; simp only at this; omega) (Nat.le_trans hBw hK.size) (HT.out.below hK.bel) hwb (by omega) HOK.out.gw.2
  have HLLG : Hid ((numL gw.length ++ gw.flatMap Gw.elL).length ≤ 21 + 2200 * 6) := by
    have g1 := Gw.els_len gw HOK.out.gw.2
    have g2 := numL_len (in63_nat (n := gw.length) (by have := HOK.out.gw.1; simp only at this; omega))
    have g3 := HOK.out.gw.1
    simp only at g3
    show (numL gw.length ++ gw.flatMap Gw.elL).length ≤ 21 + 2200 * 6
    rw [List.length_append]
    have g4 : 2200 * gw.length ≤ 2200 * 6 := Nat.mul_le_mul_left _ g3
    omega
  generalize (numL gw.length ++ gw.flatMap Gw.elL) = EG at *
  have HCW : Hid (∀ W bs, Kp B b w W → IsW B b bs W → bs.length + 44000 ≤ 600000 → W.heap[w.heap.size]? = some (.cells #[.pointer (some ⟨b, 0, none⟩)] 81 (0, 0)) → Calls Tryz.prog 53 #[.pointer (some ⟨b, 0, none⟩), .slice ph wh.length ch, .func (.func 54) #[] #[.pointer (some ⟨w.heap.size, 0, none⟩)]] W fun e w' => e = .returned (.tuple #[]) ∧ IsW B b (bs ++ (numL wh.length ++ wh.flatMap Wh.elL)) w' ∧ Kp B b W w') := fun W bs hK hW hl hwb =>
    Wh.wlist_any B b w.heap.size wh _ bs w0 W hW HXI.out.wh hB (HBE.out.trans hK.bel) (by have := HOK.out.wh.1; simp only at this; omega) (by have := HOK.out.wh.1; simp only at this; omega) (Nat.le_trans hBw hK.size) (HT.out.below hK.bel) hwb (by omega) HOK.out.wh.2
  have HLLW : Hid ((numL wh.length ++ wh.flatMap Wh.elL).length ≤ 21 + 2200 * 20) := by
    have g1 := Wh.els_len wh HOK.out.wh.2
    have g2 := numL_len (in63_nat (n := wh.length) (by have := HOK.out.wh.1; simp only at this; omega))
    have g3 := HOK.out.wh.1
    simp only at g3
    show (numL wh.length ++ wh.flatMap Wh.elL).length ≤ 21 + 2200 * 20
    rw [List.length_append]
    have g4 : 2200 * wh.length ≤ 2200 * 20 := Nat.mul_le_mul_left _ g3
    omega
  generalize (numL wh.length ++ wh.flatMap Wh.elL) = EW at *
  clear HOK HXI HBE
  generalize ms.length = nm at *
  generalize sv.length = ns at *
  generalize gw.length = ng at *
  generalize wh.length = nh at *
  go_enter Tryz.func15, Tryz.ntmps15
  go_upto_region 1 with fail
  rw [← hW0]
  clear hW0
  have y0 : W0.cell? ⟨w.heap.size, 0, none⟩ = some (.pointer (some ⟨b, 0, none⟩)) := cellsAt HB0.out 0
  have z0 : W0.cell? ⟨w.heap.size + 1, 0, none⟩ = some (.string frm) := cellsAt HX0.out 0
  go_wp2_with fail
  refine (wtext_any B b frm ([]) W0 HW0.out (by have := HL0.out; omega) (Nat.le_trans hBw HK0.out.size) (HT.out.below HK0.out.bel)).mono ?_
  rintro e W1 ⟨rfl, hw, hk⟩
  have HW1 : Hid (IsW B b ([] ++ txtL frm) W1) := hw
  have HK1 : Hid (Kp B b w W1) := HK0.out.trans hk
  have HX1 : Hid (W1.heap[w.heap.size + 1]? = some (.cells #[.string frm, .bool whole, .slice pm nm cm, .slice ps ns cs, .slice pg ng cg, .slice ph nh ch] 27 (0, 0))) := hk.keeps HX0.out (by omega) (by decide)
  have HB1 : Hid (W1.heap[w.heap.size]? = some (.cells #[.pointer (some ⟨b, 0, none⟩)] 81 (0, 0))) := hk.keeps HB0.out (by omega) (by decide)
  have HL1 : Hid (([] ++ txtL frm).length ≤ 1100) := by
    have g1 := HL0.out
    have g2 := txtL_len HFZ
    show List.length ([] ++ txtL frm) ≤ _
    rw [List.length_append]
    omega
  clear hw hk y0 z0
  have y0 : W1.cell? ⟨w.heap.size, 0, none⟩ = some (.pointer (some ⟨b, 0, none⟩)) := cellsAt HB1.out 0
  have z0 : W1.cell? ⟨w.heap.size + 1, 1, none⟩ = some (.bool whole) := cellsAt HX1.out 1
  go_wp2_with fail
  refine (wflag_any B b whole ([] ++ txtL frm) W1 HW1.out (by have := HL1.out; omega) (Nat.le_trans hBw HK1.out.size) (HT.out.below HK1.out.bel)).mono ?_
  rintro e W2 ⟨rfl, hw, hk⟩
  have HW2 : Hid (IsW B b ([] ++ txtL frm ++ flgL whole) W2) := hw
  have HK2 : Hid (Kp B b w W2) := HK1.out.trans hk
  have HX2 : Hid (W2.heap[w.heap.size + 1]? = some (.cells #[.string frm, .bool whole, .slice pm nm cm, .slice ps ns cs, .slice pg ng cg, .slice ph nh ch] 27 (0, 0))) := hk.keeps HX1.out (by omega) (by decide)
  have HB2 : Hid (W2.heap[w.heap.size]? = some (.cells #[.pointer (some ⟨b, 0, none⟩)] 81 (0, 0))) := hk.keeps HB1.out (by omega) (by decide)
  have HL2 : Hid (([] ++ txtL frm ++ flgL whole).length ≤ 2200) := by
    have g1 := HL1.out
    have g2 := flgL_len whole
    show List.length ([] ++ txtL frm ++ flgL whole) ≤ _
    rw [List.length_append]
    omega
  clear hw hk y0 z0
  have y0 : W2.cell? ⟨w.heap.size, 0, none⟩ = some (.pointer (some ⟨b, 0, none⟩)) := cellsAt HB2.out 0
  have z0 : W2.cell? ⟨w.heap.size + 1, 2, none⟩ = some (.slice pm nm cm) := cellsAt HX2.out 2
  go_wp2_with fail
  refine (HCM.out W2 ([] ++ txtL frm ++ flgL whole) HK2.out HW2.out (by have := HL2.out; omega) HB2.out).mono ?_
  rintro e W3 ⟨rfl, hw, hk⟩
  have HW3 : Hid (IsW B b ([] ++ txtL frm ++ flgL whole ++ EM) W3) := hw
  have HK3 : Hid (Kp B b w W3) := HK2.out.trans hk
  have HX3 : Hid (W3.heap[w.heap.size + 1]? = some (.cells #[.string frm, .bool whole, .slice pm nm cm, .slice ps ns cs, .slice pg ng cg, .slice ph nh ch] 27 (0, 0))) := hk.keeps HX2.out (by omega) (by decide)
  have HB3 : Hid (W3.heap[w.heap.size]? = some (.cells #[.pointer (some ⟨b, 0, none⟩)] 81 (0, 0))) := hk.keeps HB2.out (by omega) (by decide)
  have HL3 : Hid (([] ++ txtL frm ++ flgL whole ++ EM).length ≤ 68221) := by
    have g1 := HL2.out
    have g2 := HLLM.out
    show List.length ([] ++ txtL frm ++ flgL whole ++ EM) ≤ _
    rw [List.length_append]
    omega
  clear hw hk y0 z0
  have y0 : W3.cell? ⟨w.heap.size, 0, none⟩ = some (.pointer (some ⟨b, 0, none⟩)) := cellsAt HB3.out 0
  have z0 : W3.cell? ⟨w.heap.size + 1, 3, none⟩ = some (.slice ps ns cs) := cellsAt HX3.out 3
  go_wp2_with fail
  refine (HCS.out W3 ([] ++ txtL frm ++ flgL whole ++ EM) HK3.out HW3.out (by have := HL3.out; omega) HB3.out).mono ?_
  rintro e W4 ⟨rfl, hw, hk⟩
  have HW4 : Hid (IsW B b ([] ++ txtL frm ++ flgL whole ++ EM ++ ES) W4) := hw
  have HK4 : Hid (Kp B b w W4) := HK3.out.trans hk
  have HX4 : Hid (W4.heap[w.heap.size + 1]? = some (.cells #[.string frm, .bool whole, .slice pm nm cm, .slice ps ns cs, .slice pg ng cg, .slice ph nh ch] 27 (0, 0))) := hk.keeps HX3.out (by omega) (by decide)
  have HB4 : Hid (W4.heap[w.heap.size]? = some (.cells #[.pointer (some ⟨b, 0, none⟩)] 81 (0, 0))) := hk.keeps HB3.out (by omega) (by decide)
  have HL4 : Hid (([] ++ txtL frm ++ flgL whole ++ EM ++ ES).length ≤ 420242) := by
    have g1 := HL3.out
    have g2 := HLLS.out
    show List.length ([] ++ txtL frm ++ flgL whole ++ EM ++ ES) ≤ _
    rw [List.length_append]
    omega
  clear hw hk y0 z0
  have y0 : W4.cell? ⟨w.heap.size, 0, none⟩ = some (.pointer (some ⟨b, 0, none⟩)) := cellsAt HB4.out 0
  have z0 : W4.cell? ⟨w.heap.size + 1, 4, none⟩ = some (.slice pg ng cg) := cellsAt HX4.out 4
  go_wp2_with fail
  refine (HCG.out W4 ([] ++ txtL frm ++ flgL whole ++ EM ++ ES) HK4.out HW4.out (by have := HL4.out; omega) HB4.out).mono ?_
  rintro e W5 ⟨rfl, hw, hk⟩
  have HW5 : Hid (IsW B b ([] ++ txtL frm ++ flgL whole ++ EM ++ ES ++ EG) W5) := hw
  have HK5 : Hid (Kp B b w W5) := HK4.out.trans hk
  have HX5 : Hid (W5.heap[w.heap.size + 1]? = some (.cells #[.string frm, .bool whole, .slice pm nm cm, .slice ps ns cs, .slice pg ng cg, .slice ph nh ch] 27 (0, 0))) := hk.keeps HX4.out (by omega) (by decide)
  have HB5 : Hid (W5.heap[w.heap.size]? = some (.cells #[.pointer (some ⟨b, 0, none⟩)] 81 (0, 0))) := hk.keeps HB4.out (by omega) (by decide)
  have HL5 : Hid (([] ++ txtL frm ++ flgL whole ++ EM ++ ES ++ EG).length ≤ 433463) := by
    have g1 := HL4.out
    have g2 := HLLG.out
    show List.length ([] ++ txtL frm ++ flgL whole ++ EM ++ ES ++ EG) ≤ _
    rw [List.length_append]
    omega
  clear hw hk y0 z0
  have y0 : W5.cell? ⟨w.heap.size, 0, none⟩ = some (.pointer (some ⟨b, 0, none⟩)) := cellsAt HB5.out 0
  have z0 : W5.cell? ⟨w.heap.size + 1, 5, none⟩ = some (.slice ph nh ch) := cellsAt HX5.out 5
  go_wp2_with fail
  refine (HCW.out W5 ([] ++ txtL frm ++ flgL whole ++ EM ++ ES ++ EG) HK5.out HW5.out (by have := HL5.out; omega) HB5.out).mono ?_
  rintro e W6 ⟨rfl, hw, hk⟩
  have HW6 : Hid (IsW B b ([] ++ txtL frm ++ flgL whole ++ EM ++ ES ++ EG ++ EW) W6) := hw
  have HK6 : Hid (Kp B b w W6) := HK5.out.trans hk
  have HX6 : Hid (W6.heap[w.heap.size + 1]? = some (.cells #[.string frm, .bool whole, .slice pm nm cm, .slice ps ns cs, .slice pg ng cg, .slice ph nh ch] 27 (0, 0))) := hk.keeps HX5.out (by omega) (by decide)
  have HB6 : Hid (W6.heap[w.heap.size]? = some (.cells #[.pointer (some ⟨b, 0, none⟩)] 81 (0, 0))) := hk.keeps HB5.out (by omega) (by decide)
  have HL6 : Hid (([] ++ txtL frm ++ flgL whole ++ EM ++ ES ++ EG ++ EW).length ≤ 477484) := by
    have g1 := HL5.out
    have g2 := HLLW.out
    show List.length ([] ++ txtL frm ++ flgL whole ++ EM ++ ES ++ EG ++ EW) ≤ _
    rw [List.length_append]
    omega
  clear hw hk y0 z0
  have HWE : Hid (IsW B b PL W6) := by
    have h := HW6.out
    rw [HPL.out]
    simp only [List.append_assoc, List.nil_append] at h ⊢
    exact h
  go_wp2_with fail
  simp [bodyPost, results, Tryz.results15]
  exact ⟨HWE.out, HK6.out⟩

end Go.Proofs.YtdfkpehggecbaaaGreatDoor

/- The document's Decimal, TextBytes, YesBytes. -/
namespace Go.Proofs.YtdfkpehggecbaaaGreatDoor
open Go.RowKit

def bstr (l : List UInt8) : ByteArray := ⟨l.toArray⟩
theorem bstr_app (a b : List UInt8) : bstr a ++ bstr b = bstr (a ++ b) := by
  apply ba_ext
  simp [bstr]
theorem bstr_size (l : List UInt8) : (bstr l).size = l.length := by simp [bstr, ByteArray.size]
theorem conv_one (W : World) (x : UInt8) : (convert 42 9 (.slice (some ⟨W.heap.size, 0, none⟩) 1 1)).run Tryz.prog (W.alloc (.cells #[.int .u8 x.toNat] 5)) = .ok (.string ⟨#[x]⟩) (W.alloc (.cells #[.int .u8 x.toNat] 5)) := by
  have h := run_convert_bytes_back (P := Tryz.prog) (W.alloc (.cells #[.int .u8 x.toNat] 5)) 42 9 5 ⟨W.heap.size, 0, none⟩ 1 [x] Tryz.underlying42 Tryz.underlying5 Tryz.underlying9 (fun j hj => by
    have hj0 : j = 0 := by simpa using hj
    subst hj0
    exact cellsAt (heap_alloc_new W (.cells #[.int .u8 x.toNat] 5)) 0)
  exact h
theorem dig_val (m : Int) (h : 0 ≤ m) : ((UInt8.ofNat (48 + m.toNat % 10)).toNat : Int) = 48 + m % 10 := by
  have h1 : (UInt8.ofNat (48 + m.toNat % 10)).toNat = 48 + m.toNat % 10 := by
    rw [UInt8.toNat_ofNat']
    omega
  rw [h1]; omega
theorem dd_small {m : Int} (_h0 : 0 ≤ m) (h : m / 10 = 0) : Lib.decDigits m.toNat = [UInt8.ofNat (48 + m.toNat % 10)] := by
  rw [Lib.decDigits, dif_pos (by omega), Nat.mod_eq_of_lt (by omega)]
theorem dd_big {m : Int} (h0 : 0 ≤ m) (h : m / 10 ≠ 0) : Lib.decDigits m.toNat = Lib.decDigits (m / 10).toNat ++ [UInt8.ofNat (48 + m.toNat % 10)] := by
  rw [Lib.decDigits, dif_neg (by omega), show (m / 10).toNat = m.toNat / 10 by omega]

set_option maxHeartbeats 1600000 in
set_option maxRecDepth 100000 in
theorem dec_nat (n : Int) (w : World) (h0 : 0 ≤ n) (h1 : n ≤ 9223372036854775807) :
    Calls Tryz.prog 25 #[.int .i64 n] w fun e w' => e = .returned (.string (bstr (Lib.decDigits n.toNat ++ [59]))) ∧ Below w.heap.size w w' := by
  have hn1 : ¬ n < 0 := by omega
  have HN : Hid ((Lib.decDigits n.toNat).length ≤ 20) := by
    have h := itoaB_size (n := n) ⟨by omega, h1⟩
    have e : (itoaB n).size = (Lib.itoa n).length := by simp [itoaB, ByteArray.size]
    rw [e] at h
    unfold Lib.itoa at h
    rw [if_neg hn1] at h
    exact h
  go_enter Tryz.func25, Tryz.ntmps25
  go_wp2_with fail
  go_loopw [0, 4] (fun nv sv wr => ∃ (m : Int) (suf : List UInt8), nv = .int .i64 m ∧ 0 ≤ m ∧ m ≤ 9223372036854775807 ∧ sv = .string (bstr (suf ++ [59])) ∧ Hid (Lib.decDigits n.toNat = Lib.decDigits m.toNat ++ suf) ∧ Hid (Below w.heap.size w wr)) (fun nv _ _ => (intOf nv).toNat)
  case atStart => exact ⟨n, [], rfl, h0, h1, rfl, (show _ = _ by simp), Below.refl _ _⟩
  case round =>
    obtain ⟨m, suf, rfl, hm0, hm1, rfl, HD, HB⟩ := hrel
    have hsz := HB.out.size
    have hx := dig_val m hm0
    have hcv2 : Sem.run Tryz.prog (convert 42 9 (.slice (some ⟨wr.heap.size, 0, none⟩) 1 1)) (wr.alloc (.cells #[.int .u8 (48 + m % 10)] 5)) = .ok (.string (bstr [UInt8.ofNat (48 + m.toNat % 10)])) (wr.alloc (.cells #[.int .u8 (48 + m % 10)] 5)) := by
      rw [← hx]
      exact conv_one wr _
    have HS : Hid (bstr [UInt8.ofNat (48 + m.toNat % 10)] ++ bstr (suf ++ [59]) = bstr (UInt8.ofNat (48 + m.toNat % 10) :: suf ++ [59])) := by
      show _ = _
      rw [bstr_app]; rfl
    have hss : ¬ 9223372036854775807 < 1 + (bstr (suf ++ [59])).size := by
      have h2 := HN.out
      rw [HD.out, List.length_append] at h2
      rw [bstr_size, List.length_append]
      simp only [List.length_cons, List.length_nil]
      omega
    have hm2 : 0 ≤ m / 10 := by omega
    have hm3 : m / 10 ≤ 9223372036854775807 := by omega
    have hz1 : (bstr [UInt8.ofNat (48 + m.toNat % 10)]).size = 1 := bstr_size _
    by_cases hz : m / 10 = 0
    · have HF : Hid (bstr (UInt8.ofNat (48 + m.toNat % 10) :: suf ++ [59]) = bstr (Lib.decDigits n.toNat ++ [59])) := by
        show _ = _
        rw [HD.out, dd_small hm0 hz]; rfl
      clear hx
      generalize UInt8.ofNat (48 + m.toNat % 10) = x at *
      generalize bstr [x] = sx at *
      go_wp2_with fail
      go_ret
      exact ⟨by rw [HS.out, HF.out]; rfl, HB.out.alloc hsz _⟩
    · have HF : Hid (Lib.decDigits n.toNat = Lib.decDigits (m / 10).toNat ++ (UInt8.ofNat (48 + m.toNat % 10) :: suf)) := by
        show _ = _
        rw [HD.out, dd_big hm0 hz, List.append_assoc]; rfl
      clear hx
      generalize UInt8.ofNat (48 + m.toNat % 10) = x at *
      generalize bstr [x] = sx at *
      go_wp2_with fail
      go_roundw
      case rel => exact ⟨m / 10, x :: suf, rfl, hm2, hm3, by rw [HS.out], HF, HB.out.alloc hsz _⟩
      case measure => simp [intOf]; omega

theorem numB_nat {n : Int} (h : 0 ≤ n) : numB n = Lib.decDigits n.toNat ++ [59] := by
  unfold numB Lib.itoa
  rw [if_neg (by omega)]
theorem numB_neg {n : Int} (h : n < 0) : numB n = 45 :: Lib.decDigits n.natAbs ++ [59] := by
  unfold numB Lib.itoa
  rw [if_pos h]
theorem numB_len {n : Int} (h : In63 n) : (numB n).length ≤ 21 := by
  have h1 := numL_len h
  rw [numL_eq] at h1
  simpa [Lib.byteCells] using h1

set_option maxHeartbeats 3200000 in
set_option maxRecDepth 100000 in
/-- I2: a number as it is written: the document's own. -/
theorem dec_any (n : Int) (w : World) (hn : In63 n) :
    Calls Tryz.prog 25 #[.int .i64 n] w fun e w' => e = .returned (.string (bstr (numB n))) ∧ Below w.heap.size w w' := by
  obtain ⟨h0, h1⟩ := hn
  by_cases hp : 0 ≤ n
  · rw [numB_nat hp]; exact dec_nat n w hp h1
  by_cases hs : -10 < n
  · have HC : Hid (Calls Tryz.prog 25 #[.int .i64 (-n)] w fun e w' => e = .returned (.string (bstr (Lib.decDigits n.natAbs ++ [59]))) ∧ Below w.heap.size w w') := by
      have h := dec_nat (-n) w (by omega) (by omega)
      rw [show (-n).toNat = n.natAbs by omega] at h
      exact h
    have HS : Hid (bstr [45] ++ bstr (Lib.decDigits n.natAbs ++ [59]) = bstr (numB n)) := by
      show _ = _
      rw [bstr_app, numB_neg (by omega)]; rfl
    have hsz : (bstr (Lib.decDigits n.natAbs ++ [59])).size ≤ 100 := by
      have h := numB_len (n := n) ⟨h0, h1⟩
      rw [numB_neg (by omega)] at h
      rw [bstr_size]
      simp only [List.length_append, List.length_cons, List.length_nil] at h ⊢
      omega
    generalize bstr (Lib.decDigits n.natAbs ++ [59]) = s1 at *
    generalize bstr (numB n) = R at *
    have hn1 : n < 0 := by omega
    have h45 : (⟨#[45]⟩ : ByteArray) = bstr [45] := rfl
    go_enter Tryz.func25, Tryz.ntmps25
    go_wp2_with fail
    refine HC.out.mono ?_
    rintro e w1 ⟨rfl, hb1⟩
    have HB1 : Hid (Below w.heap.size w w1) := hb1
    have hss : ¬ 9223372036854775807 < (⟨#[45]⟩ : ByteArray).size + s1.size := by show ¬ _ < 1 + _; omega
    clear hb1
    go_wp2_with fail
    go_ret
    exact ⟨by rw [← HS.out]; rfl, HB1.out⟩
  · have HC : Hid (∀ (m : Int) W, 0 ≤ m → m ≤ 9223372036854775807 → Calls Tryz.prog 25 #[.int .i64 m] W fun e w' => e = .returned (.string (bstr (Lib.decDigits m.toNat ++ [59]))) ∧ Below W.heap.size W w') := fun m W a b => dec_nat m W a b
    have hn1 : n < 0 := by omega
    have hn2 : ¬ -10 < n := by omega
    have hq : n.tdiv 10 = -((-n) / 10) := by
      have h := Int.neg_tdiv (-n) 10
      rw [Int.neg_neg] at h
      rw [h, Int.tdiv_eq_ediv_of_nonneg (by omega)]
    have hr : n.tmod 10 = -((-n) % 10) := by
      have h := Int.neg_tmod (-n) 10
      rw [Int.neg_neg] at h
      rw [h, Int.tmod_eq_emod_of_nonneg (by omega)]
    have hd0 : 0 ≤ (-n) / 10 := by omega
    have hd1 : (-n) / 10 ≤ 9223372036854775807 := by omega
    have hm0 : 0 ≤ (-n) % 10 := by omega
    have hm1 : (-n) % 10 < 10 := by omega
    go_enter Tryz.func25, Tryz.ntmps25
    go_wp2_with fail
    refine (HC.out _ w hd0 hd1).mono ?_
    rintro e w1 ⟨rfl, hb1⟩
    have HB1 : Hid (Below w.heap.size w w1) := hb1
    have hsz : (bstr (Lib.decDigits (-n / 10).toNat ++ [59])).size = (Lib.decDigits (-n / 10).toNat).length + 1 := by rw [bstr_size, List.length_append]; rfl
    have hl20 : (Lib.decDigits (-n / 10).toNat).length ≤ 20 := by
      have h := numB_len (n := -n / 10) ⟨by omega, hd1⟩
      rw [numB_nat hd0, List.length_append] at h
      simp only [List.length_cons, List.length_nil] at h
      omega
    have HC2 : Hid (∀ W, Calls Tryz.prog 25 #[.int .i64 (-n % 10)] W fun e w' => e = .returned (.string (bstr [UInt8.ofNat (48 + (-n % 10).toNat), 59])) ∧ Below W.heap.size W w') := fun W => by
      have h := dec_nat (-n % 10) W hm0 (by omega)
      rw [Lib.decDigits_one (by omega)] at h
      exact h
    clear hb1 HC
    go_upto_region 5 with fail
    generalize hdl : (Lib.decDigits (-n / 10).toNat).length = dl at *
    generalize hs1 : bstr (Lib.decDigits (-n / 10).toNat ++ [59]) = s1 at *
    generalize hs2 : bstr [UInt8.ofNat (48 + (-n % 10).toNat), 59] = s2 at *
    have HS1 : Hid (bstr (Lib.decDigits (-n / 10).toNat ++ [59]) = s1) := hs1
    have HS2 : Hid (bstr [UInt8.ofNat (48 + (-n % 10).toNat), 59] = s2) := hs2
    have HDL : Hid ((Lib.decDigits (-n / 10).toNat).length = dl) := hdl
    clear hs1 hs2 hdl
    have HSZ : Hid (s1.size = dl + 1) := hsz
    have hwr : IntKind.i64.wrap ((s1.size : Int) - 1) = (dl : Int) := by rw [IntKind.wrap_i64, hsz]; omega
    have hle : (dl : Int) ≤ (s1.size : Int) := by omega
    have hwm : IntKind.i64.wrap (-n % 10) = -n % 10 := by rw [IntKind.wrap_i64]; omega
    have hd3 : (0 : Int) ≤ (dl : Int) := by omega
    obtain ⟨s3, hs3⟩ : ∃ s3, s1.extract 0 dl = s3 := ⟨_, rfl⟩
    have HS3 : Hid (s3 = bstr (Lib.decDigits (-n / 10).toNat)) := by
      show s3 = _
      rw [← hs3, ← HS1.out, ← HDL.out]
      apply ba_ext
      rw [Lib.extract_from_zero]
      simp [bstr]
    have hz3 : s3.size ≤ 100 := by rw [HS3.out, bstr_size, HDL.out]; omega
    have hz2 : s2.size = 2 := by rw [← HS2.out, bstr_size]; rfl
    obtain ⟨s4, hs4⟩ : ∃ s4, (⟨#[45]⟩ : ByteArray) ++ s3 = s4 := ⟨_, rfl⟩
    have HS4 : Hid (s4 = bstr (45 :: Lib.decDigits (-n / 10).toNat)) := by
      show s4 = _
      rw [← hs4, HS3.out]
      exact bstr_app [45] _
    have hz4 : s4.size ≤ 200 := by
      rw [HS4.out, bstr_size, List.length_cons, HDL.out]; omega
    have hss1 : ¬ 9223372036854775807 < (⟨#[45]⟩ : ByteArray).size + s3.size := by show ¬ _ < 1 + _; omega
    have hss1b : ¬ 9223372036854775807 < 1 + s3.size := by omega
    have hss2 : ¬ 9223372036854775807 < s4.size + s2.size := by omega
    have hss2b : ¬ 9223372036854775807 < s4.size + 2 := by omega
    have HFIN : Hid (s4 ++ s2 = bstr (numB n)) := by
      show s4 ++ s2 = _
      rw [HS4.out, ← HS2.out, bstr_app, numB_neg hn1]
      congr 1
      have e1 : (-n / 10).toNat = n.natAbs / 10 := by omega
      have e2 : (-n % 10).toNat = n.natAbs % 10 := by omega
      rw [e1, e2, Lib.decDigits.eq_1 n.natAbs, dif_neg (by omega)]
      simp
    clear hsz
    have hFI : ∀ d os, Calls Tryz.prog 25 #[.int .i64 (-n % 10)] (Go.Sort.grow (redrawn w1 d) os) fun e w'' => e = .returned (.string s2) ∧ ∃ q : Regrown, w'' = Go.Sort.grow (redrawn w1 q.d) q.os := fun d os => Calls.regrown_of (HC2.out _)
    refine wp_region_quiet_below (by kernel_rfl) (by kernel_rfl) ?_
    repeat (quiet_step (exact hFI _ _))
    refine wpQuiet_nil ?_
    intro _ hw'
    obtain ⟨⟨dq, osq⟩, hw''⟩ := hw'
    subst hw''
    have HB3 : Hid (Below w.heap.size w (Go.Sort.grow (redrawn w1 dq) osq)) := HB1.out.trans ((below_regrown w1 dq osq).mono HB1.out.size)
    clear hFI
    generalize Go.Sort.grow (redrawn w1 dq) osq = W3 at *
    go_wp2_with fail
    go_ret
    exact ⟨by rw [← HFIN.out]; rfl, HB3.out⟩

end Go.Proofs.YtdfkpehggecbaaaGreatDoor

/- Contracts of the library, laid at this program. -/
namespace Go.Proofs
open Go.Shelf
def Tryz.laysC172_ren : Go.Shelf.Ren := ⟨fun | 172 => 99 | 244 => 106 | 245 => 107 | 247 => 111 | 279 => 112 | 280 => 113 | 281 => 114 | 282 => 115 | 287 => 124 | 316 => 104 | 171 => 89 | 205 => 125 | 321 => 133 | 322 => 134 | 243 => 101 | 246 => 109 | 283 => 116 | 284 => 117 | 285 => 118 | 286 => 119 | 129 => 127 | 317 => 126 | 318 => 128 | 319 => 129 | 320 => 130 | 337 => 135 | 338 => 136 | n => n, fun | 9 => 9 | 3 => 3 | 75 => 125 | 76 => 126 | 4 => 4 | 5 => 5 | 167 => 141 | 37 => 42 | 0 => 0 | 85 => 142 | 2 => 2 | 168 => 144 | 53 => 148 | 175 => 155 | 46 => 154 | 210 => 158 | 127 => 93 | 145 => 170 | 143 => 168 | 21 => 21 | 171 => 147 | 173 => 151 | 212 => 161 | 51 => 162 | 20 => 20 | 213 => 163 | 232 => 172 | 233 => 173 | 80 => 48 | n => n, fun | 15 => 1 | 16 => 2 | 17 => 3 | 18 => 4 | 19 => 5 | n => n⟩
theorem Tryz.laysC172 : Go.Proofs.LaysC.n172 Tryz.prog Tryz.laysC172_ren := {
  mixed := by kernel_rfl
  f129 := Tryz.func127.trans (congrArg some (by kernel_rfl))
  f171 := Tryz.func89.trans (congrArg some (by kernel_rfl))
  f172 := Tryz.func99.trans (congrArg some (by kernel_rfl))
  f205 := Tryz.func125.trans (congrArg some (by kernel_rfl))
  f243 := Tryz.func101.trans (congrArg some (by kernel_rfl))
  f244 := Tryz.func106.trans (congrArg some (by kernel_rfl))
  f245 := Tryz.func107.trans (congrArg some (by kernel_rfl))
  f246 := Tryz.func109.trans (congrArg some (by kernel_rfl))
  f247 := Tryz.func111.trans (congrArg some (by kernel_rfl))
  f279 := Tryz.func112.trans (congrArg some (by kernel_rfl))
  f280 := Tryz.func113.trans (congrArg some (by kernel_rfl))
  f281 := Tryz.func114.trans (congrArg some (by kernel_rfl))
  f282 := Tryz.func115.trans (congrArg some (by kernel_rfl))
  f283 := Tryz.func116.trans (congrArg some (by kernel_rfl))
  f284 := Tryz.func117.trans (congrArg some (by kernel_rfl))
  f285 := Tryz.func118.trans (congrArg some (by kernel_rfl))
  f286 := Tryz.func119.trans (congrArg some (by kernel_rfl))
  f287 := Tryz.func124.trans (congrArg some (by kernel_rfl))
  f316 := Tryz.func104.trans (congrArg some (by kernel_rfl))
  f317 := Tryz.func126.trans (congrArg some (by kernel_rfl))
  f318 := Tryz.func128.trans (congrArg some (by kernel_rfl))
  f319 := Tryz.func129.trans (congrArg some (by kernel_rfl))
  f320 := Tryz.func130.trans (congrArg some (by kernel_rfl))
  f321 := Tryz.func133.trans (congrArg some (by kernel_rfl))
  f322 := Tryz.func134.trans (congrArg some (by kernel_rfl))
  f337 := Tryz.func135.trans (congrArg some (by kernel_rfl))
  f338 := Tryz.func136.trans (congrArg some (by kernel_rfl))
  t0 := Tryz.underlying0
  a0 := Tryz.isAgg0
  z0 := Tryz.sizeOf0
  v0 := Tryz.zeroValue0
  t2 := Tryz.underlying2
  a2 := Tryz.isAgg2
  z2 := Tryz.sizeOf2
  v2 := Tryz.zeroValue2
  t3 := Tryz.underlying3
  a3 := Tryz.isAgg3
  z3 := Tryz.sizeOf3
  v3 := Tryz.zeroValue3
  t4 := Tryz.underlying4
  a4 := Tryz.isAgg4
  z4 := Tryz.sizeOf4
  v4 := Tryz.zeroValue4
  t5 := Tryz.underlying5
  a5 := Tryz.isAgg5
  z5 := Tryz.sizeOf5
  v5 := Tryz.zeroValue5
  t9 := Tryz.underlying9
  a9 := Tryz.isAgg9
  z9 := Tryz.sizeOf9
  v9 := Tryz.zeroValue9
  t20 := Tryz.underlying20
  a20 := Tryz.isAgg20
  z20 := Tryz.sizeOf20
  v20 := Tryz.zeroValue20
  t21 := Tryz.underlying21
  a21 := Tryz.isAgg21
  z21 := Tryz.sizeOf21
  v21 := Tryz.zeroValue21
  t37 := Tryz.underlying42
  a37 := Tryz.isAgg42
  z37 := Tryz.sizeOf42
  v37 := Tryz.zeroValue42
  t46 := Tryz.underlying154
  a46 := Tryz.isAgg154
  z46 := Tryz.sizeOf154
  v46 := Tryz.zeroValue154
  t51 := Tryz.underlying162
  a51 := Tryz.isAgg162
  z51 := Tryz.sizeOf162
  v51 := Tryz.zeroValue162
  t53 := Tryz.underlying148
  a53 := Tryz.isAgg148
  z53 := Tryz.sizeOf148
  v53 := Tryz.zeroValue148
  t75 := Tryz.underlying125
  a75 := Tryz.isAgg125
  z75 := Tryz.sizeOf125
  v75 := Tryz.zeroValue125
  t76 := Tryz.underlying126
  a76 := Tryz.isAgg126
  z76 := Tryz.sizeOf126
  v76 := Tryz.zeroValue126
  t85 := Tryz.underlying142
  a85 := Tryz.isAgg142
  z85 := Tryz.sizeOf142
  v85 := Tryz.zeroValue142
  t127 := Tryz.underlying93
  a127 := Tryz.isAgg93
  z127 := Tryz.sizeOf93
  v127 := Tryz.zeroValue93
  t143 := Tryz.underlying168
  a143 := Tryz.isAgg168
  z143 := Tryz.sizeOf168
  v143 := Tryz.zeroValue168
  t145 := Tryz.underlying170
  a145 := Tryz.isAgg170
  z145 := Tryz.sizeOf170
  v145 := Tryz.zeroValue170
  t167 := Tryz.underlying141
  a167 := Tryz.isAgg141
  z167 := Tryz.sizeOf141
  v167 := Tryz.zeroValue141
  t168 := Tryz.underlying144
  a168 := Tryz.isAgg144
  z168 := Tryz.sizeOf144
  v168 := Tryz.zeroValue144
  t171 := Tryz.underlying147
  a171 := Tryz.isAgg147
  z171 := Tryz.sizeOf147
  v171 := Tryz.zeroValue147
  t173 := Tryz.underlying151
  a173 := Tryz.isAgg151
  z173 := Tryz.sizeOf151
  v173 := Tryz.zeroValue151
  t175 := Tryz.underlying155
  a175 := Tryz.isAgg155
  z175 := Tryz.sizeOf155
  v175 := Tryz.zeroValue155
  t210 := Tryz.underlying158
  a210 := Tryz.isAgg158
  z210 := Tryz.sizeOf158
  v210 := Tryz.zeroValue158
  t212 := Tryz.underlying161
  a212 := Tryz.isAgg161
  z212 := Tryz.sizeOf161
  v212 := Tryz.zeroValue161
  t213 := Tryz.underlying163
  a213 := Tryz.isAgg163
  z213 := Tryz.sizeOf163
  t232 := Tryz.underlying172
  a232 := Tryz.isAgg172
  z232 := Tryz.sizeOf172
  v232 := Tryz.zeroValue172
  t233 := Tryz.underlying173
  a233 := Tryz.isAgg173
  z233 := Tryz.sizeOf173
  v233 := Tryz.zeroValue173
  g15 := by kernel_rfl
  g16 := by kernel_rfl
  g17 := by kernel_rfl
  g18 := by kernel_rfl
  g19 := by kernel_rfl
  t80 := Tryz.underlying48
  a80 := Tryz.isAgg48
  z80 := Tryz.sizeOf48
  v80 := Tryz.zeroValue48
  i0 := by kernel_rfl
  i2 := by kernel_rfl
  i3 := by kernel_rfl
  i4 := by kernel_rfl
  i5 := by kernel_rfl
  i9 := by kernel_rfl
  i20 := by kernel_rfl
  i21 := by kernel_rfl
  i37 := by kernel_rfl
  i46 := by kernel_rfl
  i51 := by kernel_rfl
  i53 := by kernel_rfl
  i75 := by kernel_rfl
  i76 := by kernel_rfl
  i80 := by kernel_rfl
  i85 := by kernel_rfl
  i127 := by kernel_rfl
  i143 := by kernel_rfl
  i145 := by kernel_rfl
  i167 := by kernel_rfl
  i168 := by kernel_rfl
  i171 := by kernel_rfl
  i173 := by kernel_rfl
  i175 := by kernel_rfl
  i210 := by kernel_rfl
  i212 := by kernel_rfl
  i232 := by kernel_rfl
  i233 := by kernel_rfl
  m15 := by kernel_rfl
  m16 := by kernel_rfl
  m17 := by kernel_rfl
  m18 := by kernel_rfl
  m19 := by kernel_rfl
  c0 := by kernel_rfl
  c2 := by kernel_rfl
  c3 := by kernel_rfl
  c4 := by kernel_rfl
  c5 := by kernel_rfl
  c9 := by kernel_rfl
  c20 := by kernel_rfl
  c21 := by kernel_rfl
  c37 := by kernel_rfl
  c46 := by kernel_rfl
  c51 := by kernel_rfl
  c53 := by kernel_rfl
  c75 := by kernel_rfl
  c76 := by kernel_rfl
  c80 := by kernel_rfl
  c85 := by kernel_rfl
  c127 := by kernel_rfl
  c143 := by kernel_rfl
  c145 := by kernel_rfl
  c167 := by kernel_rfl
  c168 := by kernel_rfl
  c171 := by kernel_rfl
  c173 := by kernel_rfl
  c175 := by kernel_rfl
  c210 := by kernel_rfl
  c212 := by kernel_rfl
  c213 := by kernel_rfl
  c232 := by kernel_rfl
  c233 := by kernel_rfl }
open Go.RowKit in
theorem Tryz.strconv_Atoi_ok (s : ByteArray) (hmax : s.size ≤ 9223372036854775806) (v : Int) (h : Lib.atoiAll s.data.toList = .ok v) (w : World) :
    Calls Tryz.prog 99 #[.string s] w fun e w' => e = .returned (.tuple #[.int .i64 v, .nilIface]) ∧ (w' = w ∨ ∃ t, w' = Lib.bytesWorld w 5 t) := Any.strconv_Atoi_ok Tryz.laysC172 s hmax v h w
open Go.RowKit in
theorem Tryz.strconv_Atoi_syntax (s : ByteArray) (hlim : s.size ≤ 281474976710656) (h : Lib.atoiAll s.data.toList = .«syntax») (ev : Value) (w : World) (hv : w.cell? ⟨1, 0, none⟩ = some ev) (hev : ev = .nilIface ∨ ∃ te pe, ev = .iface te pe) :
    Calls Tryz.prog 99 #[.string s] w fun e w' => ∃ N, e = .returned (.tuple #[.int .i64 (0), .iface 144 (.pointer (some ⟨N, 0, none⟩))]) ∧ w.heap.size ≤ N ∧ w'.heap[N]? = some (.cells #[.string ⟨#[65, 116, 111, 105]⟩, .string s, ev] 158 (0, 0)) ∧ Below w.heap.size w w' := Any.strconv_Atoi_syntax Tryz.laysC172 s hlim h ev w hv hev
open Go.RowKit in
theorem Tryz.strconv_Atoi_range (s : ByteArray) (hlim : s.size ≤ 281474976710656) (h : Lib.atoiAll s.data.toList = .range) (ev : Value) (w : World) (hv : w.cell? ⟨2, 0, none⟩ = some ev) (hev : ev = .nilIface ∨ ∃ te pe, ev = .iface te pe) :
    Calls Tryz.prog 99 #[.string s] w fun e w' => ∃ N, e = .returned (.tuple #[.int .i64 (Lib.atoiSat s.data.toList), .iface 144 (.pointer (some ⟨N, 0, none⟩))]) ∧ w.heap.size ≤ N ∧ w'.heap[N]? = some (.cells #[.string ⟨#[65, 116, 111, 105]⟩, .string s, ev] 158 (0, 0)) ∧ Below w.heap.size w w' := Any.strconv_Atoi_range Tryz.laysC172 s hlim h ev w hv hev
end Go.Proofs

/- The reader of packets: a text cut at its first ';', and the number that it says. -/
namespace Go.Proofs.YtdfkpehggecbaaaGreatDoor
open Go.RowKit

theorem ix_lt (c : UInt8) : ∀ {l : List UInt8} {i : Nat}, Lib.indexByte l c = (i : Int) → i < l.length
  | [], i, h => by unfold Lib.indexByte at h; omega
  | x :: r, i, h => by
    unfold Lib.indexByte at h
    split at h
    · simp; omega
    · split at h
      · omega
      · rename_i h2
        have hg := Lib.indexByte_ge r c
        obtain ⟨j, rfl⟩ : ∃ j, i = j + 1 := ⟨i - 1, by have : Lib.indexByte r c ≠ -1 := by simpa using h2
                                                       omega⟩
        have := ix_lt c (l := r) (i := j) (by omega)
        simp; omega
theorem bstr_list (l : List UInt8) : (bstr l).data.toList = l := by simp [bstr]
theorem bstr_mk (s : ByteArray) : bstr s.data.toList = s := rfl
theorem bstr_to (l : List UInt8) (i : Nat) : (bstr l).extract 0 i = bstr (l.take i) := by
  rw [← bstr_mk ((bstr l).extract 0 i), Lib.extract_from_zero, bstr_list]
theorem bstr_from (l : List UInt8) (i : Nat) : (bstr l).extract i (bstr l).size = bstr (l.drop i) := by
  rw [← bstr_mk ((bstr l).extract i (bstr l).size), Lib.extract_to_end, bstr_list]
theorem below_drewN {B : Nat} {w w1 : World} (h : Below B w w1) (m : Nat) : Below B w (w1.drewN m) := ⟨h.os, h.tape, h.output, h.size, h.block⟩

set_option maxHeartbeats 800000 in
theorem pscut_none (s : ByteArray) (w : World) (h : Lib.indexByte s.data.toList 59 = -1) :
    Calls Tryz.prog 105 #[.string s, .string ⟨#[59]⟩] w fun e w' => e = .returned (.tuple #[.string s, .string ⟨#[]⟩, .bool false]) ∧ w' = w := by
  go_enter Tryz.func105, Tryz.ntmps105
  go_wp2_with (go_at_call 110; refine (Tryz.stringslite_Index_one s 59 _).mono ?_; rintro e w' ⟨rfl, rfl⟩; rw [h])
  go_ret3
  exact ⟨rfl, rfl⟩

set_option maxHeartbeats 1600000 in
theorem pscut_some (s : ByteArray) (i : Nat) (w : World) (h : Lib.indexByte s.data.toList 59 = (i : Int)) (hs : s.size ≤ 140737488355328) :
    Calls Tryz.prog 105 #[.string s, .string ⟨#[59]⟩] w fun e w' => e = .returned (.tuple #[.string (s.extract 0 i), .string (s.extract (i + 1) s.size), .bool true]) ∧ ∃ n, w' = w.drewN n := by
  have hi : i < s.size := by have := ix_lt 59 h; simpa using this
  have h0 : ((i : Int)).toNat = i := by omega
  have h1 : IntKind.i64.wrap ((i : Int) + 1) = ((i + 1 : Nat) : Int) := by rw [IntKind.wrap_i64]; omega
  have h2 : (((i + 1 : Nat) : Int)).toNat = i + 1 := by omega
  have h3 : ((s.size : Int)).toNat = s.size := by omega
  go_enter Tryz.func105, Tryz.ntmps105
  go_wp2_with (go_at_call 110; refine (Tryz.stringslite_Index_one s 59 _).mono ?_; rintro e w' ⟨rfl, rfl⟩; rw [h])
  go_quiet (fail)
  go_wp2_with fail
  go_ret3
  exact ⟨rfl, ⟨_, rfl⟩⟩

set_option maxHeartbeats 800000 in
theorem pcut_none (l : List UInt8) (w : World) (h : Lib.indexByte l 59 = -1) :
    Calls Tryz.prog 98 #[.string (bstr l), .string ⟨#[59]⟩] w fun e w' => e = .returned (.tuple #[.string (bstr l), .string ⟨#[]⟩, .bool false]) ∧ Below w.heap.size w w' := by
  have h' : Lib.indexByte (bstr l).data.toList 59 = -1 := by rw [bstr_list]; exact h
  generalize bstr l = s at *
  go_enter Tryz.func98, Tryz.ntmps98
  go_wp2_with (go_at_call 105; refine (pscut_none s _ h').mono ?_; rintro e w' ⟨rfl, rfl⟩)
  go_ret3
  exact ⟨rfl, Below.refl _ _⟩

set_option maxHeartbeats 800000 in
theorem pcut_some (l : List UInt8) (i : Nat) (w : World) (h : Lib.indexByte l 59 = (i : Int)) (hs : l.length ≤ 140737488355328) :
    Calls Tryz.prog 98 #[.string (bstr l), .string ⟨#[59]⟩] w fun e w' => e = .returned (.tuple #[.string (bstr (l.take i)), .string (bstr (l.drop (i + 1))), .bool true]) ∧ Below w.heap.size w w' := by
  have h' : Lib.indexByte (bstr l).data.toList 59 = i := by rw [bstr_list]; exact h
  have hs' : (bstr l).size ≤ 140737488355328 := by rw [bstr_size]; exact hs
  rw [← bstr_to, ← bstr_from]
  generalize bstr l = s at *
  go_enter Tryz.func98, Tryz.ntmps98
  go_wp2_with (go_at_call 105; refine (pscut_some s i _ h' hs').mono ?_; rintro e w' ⟨rfl, n, rfl⟩)
  go_ret3
  exact ⟨rfl, below_drewN (Below.refl _ _) _⟩

/-- The two variables that a wrong number's error is made of. -/
def Er (w : World) : Prop := ∃ a b p q, w.cell? ⟨1, 0, none⟩ = some (.iface a p) ∧ w.cell? ⟨2, 0, none⟩ = some (.iface b q)
theorem Er.below {B : Nat} {w w' : World} (h : Er w) (hb : Below B w w') (h1 : 1 < B) (h2 : 2 < B) : Er w' := by
  obtain ⟨a, b, p, q, e1, e2⟩ := h
  exact ⟨a, b, p, q, (hb.cell (p := ⟨1, 0, none⟩) h1).trans e1, (hb.cell (p := ⟨2, 0, none⟩) h2).trans e2⟩

theorem atoi_ok (l : List UInt8) (v : Int) (w : World) (hs : l.length ≤ 140737488355328) (h : Lib.atoiAll l = .ok v) :
    Calls Tryz.prog 99 #[.string (bstr l)] w fun e w' => e = .returned (.tuple #[.int .i64 v, .nilIface]) ∧ Below w.heap.size w w' := by
  refine (Tryz.strconv_Atoi_ok (bstr l) (by rw [bstr_size]; omega) v (by rw [bstr_list]; exact h) w).mono ?_
  rintro e w' ⟨rfl, rfl | ⟨t, rfl⟩⟩
  · exact ⟨rfl, Below.refl _ _⟩
  · exact ⟨rfl, Lib.bytesWorld_below _ _ _⟩
theorem atoi_no (l : List UInt8) (w : World) (hs : l.length ≤ 140737488355328) (h : ∀ v, Lib.atoiAll l ≠ .ok v) (hE : Er w) :
    Calls Tryz.prog 99 #[.string (bstr l)] w fun e w' => ∃ v T N, e = .returned (.tuple #[.int .i64 v, .iface T (.pointer (some ⟨N, 0, none⟩))]) ∧ Below w.heap.size w w' := by
  obtain ⟨a, b, p, q, e1, e2⟩ := hE
  cases hk : Lib.atoiAll l with
  | ok v => exact absurd hk (h v)
  | «syntax» =>
    refine (Tryz.strconv_Atoi_syntax (bstr l) (by rw [bstr_size]; omega) (by rw [bstr_list]; exact hk) _ w e1 (.inr ⟨_, _, rfl⟩)).mono ?_
    rintro e w' ⟨N, rfl, _, _, hb⟩
    exact ⟨_, _, N, rfl, hb⟩
  | range =>
    refine (Tryz.strconv_Atoi_range (bstr l) (by rw [bstr_size]; omega) (by rw [bstr_list]; exact hk) _ w e2 (.inr ⟨_, _, rfl⟩)).mono ?_
    rintro e w' ⟨N, rfl, _, _, hb⟩
    exact ⟨_, _, N, rfl, hb⟩

/-- The number at the head of a text, and what is behind it. -/
def rdN (l : List UInt8) : Option (Int × List UInt8) :=
  if Lib.indexByte l 59 = -1 then none
  else match Lib.atoiAll (l.take (Lib.indexByte l 59).toNat) with
    | .ok n => if Lib.itoa n = l.take (Lib.indexByte l 59).toNat then some (n, l.drop ((Lib.indexByte l 59).toNat + 1)) else none
    | _ => none

end Go.Proofs.YtdfkpehggecbaaaGreatDoor

