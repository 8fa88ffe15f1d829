/- FI, GW, GX, ShelfB, F3, F4, F5 -/
import Derived.Test.YtigffgjkakalfaaGreatDoorV11
import Derived.Test.YtigffgjkakalfaaGreatDoorV12
import Derived.OwnWalk
import Derived.Maps.AppendAt
import Derived.Shelf.Strings.Builder1
import Derived.Shelf.Strings.Builder2
import Derived.Shelf.Strings.OnBuilder
import Derived.Shelf.Small.Bits
import Derived.Shelf.Small.Strs
import Derived.Shelf.Small.Wraps
import Derived.Shelf.Strconv.Itoa0
import Derived.Shelf.LaysM
import Derived.Shelf.Strconv.Clone
import Derived.Shelf.Strings.Search1
import Derived.Shelf.Strings.Search2
import Derived.Shelf.Strings.Search3
import Derived.Shelf.Strings.Cut
import Derived.Shelf.Strings.Count
import Derived.Shelf.Strings.Shaped
import Derived.Shelf.Strings.Split
import Derived.Shelf.Strings.SplitShaped
import Derived.Shelf.Unicode.DecodeSlow
import Derived.Ground.SlsfProg
import Derived.Shelf.SlSortCmp.Insertion
import Derived.Shelf.SlSortCmp.SiftDown1
import Derived.Shelf.SlSortCmp.HeapSort1
import Derived.Shelf.SlSortCmp.Insertion1
import Derived.Shelf.SlSortCmp.Median1
import Derived.Shelf.SlSortCmp.Pivot1
import Derived.Shelf.SlSortCmp.ReverseRange1
import Derived.Shelf.SlSortCmp.PartialInsertion1
import Derived.Shelf.SlSortCmp.PartitionEqual1
import Derived.Shelf.SlSortCmp.Partition1
import Derived.Shelf.SlSortCmp.Pdq1
import Derived.Shelf.SlSortCmp.Whole1
import Derived.Shelf.SlSortCmp.NoneTotal
import Derived.Test.YtigffgjkakalfaaGreatDoorProg
import Derived.Test.YtigffgjkakalfaaGreatDoorV1
import Derived.Lib.Builder
import Derived.Lib.OthersKept
import Derived.Deep.RegionHeld3
import Derived.StillTactics
/- A name whose labels stand one behind another is read. -/
namespace Go.Proofs.YtigffgjkakalfaaGreatDoor
open Go.RowKit Go.Lib

/-- These labels stand in t from a on, and a nought behind them. -/
def Stand (t : ByteArray) : Nat → List ByteArray → Prop
  | a, [] => a + 1 ≤ t.size ∧ rnum t a 1 = 0
  | a, l :: r => rnum t a 1 = l.size ∧ a + 1 + l.size ≤ t.size ∧ t.extract (a + 1) (a + 1 + l.size) = l ∧ Stand t (a + 1 + l.size) r
/-- Where the nought stands. -/
def behind : Nat → List ByteArray → Nat
  | a, [] => a
  | a, l :: r => behind (a + 1 + l.size) r
abbrev bts (x : ByteArray) : List UInt8 := x.data.toList
def lenOf : Value → Nat
  | .slice _ n _ => n
  | _ => 0

theorem lab_low {l : ByteArray} (h : labB l = true) : ∀ j, j < l.size → 90 < (l.data.toList.getD j 0).toNat ∨ (l.data.toList.getD j 0).toNat < 65 := by
  intro j hj
  unfold labB at h
  simp only [Bool.and_eq_true, List.all_eq_true] at h
  have hj2 : j < l.data.toList.length := by simpa using hj
  have h2 := h.2 (l.data.toList[j]) (List.getElem_mem hj2)
  rw [List.getD_eq_getElem?_getD, List.getElem?_eq_getElem hj2]
  revert h2
  generalize l.data.toList[j] = c
  intro h2
  simp [lbB] at h2
  simp
  omega
theorem lab_size {l : ByteArray} (h : labB l = true) : 1 ≤ l.size ∧ l.size ≤ 30 := by
  unfold labB at h
  simp only [Bool.and_eq_true, decide_eq_true_eq] at h
  exact h.1
theorem join_jn2 : ∀ (xs : List (List UInt8)), Lib.join xs [46] = jn xs
  | [] => rfl
  | [x] => by simp [Lib.join, jn]
  | x :: y :: r => by
    have ih := join_jn2 (y :: r)
    simp [Lib.join, jn] at ih ⊢
    first | exact ih | simp [ih]

theorem own_len {base : Nat} {w : World} {v : Value} {l : List ByteArray} (h : OwnS base w v l) : lenOf v = l.length := by
  rcases h.form with ⟨rfl, rfl⟩ | ⟨g, c, rfl, _⟩
  · rfl
  · rfl

theorem own_shape {base : Nat} {w : World} {v : Value} {l : List ByteArray} (h : OwnS base w v l) : ∃ p c, v = .slice p l.length c := by
  rcases h.form with ⟨rfl, rfl⟩ | ⟨g, c, rfl, _⟩
  · exact ⟨none, 0, rfl⟩
  · exact ⟨_, c, rfl⟩

theorem Rd.belowed {g : Nat} {w w1 w2 : World} (h : Rd g w w1) (hb : Below w.heap.size w1 w2) : Rd g w w2 :=
  ⟨hb.os.trans h.os, hb.tape.trans h.tape, hb.output.trans h.output, Nat.le_trans h.size hb.size, fun k hk hg => (hb.block k hk).trans (h.block k hk hg)⟩

set_option maxHeartbeats 400000 in
theorem join_nil (W : World) : Calls Tryz.prog 92 #[.slice none 0 0, .string ⟨#[46]⟩] W fun e w' => e = .returned (.string ⟨#[]⟩) ∧ Below W.heap.size W w' := by
  go_enter Tryz.func92, Tryz.ntmps92
  go_wp2_with fail
  go_ret
  exact ⟨rfl, Below.refl _ _⟩

/-- Some texts joined. -/
theorem join_own (base : Nat) (ls : List ByteArray) (W : World) (v : Value) (ho : OwnS base W v ls) (hn : ls.length ≤ 1000) (hz : (jn (ls.map bts)).length ≤ 100000) :
    Calls Tryz.prog 92 #[v, .string ⟨#[46]⟩] W fun e w' => e = .returned (.string (mk (jn (ls.map bts)))) ∧ Below W.heap.size W w' := by
  rcases ho.form with ⟨rfl, rfl⟩ | ⟨g, c, rfl, hc, _, hg, hcell⟩
  · exact join_nil W
  · have h3 := Tryz.strings_Join g 0 c ls ⟨#[46]⟩ W (fun j x hj => by
      obtain ⟨hj1, hj2⟩ := List.getElem?_eq_some_iff.1 hj
      rw [Nat.zero_add, hcell j hj1]
      simp [List.getD, hj1, hj2]) hg (by omega) hc (by
      rw [show (ByteArray.mk #[46]).data.toList = [46] from rfl, join_jn2]
      exact Nat.le_trans hz (by omega))
    rw [show (ByteArray.mk #[46]).data.toList = [46] from rfl, join_jn2] at h3
    exact h3

theorem ext_drewN (w : World) (m : Nat) : w.Extends (w.drewN m) := ⟨rfl, rfl, rfl, Nat.le_refl _, fun _ _ => rfl, fun _ _ => rfl, fun _ _ => rfl⟩
theorem own_fin {g base : Nat} {wr w2 : World} {lv : Value} {D ls : List ByteArray} (h : Hid (Rd g wr w2)) (ho : Hid (OwnS base wr lv D)) (he : Hid (ls = D ++ [])) (hg : g < base) : Hid (OwnS base w2 lv ls) := (show OwnS base w2 lv ls by
  have h := h.out.own ho.out hg
  rw [he.out, List.append_nil]
  exact h)

theorem own_step {g base : Nat} {wr w2 : World} {lv : Value} {D : List ByteArray} (h : Hid (Rd g wr w2)) (ho : Hid (OwnS base wr lv D)) (hg : g < base) : Hid (OwnS base w2 lv D) := h.out.own ho.out hg

set_option maxHeartbeats 1600000 in
set_option maxRecDepth 100000 in
theorem name_ok (g a : Nat) (ls : List ByteArray) (t : ByteArray) (w : World) (h : IsR g t a w) (hs : t.size ≤ 1000) (hst : Stand t a ls) (hlab : ∀ l ∈ ls, labB l = true) (hn : ls.length ≤ 8) (hz : (jn (ls.map bts)).length ≤ 100000) :
    Calls Tryz.prog 66 #[.pointer (some ⟨g, 0, none⟩)] w fun e w' => e = .returned (.string (mk (jn (ls.map bts)))) ∧ Hid (IsR g t (behind a ls + 1) w') ∧ Hid (Rd g w w') := by
  obtain ⟨i0, hi0, hz0, hzs, hzb⟩ := info_parts Tryz.info9
  have c1 := h.c1
  have hgw := h.hg
  have HI : Hid (IsR g t a w) := h
  have HST : Hid (Stand t a ls) := hst
  have HLB : Hid (∀ l ∈ ls, labB l = true) := hlab
  have HJ : Hid (∀ W v, OwnS w.heap.size W v ls → Calls Tryz.prog 92 #[v, .string ⟨#[46]⟩] W fun e w' => e = .returned (.string (mk (jn (ls.map bts)))) ∧ Below W.heap.size W w') := fun W v ho => join_own _ ls W v ho (by omega) hz
  have HN : Hid (ls.length ≤ 8) := hn
  clear h hst hlab hz hn
  generalize mk (jn (ls.map bts)) = R at *
  go_enter Tryz.func66, Tryz.ntmps66
  go_wp2_with fail
  go_quiet (fail)
  go_wp2_with fail
  go_loopw [3, 4, 5] (fun lv pv bv wr => pv = .pointer (some ⟨g, 0, none⟩) ∧ bv = .int .i64 a ∧ ∃ (D r : List ByteArray) (b : Nat), Hid (ls = D ++ r) ∧ Hid (Stand t b r) ∧ Hid (behind b r = behind a ls) ∧ Hid (IsR g t b wr) ∧ Hid (Rd g w wr) ∧ Hid (OwnS w.heap.size wr lv D)) (fun lv _ _ _ => ls.length - lenOf lv)
  case atStart => exact ⟨rfl, rfl, [], ls, a, rfl, HST, rfl, HI.out.ext (ext_drewN _ _), (Rd.ext (ext_drewN _ _) : Rd g w _), ownS_nil _ _⟩
  case round =>
    obtain ⟨rfl, rfl, D, r, b, HE, HS, HH, HR, HD, HO⟩ := hrel
    have hsz := HD.out.size
    rcases r with _ | ⟨l, r⟩
    · have HP : Hid (Calls Tryz.prog 91 #[.pointer (some ⟨g, 0, none⟩)] wr fun e w' => e = .returned (.int .u8 0) ∧ Hid (IsR g t b w') ∧ Hid (Rd g wr w')) := (show Calls _ _ _ _ _ by
        have h := peek_r g b t wr HR.out HS.out.1
        rw [HS.out.2] at h
        exact h)
      go_wp2_with fail
      refine HP.out.mono ?_
      rintro e w1 ⟨rfl, HR1, HD1⟩
      go_wp2_with fail
      refine (expect_r g b 1 0 t w1 HR1.out hs HS.out.1 (by omega) HS.out.2).mono ?_
      rintro e w2 ⟨rfl, HR2, HD2⟩
      have HX : Hid (Rd g wr w2) := HD1.out.trans HD2.out
      have HO2 := own_fin HX HO HE hgw
      go_wp2_with fail
      refine (HJ.out _ _ HO2.out).mono ?_
      rintro e w3 ⟨rfl, hb3⟩
      have HB3 : Hid (Below w2.heap.size w2 w3) := hb3
      clear hb3
      go_wp2_with fail
      go_ret
      refine ⟨rfl, ?_, ?_⟩
      · rw [← HH.out]
        exact HR2.out.below HB3.out HR2.out.hg
      · exact (HD.out.trans HX.out).trans (Rd.of_below HB3.out (Nat.le_refl _))
    · have hl : labB l = true := HLB.out l (by rw [HE.out]; simp)
      have hl30 := lab_size hl
      have HS1 : Hid (rnum t b 1 = l.size) := HS.out.1
      have HS2 : Hid (b + 1 + l.size ≤ t.size) := HS.out.2.1
      have HS3 : Hid (t.extract (b + 1) (b + 1 + l.size) = l) := HS.out.2.2.1
      have HS4 : Hid (Stand t (b + 1 + l.size) r) := HS.out.2.2.2
      have hDn : D.length + 1 ≤ ls.length := by rw [HE.out]; simp
      have hD8 : D.length < 8 := by have := HN.out; omega
      have HP : Hid (Calls Tryz.prog 91 #[.pointer (some ⟨g, 0, none⟩)] wr fun e w' => e = .returned (.int .u8 (l.size : Nat)) ∧ Hid (IsR g t b w') ∧ Hid (Rd g wr w')) := (show Calls _ _ _ _ _ by
        have h := peek_r g b t wr HR.out (by have := HS2.out; omega)
        rw [HS1.out] at h
        exact h)
      have hm0 : ((l.size : Int) == 0) = false := beq_eq_false_iff_ne.2 (by omega)
      have hm1 : ¬ (l.size : Int) = 0 := by omega
      have hm2 : decide ((192 : Int) ≤ (l.size : Int)) = false := by simp; omega
      have HLL : Hid (labB l = true) := hl
      have hls : l.size ≤ maxLen := by unfold maxLen; omega
      clear HS hl
      go_wp2_with fail
      refine HP.out.mono ?_
      rintro e w1 ⟨rfl, HR1, HD1⟩
      go_wp2_with fail
      refine (counted_r g b l.size t l w1 HR1.out hs HS1.out HS2.out HS3.out).mono ?_
      rintro e w2 ⟨rfl, HR2, HD2⟩
      go_wp2_with fail
      refine (small_same l w2 (by omega) (lab_low HLL.out)).mono ?_
      rintro e w3 ⟨rfl, hx3⟩
      have HR3 : Hid (IsR g t (b + 1 + l.size) w3) := HR2.out.ext hx3
      have HD3 : Hid (Rd g wr w3) := (HD1.out.trans HD2.out).trans (Rd.ext hx3)
      have HO3 := own_step HD3 HO hgw
      have HD4 : Hid (Rd g w w3) := HD.out.trans HD3.out
      have hsz3 := HD4.out.size
      clear hx3 HD3 HD1 HD2 HR1 HR2 HO HD HR HP
      obtain ⟨p, c, hv⟩ := own_shape HO3.out
      subst hv
      have hd8 : decide ((D.length : Int) < 8) = true := by simp; omega
      go_wp2_with fail
      refine (label_any l w3 hls).mono ?_
      rintro e w4 ⟨rfl, hw4⟩
      subst hw4
      rw [HLL.out]
      go_wp2_with fail
      refine (need_ok _ _).mono ?_
      rintro e w5 ⟨rfl, hw5⟩
      subst hw5
      go_wp2_with (at_builtin; refine wpList_append_own _ rfl _ _ 115 rfl w.heap.size 9 i0 _ 1 16 Tryz.underlying115 hi0 hz0 hzs hzb rfl (by omega) _ D.length (D.map Value.string) rfl ?hown ⟨w5.heap.size, 0, none⟩ 1 1 [.string l] rfl rfl ?hnews (strs_one [_]) ?h63 ?hbytes ?hbase ?_)
      case hown => exact HO3.out.below ((Below.refl _ _).alloc (Nat.le_refl _) _)
      case hnews => (intro j u hj; rw [Addr.add_lit]; exact (cell_topL (by simp)).trans (by simpa using hj))
      case h63 => (unfold maxLen; omega)
      case hbytes => omega
      case hbase => (simp; omega)
      intro v' w6 r1 r2 r3
      have hB6 : Below w.heap.size w5 w6 := ((Below.refl _ _).alloc hsz3 _).grown r2 (by simp; omega) (fun j hj => (HO3.out.lt j hj).1)
      have HDX : Hid (Rd g w w6) := HD4.out.belowed hB6
      have HRX : Hid (IsR g t (b + 1 + l.size) w6) := HR3.out.below hB6 hgw
      have HOX : Hid (OwnS w.heap.size w6 v' (D ++ [l])) := ownS_snoc (l := D) r1
      have HEX : Hid (ls = (D ++ [l]) ++ r) := (show ls = _ by rw [HE.out]; simp)
      have HHX : Hid (behind (b + 1 + l.size) r = behind a ls) := HH
      clear r1 r2 r3 hB6 HO3 HD4 HR3 HE HH
      go_wp2_with fail
      refine ⟨⟨rfl, rfl, D ++ [l], r, b + 1 + l.size, HEX, HS4, HHX, HRX, HDX, HOX⟩, ?_⟩
      rw [own_len HOX.out, show lenOf (Value.slice p D.length c) = D.length from rfl, List.length_append, List.length_singleton]
      omega

end Go.Proofs.YtigffgjkakalfaaGreatDoor

/- A name is read, or there is none: both ways. -/
namespace Go.Proofs.YtigffgjkakalfaaGreatDoor
open Go.RowKit Go.Lib

/-- The labels of the name that goes on at b, behind the labels D, with rests ahead of bg; and where the reader is behind it; in so many steps. -/
def nmG (t : ByteArray) : Nat → Nat → Nat → List ByteArray → Option Nat → Option (List ByteArray × Nat)
  | 0, _, _, _, _ => none
  | f + 1, b, bg, D, p =>
    if b < t.size then
      if rnum t b 1 = 0 then some (D, p.getD (b + 1))
      else if 192 ≤ rnum t b 1 then
        (if b + 2 ≤ t.size ∧ rnum t b 2 - 49152 < bg then nmG t f (rnum t b 2 - 49152) (rnum t b 2 - 49152) D (some (p.getD (b + 2))) else none)
      else
        (if b + 1 + rnum t b 1 ≤ t.size ∧ labB (lwS (t.extract (b + 1) (b + 1 + rnum t b 1))) = true ∧ D.length < 8 then nmG t f (b + 1 + rnum t b 1) bg (D ++ [lwS (t.extract (b + 1) (b + 1 + rnum t b 1))]) p else none)
    else none
/-- The same, in as many steps as it takes. -/
def nmF (t : ByteArray) (b bg : Nat) (D : List ByteArray) (p : Option Nat) : Option (List ByteArray × Nat) := nmG t (bg * 9 + (8 - D.length) + 1) b bg D p
theorem nmG_more (t : ByteArray) : ∀ (f g b bg : Nat) (D : List ByteArray) (p : Option Nat), bg * 9 + (8 - D.length) < f → bg * 9 + (8 - D.length) < g → nmG t f b bg D p = nmG t g b bg D p
  | 0, _, _, _, _, _, h, _ => by omega
  | _ + 1, 0, _, _, _, _, _, h => by omega
  | f + 1, g + 1, b, bg, D, p, hf, hg => by
    simp only [nmG]
    by_cases h1 : b < t.size
    · rw [if_pos h1, if_pos h1]
      by_cases h2 : rnum t b 1 = 0
      · rw [if_pos h2, if_pos h2]
      · rw [if_neg h2, if_neg h2]
        by_cases h3 : 192 ≤ rnum t b 1
        · rw [if_pos h3, if_pos h3]
          by_cases h4 : b + 2 ≤ t.size ∧ rnum t b 2 - 49152 < bg
          · rw [if_pos h4, if_pos h4]
            exact nmG_more t f g _ _ _ _ (by omega) (by omega)
          · rw [if_neg h4, if_neg h4]
        · rw [if_neg h3, if_neg h3]
          by_cases h4 : b + 1 + rnum t b 1 ≤ t.size ∧ labB (lwS (t.extract (b + 1) (b + 1 + rnum t b 1))) = true ∧ D.length < 8
          · rw [if_pos h4, if_pos h4]
            exact nmG_more t f g _ _ _ _ (by rw [List.length_append, List.length_singleton]; omega) (by rw [List.length_append, List.length_singleton]; omega)
          · rw [if_neg h4, if_neg h4]
    · rw [if_neg h1, if_neg h1]
theorem nmF_no {t : ByteArray} {b bg : Nat} {D : List ByteArray} {p : Option Nat} (h : ¬ b < t.size) : nmF t b bg D p = none := by unfold nmF; simp only [nmG]; rw [if_neg h]
theorem nmF_end {t : ByteArray} {b bg : Nat} {D : List ByteArray} {p : Option Nat} (h : b < t.size) (h0 : rnum t b 1 = 0) : nmF t b bg D p = some (D, p.getD (b + 1)) := by unfold nmF; simp only [nmG]; rw [if_pos h, if_pos h0]
theorem nmF_rest {t : ByteArray} {b bg : Nat} {D : List ByteArray} {p : Option Nat} (h : b < t.size) (h0 : 192 ≤ rnum t b 1) : nmF t b bg D p = if b + 2 ≤ t.size ∧ rnum t b 2 - 49152 < bg then nmF t (rnum t b 2 - 49152) (rnum t b 2 - 49152) D (some (p.getD (b + 2))) else none := by
  have e : nmF t b bg D p = if b + 2 ≤ t.size ∧ rnum t b 2 - 49152 < bg then nmG t (bg * 9 + (8 - D.length)) (rnum t b 2 - 49152) (rnum t b 2 - 49152) D (some (p.getD (b + 2))) else none := by
    unfold nmF
    simp only [nmG]
    rw [if_pos h, if_neg (by omega), if_pos h0]
  rw [e]
  by_cases h1 : b + 2 ≤ t.size ∧ rnum t b 2 - 49152 < bg
  · rw [if_pos h1, if_pos h1]
    exact nmG_more t _ _ _ _ _ _ (by omega) (by omega)
  · rw [if_neg h1, if_neg h1]
theorem nmF_label {t : ByteArray} {b bg : Nat} {D : List ByteArray} {p : Option Nat} (h : b < t.size) (h0 : rnum t b 1 ≠ 0) (h1 : ¬ 192 ≤ rnum t b 1) : nmF t b bg D p = if b + 1 + rnum t b 1 ≤ t.size ∧ labB (lwS (t.extract (b + 1) (b + 1 + rnum t b 1))) = true ∧ D.length < 8 then nmF t (b + 1 + rnum t b 1) bg (D ++ [lwS (t.extract (b + 1) (b + 1 + rnum t b 1))]) p else none := by
  have e : nmF t b bg D p = if b + 1 + rnum t b 1 ≤ t.size ∧ labB (lwS (t.extract (b + 1) (b + 1 + rnum t b 1))) = true ∧ D.length < 8 then nmG t (bg * 9 + (8 - D.length)) (b + 1 + rnum t b 1) bg (D ++ [lwS (t.extract (b + 1) (b + 1 + rnum t b 1))]) p else none := by
    unfold nmF
    simp only [nmG]
    rw [if_pos h, if_neg h0, if_neg h1]
  rw [e]
  by_cases h2 : b + 1 + rnum t b 1 ≤ t.size ∧ labB (lwS (t.extract (b + 1) (b + 1 + rnum t b 1))) = true ∧ D.length < 8
  · rw [if_pos h2, if_pos h2]
    exact nmG_more t _ _ _ _ _ _ (by rw [List.length_append, List.length_singleton]; omega) (by omega)
  · rw [if_neg h2, if_neg h2]

/-- What lies there while a name is read: the part's reader at k, the whole reader at g, the labels so far. -/
structure Nm (g : Nat) (t : ByteArray) (w : World) (lv : Value) (k b : Nat) (D : List ByteArray) (p : Option Nat) (W : World) : Prop where
  isR : IsR k t b W
  rd : Rd g w W
  own : OwnS w.heap.size W lv D
  wh : (p = none ∧ k = g) ∨ (∃ q, p = some q ∧ w.heap.size ≤ k ∧ IsR g t q W ∧ q ≤ t.size ∧ lv.ownBlock ≠ some k)
  lt : g < w.heap.size

theorem Nm.ne {g k b : Nat} {t : ByteArray} {w W : World} {lv : Value} {D : List ByteArray} {p : Option Nat} (h : Nm g t w lv k b D p W) : lv.ownBlock ≠ some k := by
  rcases h.wh with ⟨_, rfl⟩ | ⟨_, _, _, _, _, h5⟩
  · intro e
    have := (h.own.lt _ e).1
    have := h.lt
    omega
  · exact h5
theorem Nm.text {g k b : Nat} {t : ByteArray} {w W : World} {lv : Value} {D : List ByteArray} {p : Option Nat} (h : Nm g t w lv k b D p W) : W.cell? ⟨g, 0, none⟩ = some (.string t) := by
  rcases h.wh with ⟨_, rfl⟩ | ⟨_, _, _, h4, _, _⟩
  · exact h.isR.c0
  · exact h4.c0
theorem Rd.isR {k g a : Nat} {t : ByteArray} {W W' : World} (h : Rd k W W') (hg : IsR g t a W) (hne : g ≠ k) : IsR g t a W' where
  c0 := (World.cell?_of_block (a := ⟨g, 0, none⟩) (h.block g hg.hg hne)).trans hg.c0
  c1 := (World.cell?_of_block (a := ⟨g, 1, none⟩) (h.block g hg.hg hne)).trans hg.c1
  hz := (World.frozen?_of_block (a := ⟨g, 1, none⟩) (h.block g hg.hg hne)).trans hg.hz
  hg := Nat.lt_of_lt_of_le hg.hg h.size
theorem Nm.rd2 {g k b : Nat} {t : ByteArray} {w W W' : World} {lv : Value} {D : List ByteArray} {p : Option Nat} (h : Nm g t w lv k b D p W) (h2 : Hid (Rd k W W')) : Rd g w W' := by
  rcases h.wh with ⟨_, rfl⟩ | ⟨q, _, h3, _, _, _⟩
  · exact h.rd.trans h2.out
  · exact ⟨h2.out.os.trans h.rd.os, h2.out.tape.trans h.rd.tape, h2.out.output.trans h.rd.output, Nat.le_trans h.rd.size h2.out.size, fun j hj hg => (h2.out.block j (Nat.lt_of_lt_of_le hj h.rd.size) (by omega)).trans (h.rd.block j hj hg)⟩
/-- The part's reader moved. -/
theorem Nm.call {g k b c : Nat} {t : ByteArray} {w W W' : World} {lv : Value} {D : List ByteArray} {p : Option Nat} (h : Nm g t w lv k b D p W) (h1 : Hid (IsR k t c W')) (h2 : Hid (Rd k W W')) : Nm g t w lv k c D p W' := by
  have hl := h.lt
  refine ⟨h1.out, h.rd2 h2, ?_, ?_, hl⟩
  · have hne := h.ne
    rcases h.own.2 with ⟨rfl, h0⟩ | ⟨j, c, cur, rfl, hbg, hk, r⟩
    · exact ⟨h.own.1, .inl ⟨rfl, h0⟩⟩
    · refine ⟨h.own.1, .inr ⟨j, c, cur, rfl, hbg, (h2.out.block j (Array.getElem?_eq_some_iff.1 hk).1 ?_).trans hk, r⟩⟩
      intro e
      exact hne (by rw [e]; rfl)
  · rcases h.wh with ⟨h3, h4⟩ | ⟨q, h3, h4, h5, h6, h7⟩
    · exact .inl ⟨h3, h4⟩
    · exact .inr ⟨q, h3, h4, h2.out.isR h5 (by omega), h6, h7⟩
theorem Nm.below {g k b : Nat} {t : ByteArray} {w W W' : World} {lv : Value} {D : List ByteArray} {p : Option Nat} (h : Nm g t w lv k b D p W) (hb : Below W.heap.size W W') : Nm g t w lv k b D p W' :=
  h.call (h.isR.below hb h.isR.hg) (Rd.of_below hb (Nat.le_refl _) : Rd k W W')
/-- The labels grew by one. -/
theorem Nm.grown {g k b : Nat} {t l : ByteArray} {w W W' : World} {lv v' : Value} {D : List ByteArray} {p : Option Nat} (h : Nm g t w lv k b D p W) (h1 : OwnS w.heap.size W' v' (D ++ [l])) (h2 : W.grownBy W' lv.ownBlock) (h3 : v'.ownBlock = lv.ownBlock ∨ v'.ownBlock = some W.heap.size) : Nm g t w v' k b (D ++ [l]) p W' := by
  have hl := h.lt
  have hne := h.ne
  have hk := h.isR.hg
  have hblk : ∀ q, q < w.heap.size → W'.heap[q]? = W.heap[q]? := fun q hq => h2.block q (Nat.lt_of_lt_of_le hq h.rd.size) (fun e => by have := (h.own.lt _ e.symm).1; omega)
  have isr : ∀ q a, (q = k ∨ q = g) → IsR q t a W → IsR q t a W' := fun q a hq hr => by
    have hqb : W'.heap[q]? = W.heap[q]? := by
      rcases hq with rfl | rfl
      · exact h2.block q hk (fun e => hne e.symm)
      · exact hblk q hl
    exact ⟨(World.cell?_of_block (a := ⟨q, 0, none⟩) hqb).trans hr.c0, (World.cell?_of_block (a := ⟨q, 1, none⟩) hqb).trans hr.c1, (World.frozen?_of_block (a := ⟨q, 1, none⟩) hqb).trans hr.hz, Nat.lt_of_lt_of_le hr.hg h2.size⟩
  refine ⟨isr k b (.inl rfl) h.isR, ⟨h2.os.trans h.rd.os, h2.tape.trans h.rd.tape, h2.output.trans h.rd.output, Nat.le_trans h.rd.size h2.size, fun j hj hg => (hblk j hj).trans (h.rd.block j hj hg)⟩, h1, ?_, hl⟩
  rcases h.wh with ⟨h4, h5⟩ | ⟨q, h4, h5, h6, h7, h8⟩
  · exact .inl ⟨h4, h5⟩
  · refine .inr ⟨q, h4, h5, isr g q (.inr rfl) h6, h7, ?_⟩
    rcases h3 with e | e
    · rw [e]; exact h8
    · rw [e]; intro e2; have := Option.some.inj e2; omega
/-- The name goes on elsewhere. -/
theorem Nm.rest {g k b r : Nat} {t : ByteArray} {w W : World} {lv : Value} {D : List ByteArray} {p : Option Nat} (h : Nm g t w lv k b D p W) (hb : b ≤ t.size) : Nm g t w lv W.heap.size r D (some (p.getD b)) (W.alloc (.cells #[.string t, .int .i64 r] 70)) := by
  have hx : W.Extends (W.alloc (.cells #[.string t, .int .i64 r] 70)) := (World.Extends.refl W).alloc _
  have hn : (W.alloc (.cells #[.string t, .int .i64 r] 70)).heap[W.heap.size]? = some (.cells #[.string t, .int .i64 r] 70 (0, 0)) := heap_alloc_new W _
  have hbl : Below W.heap.size W (W.alloc (.cells #[.string t, .int .i64 r] 70)) := (Below.refl _ _).alloc (Nat.le_refl _) _
  refine ⟨⟨by simp only [World.cell?, hn]; rfl, by simp only [World.cell?, hn]; rfl, by simp only [World.frozen?, hn]; rfl, by simp⟩, h.rd.trans (Rd.ext hx), h.own.below hbl, .inr ⟨p.getD b, rfl, h.rd.size, ?_, ?_, ?_⟩, h.lt⟩
  · rcases h.wh with ⟨rfl, rfl⟩ | ⟨q, rfl, _, h5, _, _⟩
    · exact h.isR.ext hx
    · exact h5.ext hx
  · rcases h.wh with ⟨rfl, rfl⟩ | ⟨q, rfl, _, _, h6, _⟩
    · exact hb
    · exact h6
  · intro e
    have := (h.own.lt _ e).2
    omega
theorem Nm.fin {g k b : Nat} {t : ByteArray} {w W : World} {lv : Value} {D : List ByteArray} {p : Option Nat} (h : Nm g t w lv k b D p W) (hb : b ≤ t.size) : IsR g t (p.getD b) W ∧ p.getD b ≤ t.size := by
  rcases h.wh with ⟨rfl, rfl⟩ | ⟨q, rfl, _, h5, h6, _⟩
  · exact ⟨h.isR, hb⟩
  · exact ⟨h5, h6⟩

theorem rnum_two (t : ByteArray) (b : Nat) (h : 192 ≤ rnum t b 1) : 49152 ≤ rnum t b 2 := by
  have e : rnum t b 2 = rnum t b 1 * 256 + (t.data[b + 1]?.getD 0).toNat := rfl
  omega
theorem jn_len : ∀ (D : List ByteArray), (∀ l ∈ D, l.size ≤ 30) → (jn (D.map bts)).length ≤ D.length * 31
  | [], _ => by simp [jn]
  | [x], h => by have := h x (by simp); simp [jn]; omega
  | x :: y :: r, h => by
    have ih := jn_len (y :: r) (fun l hl => h l (List.mem_cons_of_mem _ hl))
    have hx := h x (by simp)
    have hx2 : (bts x).length = x.size := by simp
    simp only [List.map_cons, jn, List.length_append, List.length_cons] at ih ⊢
    omega

end Go.Proofs.YtigffgjkakalfaaGreatDoor

/- A name is read, or there is none: the walk. -/
namespace Go.Proofs.YtigffgjkakalfaaGreatDoor
open Go.RowKit Go.Lib

theorem lwS_ext (t : ByteArray) (b f : Nat) (h : b + 1 + f ≤ t.size) : (t.extract (b + 1) (b + 1 + f)).size = f := by simp; omega

set_option maxHeartbeats 800000 in
set_option maxRecDepth 100000 in
theorem name_b (g a : Nat) (t : ByteArray) (w : World) (h : IsR g t a w) (hs : t.size ≤ 1000) (ha : a ≤ t.size) :
    Calls Tryz.prog 66 #[.pointer (some ⟨g, 0, none⟩)] w fun e w' => Hid (Rd g w w') ∧ ((∃ ls q, nmF t a a [] none = some (ls, q) ∧ (ls.length ≤ 8 ∧ ∀ l ∈ ls, l.size ≤ 30) ∧ q ≤ t.size ∧ e = .returned (.string (mk (jn (ls.map bts)))) ∧ Hid (IsR g t q w')) ∨ (nmF t a a [] none = none ∧ e = outE 1)) := by
  obtain ⟨i0, hi0, hz0, hzs, hzb⟩ := info_parts Tryz.info9
  have c1 := h.c1
  have HI : Hid (IsR g t a w) := h
  have hgw := h.hg
  clear h
  obtain ⟨RES, hRES⟩ : ∃ R, R = nmF t a a [] none := ⟨_, rfl⟩
  rw [← hRES]
  have HRES : Hid (nmF t a a [] none = RES) := hRES.symm
  clear hRES
  have HJ : Hid (∀ (D : List ByteArray) (W : World) (v : Value), OwnS w.heap.size W v D → D.length ≤ 8 → (∀ l ∈ D, l.size ≤ 30) → ∃ R, R = mk (jn (D.map bts)) ∧ Calls Tryz.prog 92 #[v, .string ⟨#[46]⟩] W fun e w' => e = .returned (.string R) ∧ Below W.heap.size W w') := fun D W v ho hd hl => ⟨_, rfl, join_own _ D W v ho (by omega) (by have := jn_len D hl; omega)⟩
  go_enter Tryz.func66, Tryz.ntmps66
  go_wp2_with fail
  go_quiet (fail)
  go_wp2_with fail
  go_loopw [3, 4, 5] (fun lv pv bv wr => ∃ (D : List ByteArray) (b bg : Nat) (p : Option Nat) (k : Nat), pv = .pointer (some ⟨k, 0, none⟩) ∧ bv = .int .i64 bg ∧ b ≤ t.size ∧ bg ≤ t.size ∧ D.length ≤ 8 ∧ Hid (∀ l ∈ D, l.size ≤ 30) ∧ Hid (nmF t b bg D p = RES) ∧ Hid (Nm g t w lv k b D p wr)) (fun lv _ bv _ => (RowKit.intOf bv).toNat * 9 + (8 - lenOf lv))
  case atStart => exact ⟨[], a, a, none, g, rfl, rfl, ha, ha, by simp, (show ∀ _, _ from fun l hl => by cases hl), HRES, (⟨HI.out.ext (ext_drewN _ _), Rd.ext (ext_drewN _ _), ownS_nil _ _, .inl ⟨rfl, rfl⟩, hgw⟩ : Nm g t w _ g a [] none _)⟩
  case round =>
    obtain ⟨D, b, bg, p, k, rfl, rfl, hb, hbg, hD, HSM, HR, HN⟩ := hrel
    have HP : Hid (Calls Tryz.prog 91 #[.pointer (some ⟨k, 0, none⟩)] wr fun e w' => Hid (Rd k wr w') ∧ ((b < t.size ∧ e = .returned (.int .u8 (rnum t b 1 : Nat)) ∧ Hid (IsR k t b w')) ∨ (¬ b < t.size ∧ e = outE 1))) := peek_b k b t wr HN.out.isR
    go_wp2_with fail
    refine HP.out.mono ?_
    rintro e w1 ⟨HD1, ⟨hlt, rfl, HI1⟩ | ⟨hlt, rfl⟩⟩
    rotate_left
    · exact ⟨rfl, HN.out.rd2 HD1, .inr ⟨HR.out.symm.trans (nmF_no hlt), rfl⟩⟩
    have HN1 : Hid (Nm g t w _ k b D p w1) := HN.out.call HI1 HD1
    clear HN HP HI1 HD1
    by_cases h0 : rnum t b 1 = 0
    · have HR1 : Hid (RES = some (D, p.getD (b + 1))) := HR.out.symm.trans (nmF_end hlt h0)
      have HX : Hid (Calls Tryz.prog 65 #[.pointer (some ⟨k, 0, none⟩), .int .i64 1, .int .i64 0] w1 fun e w' => Hid (Rd k w1 w') ∧ (((b + 1 ≤ t.size ∧ (rnum t b 1 : Int) = 0) ∧ e = .returned (.tuple #[]) ∧ Hid (IsR k t (b + 1) w')) ∨ (¬ (b + 1 ≤ t.size ∧ (rnum t b 1 : Int) = 0) ∧ e = outE 1))) := expect_b k b 1 0 t w1 HN1.out.isR hs hb (by omega)
      rw [h0] at HX ⊢
      go_wp2_with fail
      refine HX.out.mono ?_
      rintro e w2 ⟨HD2, ⟨_, rfl, HI2⟩ | ⟨hno, rfl⟩⟩
      rotate_left
      · exact absurd ⟨by omega, rfl⟩ hno
      have HN2 : Hid (Nm g t w _ k (b + 1) D p w2) := HN1.out.call HI2 HD2
      clear HI2 HD2 HX HN1
      go_wp2_with fail
      obtain ⟨R, hR, HJC⟩ := HJ.out D w2 _ HN2.out.own hD HSM.out
      have HJC : Hid (Calls Tryz.prog 92 #[_, .string ⟨#[46]⟩] w2 fun e w' => e = .returned (.string R) ∧ Below w2.heap.size w2 w') := HJC
      have HRR : Hid (R = mk (jn (D.map bts))) := hR
      clear hR
      refine HJC.out.mono ?_
      rintro e w3 ⟨rfl, hb3⟩
      have HN3 : Hid (Nm g t w _ k (b + 1) D p w3) := HN2.out.below hb3
      clear hb3 HN2
      go_wp2_with fail
      go_ret
      obtain ⟨f1, f2⟩ := HN3.out.fin (by omega)
      exact ⟨HN3.out.rd, .inl ⟨D, _, HR1.out, ⟨hD, HSM.out⟩, f2, by rw [HRR.out]; rfl, f1⟩⟩
    · by_cases h192 : 192 ≤ rnum t b 1
      · have HR1 : Hid (RES = if b + 2 ≤ t.size ∧ rnum t b 2 - 49152 < bg then nmF t (rnum t b 2 - 49152) (rnum t b 2 - 49152) D (some (p.getD (b + 2))) else none) := HR.out.symm.trans (nmF_rest hlt h192)
        have h2 := rnum_two t b h192
        have hm0 : ((rnum t b 1 : Int) == 0) = false := beq_eq_false_iff_ne.2 (by omega)
        have hm1 : ¬ (rnum t b 1 : Int) = 0 := by omega
        have hm2 : decide ((192 : Int) ≤ (rnum t b 1 : Int)) = true := by simp; omega
        have HX : Hid (Calls Tryz.prog 62 #[.pointer (some ⟨k, 0, none⟩), .int .i64 2] w1 fun e w' => Hid (Rd k w1 w') ∧ ((b + 2 ≤ t.size ∧ e = .returned (.int .i64 (rnum t b 2)) ∧ Hid (IsR k t (b + 2) w')) ∨ (¬ b + 2 ≤ t.size ∧ e = outE 1))) := number_b k b 2 t w1 HN1.out.isR hs hb (by omega)
        clear HR
        go_wp2_with fail
        refine HX.out.mono ?_
        rintro e w2 ⟨HD2, ⟨hle, rfl, HI2⟩ | ⟨hno, rfl⟩⟩
        rotate_left
        · exact ⟨rfl, HN1.out.rd2 HD2, .inr ⟨HR1.out.trans (if_neg (fun h => hno h.1)), rfl⟩⟩
        have HN2 : Hid (Nm g t w _ k (b + 2) D p w2) := HN1.out.call HI2 HD2
        clear HI2 HD2 HX HN1
        have ct := HN2.out.text
        have hl2 := rnum_lt t b 2
        obtain ⟨r, hr⟩ : ∃ r, r = rnum t b 2 - 49152 := ⟨_, rfl⟩
        rw [← hr] at HR1
        have hwr : IntKind.i64.wrap ((rnum t b 2 : Int) - 49152) = (r : Int) := by rw [IntKind.wrap_i64]; omega
        clear hr h2 hl2
        by_cases hrb : r < bg
        · have hd : decide ((r : Int) < (bg : Int)) = true := by simp; omega
          have HR2 : Hid (nmF t r r D (some (p.getD (b + 2))) = RES) := (HR1.out.trans (if_pos ⟨hle, hrb⟩)).symm
          clear HR1
          go_wp2_with fail
          refine (need_ok _ _).mono ?_
          rintro e w5 ⟨rfl, hw5⟩
          subst hw5
          have HN3 : Hid (Nm g t w _ w5.heap.size r D (some (p.getD (b + 2))) (w5.alloc (.cells #[.string t, .int .i64 r] 70))) := HN2.out.rest hle
          clear HN2
          go_wp2_with fail
          refine ⟨⟨D, r, r, _, w5.heap.size, rfl, rfl, by omega, by omega, hD, HSM, HR2, HN3⟩, ?_⟩
          simp [RowKit.intOf]
          omega
        · have hd : decide ((r : Int) < (bg : Int)) = false := by simp; omega
          have HR2 : Hid (RES = none) := HR1.out.trans (if_neg (fun h => hrb h.2))
          clear HR1
          go_wp2_with fail
          refine (need_no _ _).mono ?_
          rintro e w5 ⟨rfl, hw5⟩
          subst hw5
          exact ⟨rfl, HN2.out.rd, .inr ⟨HR2.out, rfl⟩⟩
      · have HR1 : Hid (RES = if b + 1 + rnum t b 1 ≤ t.size ∧ labB (lwS (t.extract (b + 1) (b + 1 + rnum t b 1))) = true ∧ D.length < 8 then nmF t (b + 1 + rnum t b 1) bg (D ++ [lwS (t.extract (b + 1) (b + 1 + rnum t b 1))]) p else none) := HR.out.symm.trans (nmF_label hlt h0 h192)
        have hm0 : ((rnum t b 1 : Int) == 0) = false := beq_eq_false_iff_ne.2 (by omega)
        have hm1 : ¬ (rnum t b 1 : Int) = 0 := by omega
        have hm2 : decide ((192 : Int) ≤ (rnum t b 1 : Int)) = false := by simp; omega
        have HX : Hid (Calls Tryz.prog 94 #[.pointer (some ⟨k, 0, none⟩)] w1 fun e w' => Hid (Rd k w1 w') ∧ ((b + 1 + rnum t b 1 ≤ t.size ∧ e = .returned (.string (t.extract (b + 1) (b + 1 + rnum t b 1))) ∧ Hid (IsR k t (b + 1 + rnum t b 1) w')) ∨ (¬ b + 1 + rnum t b 1 ≤ t.size ∧ e = outE 1))) := counted_b k b t w1 HN1.out.isR hs hb
        clear HR
        generalize hf : rnum t b 1 = f at *
        clear hf
        go_wp2_with fail
        refine HX.out.mono ?_
        rintro e w2 ⟨HD2, ⟨hle, rfl, HI2⟩ | ⟨hno, rfl⟩⟩
        rotate_left
        · exact ⟨rfl, HN1.out.rd2 HD2, .inr ⟨HR1.out.trans (if_neg (fun h => hno h.1)), rfl⟩⟩
        have HN2 : Hid (Nm g t w _ k (b + 1 + f) D p w2) := HN1.out.call HI2 HD2
        have hes := lwS_ext t b f hle
        generalize t.extract (b + 1) (b + 1 + f) = x at *
        clear HI2 HD2 HX HN1
        go_wp2_with fail
        refine (small_any x w2 (by omega)).mono ?_
        rintro e w3 ⟨rfl, hb3⟩
        have HN3 : Hid (Nm g t w _ k (b + 1 + f) D p w3) := HN2.out.below hb3
        have hxs := lwS_size x
        generalize lwS x = l at *
        clear hb3 HN2
        obtain ⟨pp, c, hv⟩ := own_shape HN3.out.own
        subst hv
        have hls : l.size ≤ maxLen := by unfold maxLen; omega
        by_cases hl : labB l = true
        · have hl30 := lab_size hl
          have HLL : Hid (labB l = true) := hl
          clear hl
          by_cases hD8 : D.length < 8
          · have hd8 : decide ((D.length : Int) < 8) = true := by simp; omega
            have HR2 : Hid (nmF t (b + 1 + f) bg (D ++ [l]) p = RES) := (HR1.out.trans (if_pos ⟨hle, HLL.out, hD8⟩)).symm
            clear HR1
            go_wp2_with fail
            refine (label_any l w3 hls).mono ?_
            rintro e w4 ⟨rfl, hw4⟩
            subst hw4
            rw [HLL.out]
            go_wp2_with fail
            refine (need_ok _ _).mono ?_
            rintro e w5 ⟨rfl, hw5⟩
            subst hw5
            have hsz5 := HN3.out.rd.size
            go_wp2_with (at_builtin; refine wpList_append_own_at _ rfl _ _ 115 rfl w.heap.size 9 i0 _ 1 16 Tryz.underlying115 hi0 hz0 hzs hzb rfl (by omega) _ D.length (D.map Value.string) rfl ?hown ⟨w5.heap.size, 0, none⟩ 1 1 [.string l] rfl rfl ?hnews (strs_one [_]) ?h63 ?hbytes ?hbase ?_)
            case hown => exact HN3.out.own.below ((Below.refl _ _).alloc (Nat.le_refl _) _)
            case hnews => (intro j u hj; rw [Addr.add_lit]; exact (cell_topL (by simp)).trans (by simpa using hj))
            case h63 => (unfold maxLen; omega)
            case hbytes => omega
            case hbase => (simp; omega)
            intro v' w6 r1 r2 r3 r4
            have HN4 : Hid (Nm g t w v' k (b + 1 + f) (D ++ [l]) p w6) := (HN3.out.below ((Below.refl _ _).alloc (Nat.le_refl _) _)).grown (ownS_snoc (l := D) r1) r2 (by simpa using r4)
            have HSM2 : Hid (∀ x ∈ D ++ [l], x.size ≤ 30) := (show ∀ _, _ from fun x hx => by
              rcases List.mem_append.1 hx with h | h
              · exact HSM.out x h
              · rw [List.mem_singleton.1 h]; exact hl30.2)
            clear r1 r2 r3 r4 HN3 HSM
            go_wp2_with fail
            refine ⟨⟨D ++ [l], b + 1 + f, bg, p, k, rfl, rfl, by omega, hbg, by rw [List.length_append, List.length_singleton]; omega, HSM2, HR2, HN4⟩, ?_⟩
            rw [own_len HN4.out.own, show lenOf (Value.slice pp D.length c) = D.length from rfl, List.length_append, List.length_singleton]
            omega
          · have hd8 : decide ((D.length : Int) < 8) = false := by simp; omega
            have HR2 : Hid (RES = none) := HR1.out.trans (if_neg (fun h => hD8 h.2.2))
            clear HR1
            go_wp2_with fail
            refine (label_any l w3 hls).mono ?_
            rintro e w4 ⟨rfl, hw4⟩
            subst hw4
            rw [HLL.out]
            go_wp2_with fail
            refine (need_no _ _).mono ?_
            rintro e w5 ⟨rfl, hw5⟩
            subst hw5
            exact ⟨rfl, HN3.out.rd, .inr ⟨HR2.out, rfl⟩⟩
        · have HLL : Hid (labB l = false) := (show _ = _ by simpa using hl)
          have HR2 : Hid (RES = none) := HR1.out.trans (if_neg (fun h => hl h.2.1))
          clear HR1 hl
          go_wp2_with fail
          refine (label_any l w3 hls).mono ?_
          rintro e w4 ⟨rfl, hw4⟩
          subst hw4
          rw [HLL.out]
          go_wp2_with fail
          refine (need_no _ _).mono ?_
          rintro e w5 ⟨rfl, hw5⟩
          subst hw5
          exact ⟨rfl, HN3.out.rd, .inr ⟨HR2.out, rfl⟩⟩

end Go.Proofs.YtigffgjkakalfaaGreatDoor

/- Contracts of the library, laid at this program. -/
namespace Go.Proofs
open Go.Shelf
end Go.Proofs

/- The writer's builder: copyCheck, WriteByte. -/
namespace Go.Proofs.YtigffgjkakalfaaGreatDoor
open Go.RowKit

theorem Tryz.infoByte : (Tryz.prog.info? 5).map (fun i => (i.zero, i.size, i.bytes)) = some (some (.int .u8 0), 1, 1) := by kernel_rfl
theorem Tryz.sizeBuilder : (Tryz.prog.info? 125).map (·.size) = some 2 := by kernel_rfl
theorem Tryz.liesWriter : liesAt Tryz.prog Tryz.prog.depth 127 (2 / Tryz.prog.cellsOf 127) 0 125 1 = true := by kernel_rfl

abbrev WAt (B b : Nat) (p : Value) (bs : List Value) (w : World) : Prop := Lib.BuilderAt 127 5 B b p bs w
def IsW (B b : Nat) (bs : List Value) (w : World) : Prop := WAt B b (.pointer none) bs w ∨ WAt B b (.pointer (some ⟨b, 0, none⟩)) bs w

/-- The block in which the builder at b has its bytes. -/
def bufOf (w : World) (b : Nat) : Option Nat := (w.cell? ⟨b, 1, none⟩).bind Value.ownBlock
/-- All that was there stays, the builder at b and its bytes aside; these lie where they lay, or anew. -/
def Kq (b : Nat) (w w' : World) : Prop := b < w.heap.size → (∀ k, k < w.heap.size → k ≠ b → some k ≠ bufOf w b → w'.heap[k]? = w.heap[k]?) ∧ (bufOf w' b = bufOf w b ∨ ∀ k, bufOf w' b = some k → w.heap.size ≤ k)
/-- What lay below, lies; and so does what is no row of bytes, the builder's own block aside. -/
structure Kp (B b : Nat) (w w' : World) : Prop where
  bel : Below B w w'
  oth : Lib.OthersKept 5 (some b) w w'
  kq : Kq b w w'
theorem Kq.refl (b : Nat) (w : World) : Kq b w w := fun _ => ⟨fun _ _ _ _ => rfl, .inl rfl⟩
theorem Kq.trans {b : Nat} {w w1 w2 : World} (h : Kq b w w1) (k : Kq b w1 w2) (hs : w.heap.size ≤ w1.heap.size) : Kq b w w2 := fun hb => by
  obtain ⟨h1, h2⟩ := h hb
  obtain ⟨k1, k2⟩ := k (Nat.lt_of_lt_of_le hb hs)
  refine ⟨fun j hj hjb hjn => ?_, ?_⟩
  · refine (k1 j (Nat.lt_of_lt_of_le hj hs) hjb fun e => ?_).trans (h1 j hj hjb hjn)
    rcases h2 with h2 | h2
    · exact hjn (e.trans h2)
    · have := h2 j e.symm; omega
  · rcases k2 with k2 | k2
    · rcases h2 with h2 | h2
      · exact .inl (k2.trans h2)
      · exact .inr fun j hj => h2 j (k2 ▸ hj)
    · exact .inr fun j hj => Nat.le_trans hs (k2 j hj)
theorem Kp.refl (B b : Nat) (w : World) : Kp B b w w := ⟨Below.refl _ _, Lib.OthersKept.refl _ _ _, Kq.refl b w⟩
theorem Kp.trans {B b : Nat} {w w1 w2 : World} (h : Kp B b w w1) (k : Kp B b w1 w2) : Kp B b w w2 := ⟨h.bel.trans k.bel, h.oth.trans k.oth, h.kq.trans k.kq h.bel.size⟩
theorem Kp.drew {B b : Nat} {w w1 : World} (h : Kp B b w w1) : Kp B b w w1.drew := ⟨h.bel.drew, h.oth.drew, h.kq⟩
theorem Kp.size {B b : Nat} {w w1 : World} (h : Kp B b w w1) : w.heap.size ≤ w1.heap.size := h.bel.size
theorem Kq.step {b : Nat} {w1 w2 : World} {p v v' : Value} {T : TypeId} (hb1 : w1.heap[b]? = some (.cells #[p, v] T (0, 0))) (hb2 : w2.heap[b]? = some (.cells #[p, v] T (0, 0))) (hg : ∀ k, k < w1.heap.size → some k ≠ v.ownBlock → w2.heap[k]? = w1.heap[k]?) (hat : v'.ownBlock = v.ownBlock ∨ ∀ k, v'.ownBlock = some k → w1.heap.size ≤ k) : Kq b w1 (w2.setCell ⟨b, 1, none⟩ v') := fun _ => by
  have e1 : bufOf w1 b = v.ownBlock := by unfold bufOf; rw [cellsAt hb1 1]; rfl
  have e2 : bufOf (w2.setCell ⟨b, 1, none⟩ v') b = v'.ownBlock := by unfold bufOf; rw [World.cell?_setCell_same _ _ _ (cellsAt hb2 1 : w2.cell? ⟨b, 1, none⟩ = some v)]; rfl
  rw [e1, e2]
  exact ⟨fun k hk hkb hkn => (Below.heap_setCell w2 _ v' k hkb).trans (hg k hk hkn), hat⟩
theorem own_kind {B n : Nat} {w : World} {v : Value} {xs : List Value} (h : w.ownsRow B 5 1 v n xs) : ∀ g, v.ownBlock = some g → ∃ c fz, w.heap[g]? = some (.cells c 5 fz) := by
  intro g hg
  rcases h.2 with ⟨rfl, _⟩ | ⟨g', cap, cur, rfl, _, hgg, _⟩
  · simp [Value.ownBlock] at hg
  · simp [Value.ownBlock] at hg
    subst hg
    exact ⟨cur, _, hgg⟩

set_option maxHeartbeats 1000000 in
set_option maxRecDepth 100000 in
theorem copy_fresh (b : Nat) (w : World) (h0 : w.cell? ⟨b, 0, none⟩ = some (.pointer none)) (hsh : w.shape? b = some (127, 2)) (hfz : w.frozen? ⟨b, 0, none⟩ = false) :
    Calls Tryz.prog 134 #[.pointer (some ⟨b, 0, none⟩)] w fun e w' => e = .returned (.tuple #[]) ∧ w' = w.setCell ⟨b, 0, none⟩ (.pointer (some ⟨b, 0, none⟩)) := by
  obtain ⟨j, hj, hjs⟩ := Option.map_eq_some_iff.1 Tryz.sizeBuilder
  go_enter Tryz.func134, Tryz.ntmps134
  go_wp2_with fail
  rw [Lib.run_to_unsafe w ⟨b, 0, none⟩ Tryz.underlying123 Tryz.underlying177 hj (by rw [hjs]; decide) hsh (Nat.zero_lt_succ 1)]
  simp only [Result.andThen]
  rw [Oper.upon_value]
  go_wp2_with fail
  rw [run_callFunc_extern Tryz.func144 (by kernel_rfl) (by kernel_rfl) (by kernel_rfl) (e := Extern.AbiNoEscape.same) (by kernel_rfl)]
  rw [Lib.run_noEscape]
  simp only [Result.andThen]
  rw [Oper.upon_value]
  go_wp2_with fail
  rw [Lib.run_from_unsafe w ⟨b, 0, none⟩ Tryz.underlying177 Tryz.underlying123 hj hsh Tryz.liesWriter]
  simp only [Result.andThen]
  rw [Oper.upon_value]
  go_wp2_with fail
  simp [bodyPost, results, Tryz.results134]

set_option maxHeartbeats 1000000 in
set_option maxRecDepth 100000 in
theorem copy_used (b : Nat) (w : World) (h0 : w.cell? ⟨b, 0, none⟩ = some (.pointer (some ⟨b, 0, none⟩))) :
    Calls Tryz.prog 134 #[.pointer (some ⟨b, 0, none⟩)] w fun e w' => e = .returned (.tuple #[]) ∧ w' = w := by
  obtain ⟨j, hj, _⟩ := Option.map_eq_some_iff.1 Tryz.sizeBuilder
  go_enter Tryz.func134, Tryz.ntmps134
  go_wp2_with fail
  rw [Lib.run_neq_ptr_same w _ Tryz.underlying123 hj]
  go_wp2_with fail
  simp [bodyPost, results, Tryz.results134]

theorem copy_any (B b : Nat) (bs : List Value) (w : World) (h : IsW B b bs w) :
    Calls Tryz.prog 134 #[.pointer (some ⟨b, 0, none⟩)] w fun e w' => e = .returned (.tuple #[]) ∧ WAt B b (.pointer (some ⟨b, 0, none⟩)) bs w' ∧ Kp B b w w' := by
  rcases h with h | h
  · refine (copy_fresh b w h.cell0 h.shape h.frozen0).mono ?_
    rintro e w' ⟨rfl, rfl⟩
    exact ⟨rfl, h.used _, (Below.refl B w).setCell (p := ⟨b, 0, none⟩) h.1 _, (Lib.OthersKept.refl _ _ w).setCell ⟨b, 0, none⟩ rfl _, fun _ => ⟨fun k _ hkb _ => Below.heap_setCell w _ _ k hkb, .inl (by unfold bufOf; rw [World.cell?_setCell_other _ _ _ _ (by simp)])⟩⟩
  · refine (copy_used b w h.cell0).mono ?_
    rintro e w' ⟨rfl, rfl⟩
    exact ⟨rfl, h, Kp.refl B b _⟩

set_option maxHeartbeats 2000000 in
set_option maxRecDepth 100000 in
/-- A byte more. -/
theorem writeByte_any (B b : Nat) (bs : List Value) (c : Int) (w : World) (h : IsW B b bs w) (hlen : bs.length + 1 ≤ 1000000) (hBw : B ≤ w.heap.size) :
    Calls Tryz.prog 123 #[.pointer (some ⟨b, 0, none⟩), .int .u8 c] w fun e w' => e = .returned .nilIface ∧ WAt B b (.pointer (some ⟨b, 0, none⟩)) (bs ++ [.int .u8 c]) w' ∧ Kp B b w w' := by
  obtain ⟨i0, hi, hz0, hz1, hz2⟩ := info_parts Tryz.infoByte
  have HC : Hid (Calls Tryz.prog 134 #[.pointer (some ⟨b, 0, none⟩)] w fun e w' => e = .returned (.tuple #[]) ∧ WAt B b (.pointer (some ⟨b, 0, none⟩)) bs w' ∧ Kp B b w w') := copy_any B b bs w h
  clear h
  go_enter Tryz.func123, Tryz.ntmps123
  go_wp2_with fail
  refine HC.out.mono ?_
  rintro e w1 ⟨rfl, h1, hb1⟩
  obtain ⟨hB, v, hbk, hown, hne⟩ := h1
  have c0 : w1.cell? ⟨b, 0, none⟩ = some (.pointer (some ⟨b, 0, none⟩)) := cellsAt hbk 0
  have c1 : w1.cell? ⟨b, 1, none⟩ = some v := cellsAt hbk 1
  have hsz1 := hb1.size
  have HO : Hid (w1.ownsRow B 5 1 v bs.length bs) := hown
  have HK : Hid (w1.heap[b]? = some (.cells #[.pointer (some ⟨b, 0, none⟩), v] 127 (0, 0))) := hbk
  clear hown hbk
  go_wp2_with (at_builtin; refine wpList_append_own_at _ rfl _ _ 117 rfl B 5 i0 (.int .u8 0) 1 1 Tryz.underlying117 hi hz0 hz1 hz2 rfl (by decide) _ bs.length bs rfl (HO.out.alloc _) ⟨w1.heap.size, 0, none⟩ 1 1 [.int .u8 c] rfl rfl ?c1 ?c2 ?c3 ?c4 ?c5 ?_)
  case c1 => (intro j u hj; rw [Addr.add_lit]; exact (cell_topL (by simp)).trans (by simpa using hj))
  case c2 => (intro u hu; simp at hu; subst hu; rfl)
  case c3 => (unfold maxLen; omega)
  case c4 => omega
  case c5 => (simp; omega)
  intro v' w2 hown' hgrow _ hat
  have hlt : b < w1.heap.size := (Array.getElem?_eq_some_iff.1 HK.out).1
  have hb2 : w2.heap[b]? = some (.cells #[.pointer (some ⟨b, 0, none⟩), v] 127 (0, 0)) := by
    rw [hgrow.block b (by simp; omega) (fun e => hne e.symm), Lib.alloc_old w1 _ b hlt]
    exact HK.out
  have d0 : w2.cell? ⟨b, 0, none⟩ = some (.pointer (some ⟨b, 0, none⟩)) := cellsAt hb2 0
  have d1 : w2.cell? ⟨b, 1, none⟩ = some v := cellsAt hb2 1
  have f1 : w2.frozen? ⟨b, 1, none⟩ = false := Lib.frozen_of_heap hb2 1
  have HB2 : Hid (Below B w w2 ∧ Lib.OthersKept 5 (some b) w w2) := (show _ ∧ _ from ⟨(hb1.bel.alloc (by omega) _).grown hgrow (by simp; omega) (fun k hk => (HO.out.lt k hk).1), (hb1.oth.alloc _).grown hgrow (own_kind (HO.out.alloc _))⟩)
  have HKQ : Hid (Kq b w (w2.setCell ⟨b, 1, none⟩ v')) := hb1.kq.trans (Kq.step HK.out hb2 (fun k hk hkn => (hgrow.block k (by simp; omega) hkn).trans (Lib.alloc_old w1 _ k hk)) (hat.imp id (fun e k hk => by rw [e] at hk; simp at hk; omega))) hsz1
  have HK2 : Hid (w2.heap[b]? = some (.cells #[.pointer (some ⟨b, 0, none⟩), v] 127 (0, 0))) := hb2
  have HO2 : Hid (w2.ownsRow B 5 1 v' (bs.length + 1) (bs ++ [.int .u8 c])) := hown'
  obtain ⟨g, cap, hv⟩ : ∃ g cap, v' = .slice (some ⟨g, 0, none⟩) (bs.length + 1) cap := by
    rcases hown'.2 with ⟨_, h0⟩ | ⟨g, cap, cur, hv, _⟩
    · omega
    · exact ⟨g, cap, hv⟩
  subst hv
  clear hown' hgrow hb2 c0 c1 hb1 hat
  go_wp2_with fail
  go_ret
  refine ⟨rfl, ?_, ?_⟩
  · exact Lib.BuilderAt.put (T := 127) (e := 5) hB HK2.out (bs' := bs ++ [.int .u8 c]) (by simpa using HO2.out) (by decide)
  · exact ⟨HB2.out.1.setCell (p := ⟨b, 1, none⟩) hB _, HB2.out.2.setCell ⟨b, 1, none⟩ rfl _, HKQ.out⟩

end Go.Proofs.YtigffgjkakalfaaGreatDoor

/- Numbers in bytes. -/
namespace Go.Proofs.YtigffgjkakalfaaGreatDoor
open Go.RowKit

/-- A number's byte. -/
def bt (n : Int) (m : Nat) : Int := IntKind.u8.wrap (n / 2 ^ (8 * (m : Int)).toNat)
/-- A number in k bytes, the upper one first. -/
def nbs (n : Int) : Nat → List Value
  | 0 => []
  | k + 1 => .int .u8 (bt n k) :: nbs n k

set_option maxHeartbeats 1600000 in
set_option maxRecDepth 100000 in
theorem wnumber_any (B b nb : Nat) (n : Int) (bs : List Value) (w : World) (h : IsW B b bs w) (hnb : nb ≤ 8) (hlen : bs.length ≤ 100000) (hBw : B ≤ w.heap.size) :
    Calls Tryz.prog 101 #[.pointer (some ⟨b, 0, none⟩), .int .i64 nb, .int .i64 n] w fun e w' => e = .returned (.tuple #[]) ∧ IsW B b (bs ++ nbs n nb) w' ∧ Kp B b w w' := by
  have HI : Hid (IsW B b bs w) := h
  clear h
  go_enter Tryz.func101, Tryz.ntmps101
  go_wp2_with fail
  go_loopw [6] (fun i wr => ∃ (k : Nat) (D : List Value), k ≤ nb ∧ i = .int .i64 ((k : Int) - 1) ∧ D.length + k ≤ 200000 ∧ Hid (D ++ nbs n k = bs ++ nbs n nb) ∧ Hid (IsW B b D wr) ∧ Hid (Kp B b w wr)) (fun i _ => (intOf i + 1).toNat)
  case atStart => exact ⟨nb, bs, Nat.le_refl _, by go_num, by omega, rfl, HI, Kp.refl _ _ _⟩
  case round =>
    obtain ⟨k, D, hk, rfl, hD, HN, HW, HB⟩ := hrel
    cases k with
    | zero =>
      have HW2 : Hid (IsW B b (bs ++ nbs n nb) wr) := (show IsW _ _ _ _ by rw [← HN.out, show nbs n 0 = [] from rfl, List.append_nil]; exact HW.out)
      go_wp2_with fail
      simp [bodyPost, results, Tryz.results101]
      exact ⟨HW2.out, HB.out⟩
    | succ m =>
      have e1 : (((m + 1 : Nat) : Int) - 1) = (m : Int) := by omega
      rw [e1]
      have hm0 : (0 : Int) ≤ (m : Int) := by omega
      have hmul : IntKind.i64.wrap (8 * (m : Int)) = 8 * (m : Int) := by rw [IntKind.wrap_i64]; omega
      have hBr : B ≤ wr.heap.size := Nat.le_trans hBw HB.out.size
      have HWd : Hid (IsW B b D wr.drew) := HW.out
      go_wp2_with fail
      go_region_held3 (fun _ => True) (trivial) (first
        | (go_at_call 123; refine (writeByte_any B b D _ _ HW.out (by omega) hBr).mono ?_; rintro e w5 ⟨rfl, hw5, hb5⟩)
        | (go_at_call 123; refine (writeByte_any B b D _ _ HWd.out (by omega) hBr).mono ?_; rintro e w5 ⟨rfl, hw5, hb5⟩))
      have HW6 : Hid (IsW B b (D ++ [.int .u8 (bt n m)]) w5) := (show IsW _ _ _ _ from .inr hw5)
      have HB6 : Hid (Kp B b w w5) := HB.out.drew.trans hb5
      have HN6 : Hid ((D ++ [.int .u8 (bt n m)]) ++ nbs n m = bs ++ nbs n nb) := (show _ = _ by rw [← HN.out, List.append_assoc]; rfl)
      clear hw5 hb5
      go_wp2_with fail
      exact ⟨⟨m, D ++ [.int .u8 (bt n m)], by omega, by go_num, by simp; omega, HN6, HW6, HB6⟩, by simp [intOf]⟩

end Go.Proofs.YtigffgjkakalfaaGreatDoor

/- Texts written: WriteString, counted. -/
namespace Go.Proofs.YtigffgjkakalfaaGreatDoor
open Go.RowKit

/-- Where what is longer by a text lies. -/
theorem append_text_at {P : Program} {w W : World} {base n : Nat} {t u ty e : TypeId} {i : TypeInfo} {v v' : Value} {xs : List Value} {s : ByteArray} (ht : P.underlying t = some (.slice e)) (hu : P.underlying u = some .string) (hi : P.info? e = some i) (hz : i.zero = some (.int .u8 0)) (hsize : i.size = 1) (hby : i.bytes = 1)
    (hown : w.ownsRow base e 1 v n xs) (h63 : n + s.size ≤ maxLen) (hbytes : n + s.size ≤ 140737488355328) (hr : (Builtin.append_ #[t, u] ty #[v, .string s]).run P w = .ok v' W) (hnil : v' = .slice none 0 0 ↔ v = .slice none 0 0 ∧ s.size = 0) : v'.ownBlock = v.ownBlock ∨ v'.ownBlock = some w.heap.size := by
  have hm : n + s.size ≤ 9223372036854775807 := by simp only [maxLen] at h63; omega
  have hxl : xs.length = n := by simpa using hown.1
  rcases hown.2 with ⟨rfl, rfl⟩ | ⟨g, cap, cur, rfl, _, hg, _, _, hcs, _⟩
  · by_cases h0 : s.size = 0
    · exact .inl (by rw [hnil.2 ⟨rfl, h0⟩])
    · rw [run_append_nil_string (P := P) w t u ty e i (.int .u8 0) ht hu hi hz s (by omega) (by omega) (by rw [hby]; omega)] at hr
      injection hr with h1 _
      exact .inr (by rw [← h1]; rfl)
  · by_cases hroom : n + s.size ≤ cap
    · rw [Lib.run_append_room_string (P := P) w t u ty e i ht hu hi hsize g n cap cur hg s hroom (by have := hcs; omega)] at hr
      injection hr with h1 _
      exact .inl (by rw [← h1]; rfl)
    · rw [Lib.run_append_grow_string (P := P) w t u ty e i (.int .u8 0) ht hu hi hz ⟨g, 0, none⟩ n cap xs (by rw [hsize]; simpa using hxl) (hown.cells (g := g) rfl) s (by omega) (by omega) (by rw [hby]; exact growslice_fits (by omega) (by omega))] at hr
      injection hr with h1 _
      exact .inr (by rw [← h1]; rfl)

theorem wpList_append_text {P : Program} (w : World) {ops : Array Oper} {rest : List Oper} {o : Oper} {a : Act} {Q : Exit → Act → World → Prop} (hgd : o.guard = none) (sl x : Operand) (t u : TypeId)
    (ho : o.op = .call { callee := .builtin .append, args := #[sl, x], argTypes := #[t, u] }) (base : Nat) (e : TypeId) (i : TypeInfo) (ht : P.underlying t = some (.slice e)) (hu : P.underlying u = some .string) (hi : P.info? e = some i) (hz : i.zero = some (.int .u8 0)) (hsize : i.size = 1) (hby : i.bytes = 1)
    (v : Value) (n : Nat) (xs : List Value) (hs : a.eval sl = v) (hown : w.ownsRow base e 1 v n xs) (s : ByteArray) (hx : a.eval x = .string s) (h63 : n + s.size ≤ maxLen) (hbytes : n + s.size ≤ 140737488355328) (hbase : base ≤ w.heap.size)
    (h : ∀ v' w', w'.ownsRow base e 1 v' (n + s.size) (xs ++ Lib.strCells s) → w.grownBy w' v.ownBlock → (v'.ownBlock = v.ownBlock ∨ v'.ownBlock = some w.heap.size) → wpList P ops Q rest (a.put o.dst v') w') : wpList P ops Q (o :: rest) a w := by
  obtain ⟨v', w', hr, h2, h3, h4⟩ := Lib.run_append_own_string (P := P) w base t u o.type e i ht hu hi hz hsize hby v n xs hown s h63 hbytes hbase
  have h5 := append_text_at ht hu hi hz hsize hby hown h63 hbytes hr h4
  refine wpList_plain hgd fun K hK => ?_
  have hgo : K (a.put o.dst v') w' := hK _ _ (h v' w' h2 h3 h5)
  simp only [Oper.wp, execOp, ho, resolve, invoke, builtin, Sem.run_bind, Sem.run_pure, Result.andThen_ok, List.map_toArray, List.map_cons, List.map_nil, hs, hx, hr]
  exact hgo

set_option maxHeartbeats 2000000 in
set_option maxRecDepth 100000 in
theorem writeString_any (B b : Nat) (bs : List Value) (s : ByteArray) (w : World) (h : IsW B b bs w) (hlen : bs.length + s.size ≤ 1000000) (hBw : B ≤ w.heap.size) :
    Calls Tryz.prog 117 #[.pointer (some ⟨b, 0, none⟩), .string s] w fun e w' => e = .returned (.tuple #[.int .i64 s.size, .nilIface]) ∧ WAt B b (.pointer (some ⟨b, 0, none⟩)) (bs ++ Lib.strCells s) w' ∧ Kp B b w w' := by
  obtain ⟨i0, hi, hz0, hz1, hz2⟩ := info_parts Tryz.infoByte
  have HC : Hid (Calls Tryz.prog 134 #[.pointer (some ⟨b, 0, none⟩)] w fun e w' => e = .returned (.tuple #[]) ∧ WAt B b (.pointer (some ⟨b, 0, none⟩)) bs w' ∧ Kp B b w w') := copy_any B b bs w h
  clear h
  go_enter Tryz.func117, Tryz.ntmps117
  go_wp2_with fail
  refine HC.out.mono ?_
  rintro e w1 ⟨rfl, h1, hb1⟩
  obtain ⟨hB, v, hbk, hown, hne⟩ := h1
  have c0 : w1.cell? ⟨b, 0, none⟩ = some (.pointer (some ⟨b, 0, none⟩)) := cellsAt hbk 0
  have c1 : w1.cell? ⟨b, 1, none⟩ = some v := cellsAt hbk 1
  have hsz1 := hb1.size
  have HO : Hid (w1.ownsRow B 5 1 v bs.length bs) := hown
  have HK : Hid (w1.heap[b]? = some (.cells #[.pointer (some ⟨b, 0, none⟩), v] 127 (0, 0))) := hbk
  clear hown hbk
  go_wp2_with (at_builtin; refine wpList_append_text _ rfl _ _ 117 9 rfl B 5 i0 Tryz.underlying117 Tryz.underlying9 hi hz0 hz1 hz2 _ bs.length bs rfl HO.out s rfl ?c3 ?c4 ?c5 ?_)
  case c3 => (unfold maxLen; omega)
  case c4 => omega
  case c5 => omega
  intro v' w2 hown' hgrow hat
  have hlt : b < w1.heap.size := (Array.getElem?_eq_some_iff.1 HK.out).1
  have hb2 : w2.heap[b]? = some (.cells #[.pointer (some ⟨b, 0, none⟩), v] 127 (0, 0)) := by
    rw [hgrow.block b hlt (fun e => hne e.symm)]
    exact HK.out
  have d0 : w2.cell? ⟨b, 0, none⟩ = some (.pointer (some ⟨b, 0, none⟩)) := cellsAt hb2 0
  have d1 : w2.cell? ⟨b, 1, none⟩ = some v := cellsAt hb2 1
  have f1 : w2.frozen? ⟨b, 1, none⟩ = false := Lib.frozen_of_heap hb2 1
  have HB2 : Hid (Below B w w2 ∧ Lib.OthersKept 5 (some b) w w2) := (show _ ∧ _ from ⟨hb1.bel.grown hgrow (by omega) (fun k hk => (HO.out.lt k hk).1), hb1.oth.grown hgrow (own_kind HO.out)⟩)
  have HKQ : Hid (Kq b w (w2.setCell ⟨b, 1, none⟩ v')) := hb1.kq.trans (Kq.step HK.out hb2 (fun k hk hkn => hgrow.block k hk hkn) (hat.imp id (fun e k hk => by rw [e] at hk; simp at hk; omega))) hsz1
  have HK2 : Hid (w2.heap[b]? = some (.cells #[.pointer (some ⟨b, 0, none⟩), v] 127 (0, 0))) := hb2
  have HO2 : Hid (w2.ownsRow B 5 1 v' (bs ++ Lib.strCells s).length (bs ++ Lib.strCells s)) := (show World.ownsRow _ _ _ _ _ _ _ by simpa [Lib.strCells_length] using hown')
  obtain ⟨ao, n', cap, hv⟩ : ∃ ao n' cap, v' = .slice ao n' cap := by
    rcases hown'.2 with ⟨hv, _⟩ | ⟨g, cap, cur, hv, _⟩
    · exact ⟨_, _, _, hv⟩
    · exact ⟨_, _, _, hv⟩
  subst hv
  clear hown' hgrow hb2 c0 c1 hb1 hat
  go_wp2_with fail
  go_ret2
  refine ⟨rfl, ?_, ?_⟩
  · exact Lib.BuilderAt.put (T := 127) (e := 5) hB HK2.out (bs' := bs ++ Lib.strCells s) HO2.out (by decide)
  · exact ⟨HB2.out.1.setCell (p := ⟨b, 1, none⟩) hB _, HB2.out.2.setCell ⟨b, 1, none⟩ rfl _, HKQ.out⟩

theorem nbs_len (n : Int) : ∀ k, (nbs n k).length = k
  | 0 => rfl
  | k + 1 => by simp [nbs, nbs_len n k]

set_option maxHeartbeats 800000 in
set_option maxRecDepth 100000 in
/-- A text behind its length. -/
theorem counted_any (B b : Nat) (bs : List Value) (s : ByteArray) (w : World) (h : IsW B b bs w) (hlen : bs.length ≤ 90000) (hs : s.size ≤ 1000) (hBw : B ≤ w.heap.size) :
    Calls Tryz.prog 125 #[.pointer (some ⟨b, 0, none⟩), .string s] w fun e w' => e = .returned (.tuple #[]) ∧ IsW B b (bs ++ (nbs s.size 1 ++ Lib.strCells s)) w' ∧ Kp B b w w' := by
  have HI : Hid (IsW B b bs w) := h
  clear h
  go_enter Tryz.func125, Tryz.ntmps125
  go_wp2_with fail
  refine (wnumber_any B b 1 s.size bs w HI.out (by omega) (by omega) hBw).mono ?_
  rintro e w1 ⟨rfl, h1, hb1⟩
  have hz1 := hb1.size
  go_wp2_with fail
  refine (writeString_any B b _ s w1 h1 (by rw [List.length_append, nbs_len]; omega) (by omega)).mono ?_
  rintro e w2 ⟨rfl, h2, hb2⟩
  have HW2 : Hid (IsW B b (bs ++ (nbs s.size 1 ++ Lib.strCells s)) w2) := (show IsW _ _ _ _ by rw [← List.append_assoc]; exact .inr h2)
  have HB2 : Hid (Kp B b w w2) := hb1.trans hb2
  clear h1 hb1 h2 hb2
  go_wp2_with fail
  simp [bodyPost, results, Tryz.results125]
  exact ⟨HW2.out, HB2.out⟩

end Go.Proofs.YtigffgjkakalfaaGreatDoor

