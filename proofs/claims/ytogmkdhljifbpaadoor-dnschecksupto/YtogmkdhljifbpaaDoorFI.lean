/- A name whose labels stand one behind another is read. -/
import Derived.Test.YtogmkdhljifbpaaDoorFH
import Derived.Test.YtogmkdhljifbpaaDoorSP
import Derived.Test.YtogmkdhljifbpaaDoorShelfC
import Derived.OwnWalk
namespace Go.Proofs.YtogmkdhljifbpaaDoor
open Go.RowKit Go.Lib

/-- These labels stand in t from a on, and a nought behind them. -/
def Stand (t : ByteArray) : Nat → List ByteArray → Prop
  | a, [] => a + 1 ≤ t.size ∧ rnum t a 1 = 0
  | a, l :: r => rnum t a 1 = l.size ∧ a + 1 + l.size ≤ t.size ∧ t.extract (a + 1) (a + 1 + l.size) = l ∧ Stand t (a + 1 + l.size) r
/-- Where the nought stands. -/
def behind : Nat → List ByteArray → Nat
  | a, [] => a
  | a, l :: r => behind (a + 1 + l.size) r
abbrev bts (x : ByteArray) : List UInt8 := x.data.toList
def lenOf : Value → Nat
  | .slice _ n _ => n
  | _ => 0

theorem lab_low {l : ByteArray} (h : labB l = true) : ∀ j, j < l.size → 90 < (l.data.toList.getD j 0).toNat ∨ (l.data.toList.getD j 0).toNat < 65 := by
  intro j hj
  unfold labB at h
  simp only [Bool.and_eq_true, List.all_eq_true] at h
  have hj2 : j < l.data.toList.length := by simpa using hj
  have h2 := h.2 (l.data.toList[j]) (List.getElem_mem hj2)
  rw [List.getD_eq_getElem?_getD, List.getElem?_eq_getElem hj2]
  revert h2
  generalize l.data.toList[j] = c
  intro h2
  simp [lbB] at h2
  simp
  omega
theorem lab_size {l : ByteArray} (h : labB l = true) : 1 ≤ l.size ∧ l.size ≤ 30 := by
  unfold labB at h
  simp only [Bool.and_eq_true, decide_eq_true_eq] at h
  exact h.1
theorem join_jn2 : ∀ (xs : List (List UInt8)), Lib.join xs [46] = jn xs
  | [] => rfl
  | [x] => by simp [Lib.join, jn]
  | x :: y :: r => by
    have ih := join_jn2 (y :: r)
    simp [Lib.join, jn] at ih ⊢
    first | exact ih | simp [ih]

theorem own_len {base : Nat} {w : World} {v : Value} {l : List ByteArray} (h : OwnS base w v l) : lenOf v = l.length := by
  rcases h.form with ⟨rfl, rfl⟩ | ⟨g, c, rfl, _⟩
  · rfl
  · rfl

theorem own_shape {base : Nat} {w : World} {v : Value} {l : List ByteArray} (h : OwnS base w v l) : ∃ p c, v = .slice p l.length c := by
  rcases h.form with ⟨rfl, rfl⟩ | ⟨g, c, rfl, _⟩
  · exact ⟨none, 0, rfl⟩
  · exact ⟨_, c, rfl⟩

theorem Rd.belowed {g : Nat} {w w1 w2 : World} (h : Rd g w w1) (hb : Below w.heap.size w1 w2) : Rd g w w2 :=
  ⟨hb.os.trans h.os, hb.tape.trans h.tape, hb.output.trans h.output, Nat.le_trans h.size hb.size, fun k hk hg => (hb.block k hk).trans (h.block k hk hg)⟩

/-- Some texts joined. -/
theorem join_own (base : Nat) (ls : List ByteArray) (W : World) (v : Value) (ho : OwnS base W v ls) (hne : ls ≠ []) (hn : ls.length ≤ 1000) (hz : (jn (ls.map bts)).length ≤ 100000) :
    Calls Tryd.prog 71 #[v, .string ⟨#[46]⟩] W fun e w' => e = .returned (.string (mk (jn (ls.map bts)))) ∧ Below W.heap.size W w' := by
  rcases ho.form with ⟨_, h0⟩ | ⟨g, c, rfl, hc, _, hg, hcell⟩
  · exact absurd h0 hne
  · have h3 := Tryd.strings_Join g 0 c ls ⟨#[46]⟩ W (fun j x hj => by
      obtain ⟨hj1, hj2⟩ := List.getElem?_eq_some_iff.1 hj
      rw [Nat.zero_add, hcell j hj1]
      simp [List.getD, hj1, hj2]) hg (by omega) hc (by
      rw [show (ByteArray.mk #[46]).data.toList = [46] from rfl, join_jn2]
      exact Nat.le_trans hz (by omega))
    rw [show (ByteArray.mk #[46]).data.toList = [46] from rfl, join_jn2] at h3
    exact h3

theorem ext_drewN (w : World) (m : Nat) : w.Extends (w.drewN m) := ⟨rfl, rfl, rfl, Nat.le_refl _, fun _ _ => rfl, fun _ _ => rfl, fun _ _ => rfl⟩
theorem own_fin {g base : Nat} {wr w2 : World} {lv : Value} {D ls : List ByteArray} (h : Hid (Rd g wr w2)) (ho : Hid (OwnS base wr lv D)) (he : Hid (ls = D ++ [])) (hg : g < base) : Hid (OwnS base w2 lv ls) := (show OwnS base w2 lv ls by
  have h := h.out.own ho.out hg
  rw [he.out, List.append_nil]
  exact h)

theorem own_step {g base : Nat} {wr w2 : World} {lv : Value} {D : List ByteArray} (h : Hid (Rd g wr w2)) (ho : Hid (OwnS base wr lv D)) (hg : g < base) : Hid (OwnS base w2 lv D) := h.out.own ho.out hg

set_option maxHeartbeats 1600000 in
set_option maxRecDepth 100000 in
theorem name_ok (g a : Nat) (ls : List ByteArray) (t : ByteArray) (w : World) (h : IsR g t a w) (hs : t.size ≤ 1000) (hst : Stand t a ls) (hne : ls ≠ []) (hlab : ∀ l ∈ ls, labB l = true) (hn : ls.length ≤ 8) (hz : (jn (ls.map bts)).length ≤ 100000) :
    Calls Tryd.prog 59 #[.pointer (some ⟨g, 0, none⟩)] w fun e w' => e = .returned (.string (mk (jn (ls.map bts)))) ∧ Hid (IsR g t (behind a ls + 1) w') ∧ Hid (Rd g w w') := by
  obtain ⟨i0, hi0, hz0, hzs, hzb⟩ := info_parts Tryd.info9
  have c1 := h.c1
  have hgw := h.hg
  have HI : Hid (IsR g t a w) := h
  have HST : Hid (Stand t a ls) := hst
  have HLB : Hid (∀ l ∈ ls, labB l = true) := hlab
  have HJ : Hid (∀ W v, OwnS w.heap.size W v ls → Calls Tryd.prog 71 #[v, .string ⟨#[46]⟩] W fun e w' => e = .returned (.string (mk (jn (ls.map bts)))) ∧ Below W.heap.size W w') := fun W v ho => join_own _ ls W v ho hne (by omega) hz
  have HN : Hid (ls.length ≤ 8) := hn
  clear h hst hlab hne hz hn
  generalize mk (jn (ls.map bts)) = R at *
  go_enter Tryd.func59, Tryd.ntmps59
  go_wp2_with fail
  go_quiet (fail)
  go_wp2_with fail
  go_loopw [3, 4, 5] (fun lv pv bv wr => pv = .pointer (some ⟨g, 0, none⟩) ∧ bv = .int .i64 a ∧ ∃ (D r : List ByteArray) (b : Nat), Hid (ls = D ++ r) ∧ Hid (Stand t b r) ∧ Hid (behind b r = behind a ls) ∧ Hid (IsR g t b wr) ∧ Hid (Rd g w wr) ∧ Hid (OwnS w.heap.size wr lv D)) (fun lv _ _ _ => ls.length - lenOf lv)
  case atStart => exact ⟨rfl, rfl, [], ls, a, rfl, HST, rfl, HI.out.ext (ext_drewN _ _), (Rd.ext (ext_drewN _ _) : Rd g w _), ownS_nil _ _⟩
  case round =>
    obtain ⟨rfl, rfl, D, r, b, HE, HS, HH, HR, HD, HO⟩ := hrel
    have hsz := HD.out.size
    rcases r with _ | ⟨l, r⟩
    · have HP : Hid (Calls Tryd.prog 70 #[.pointer (some ⟨g, 0, none⟩)] wr fun e w' => e = .returned (.int .u8 0) ∧ Hid (IsR g t b w') ∧ Hid (Rd g wr w')) := (show Calls _ _ _ _ _ by
        have h := peek_r g b t wr HR.out HS.out.1
        rw [HS.out.2] at h
        exact h)
      go_wp2_with fail
      refine HP.out.mono ?_
      rintro e w1 ⟨rfl, HR1, HD1⟩
      go_wp2_with fail
      refine (expect_r g b 1 0 t w1 HR1.out hs HS.out.1 (by omega) HS.out.2).mono ?_
      rintro e w2 ⟨rfl, HR2, HD2⟩
      have HX : Hid (Rd g wr w2) := HD1.out.trans HD2.out
      have HO2 := own_fin HX HO HE hgw
      go_wp2_with fail
      refine (HJ.out _ _ HO2.out).mono ?_
      rintro e w3 ⟨rfl, hb3⟩
      have HB3 : Hid (Below w2.heap.size w2 w3) := hb3
      clear hb3
      go_wp2_with fail
      go_ret
      refine ⟨rfl, ?_, ?_⟩
      · rw [← HH.out]
        exact HR2.out.below HB3.out HR2.out.hg
      · exact (HD.out.trans HX.out).trans (Rd.of_below HB3.out (Nat.le_refl _))
    · have hl : labB l = true := HLB.out l (by rw [HE.out]; simp)
      have hl30 := lab_size hl
      have HS1 : Hid (rnum t b 1 = l.size) := HS.out.1
      have HS2 : Hid (b + 1 + l.size ≤ t.size) := HS.out.2.1
      have HS3 : Hid (t.extract (b + 1) (b + 1 + l.size) = l) := HS.out.2.2.1
      have HS4 : Hid (Stand t (b + 1 + l.size) r) := HS.out.2.2.2
      have hDn : D.length + 1 ≤ ls.length := by rw [HE.out]; simp
      have hD8 : D.length < 8 := by have := HN.out; omega
      have HP : Hid (Calls Tryd.prog 70 #[.pointer (some ⟨g, 0, none⟩)] wr fun e w' => e = .returned (.int .u8 (l.size : Nat)) ∧ Hid (IsR g t b w') ∧ Hid (Rd g wr w')) := (show Calls _ _ _ _ _ by
        have h := peek_r g b t wr HR.out (by have := HS2.out; omega)
        rw [HS1.out] at h
        exact h)
      have hm0 : ((l.size : Int) == 0) = false := beq_eq_false_iff_ne.2 (by omega)
      have hm1 : ¬ (l.size : Int) = 0 := by omega
      have hm2 : decide ((192 : Int) ≤ (l.size : Int)) = false := by simp; omega
      have HLL : Hid (labB l = true) := hl
      have hls : l.size ≤ maxLen := by unfold maxLen; omega
      clear HS hl
      go_wp2_with fail
      refine HP.out.mono ?_
      rintro e w1 ⟨rfl, HR1, HD1⟩
      go_wp2_with fail
      refine (counted_r g b l.size t l w1 HR1.out hs HS1.out HS2.out HS3.out).mono ?_
      rintro e w2 ⟨rfl, HR2, HD2⟩
      go_wp2_with fail
      refine (small_same l w2 (by omega) (lab_low HLL.out)).mono ?_
      rintro e w3 ⟨rfl, hx3⟩
      have HR3 : Hid (IsR g t (b + 1 + l.size) w3) := HR2.out.ext hx3
      have HD3 : Hid (Rd g wr w3) := (HD1.out.trans HD2.out).trans (Rd.ext hx3)
      have HO3 := own_step HD3 HO hgw
      have HD4 : Hid (Rd g w w3) := HD.out.trans HD3.out
      have hsz3 := HD4.out.size
      clear hx3 HD3 HD1 HD2 HR1 HR2 HO HD HR HP
      obtain ⟨p, c, hv⟩ := own_shape HO3.out
      subst hv
      have hd8 : decide ((D.length : Int) < 8) = true := by simp; omega
      go_wp2_with fail
      refine (label_any l w3 hls).mono ?_
      rintro e w4 ⟨rfl, hw4⟩
      subst hw4
      rw [HLL.out]
      go_wp2_with fail
      refine (need_ok _ _).mono ?_
      rintro e w5 ⟨rfl, hw5⟩
      subst hw5
      go_wp2_with (at_builtin; refine wpList_append_own _ rfl _ _ 46 rfl w.heap.size 9 i0 _ 1 16 Tryd.underlying46 hi0 hz0 hzs hzb rfl (by omega) _ D.length (D.map Value.string) rfl ?hown ⟨w5.heap.size, 0, none⟩ 1 1 [.string l] rfl rfl ?hnews (strs_one [_]) ?h63 ?hbytes ?hbase ?_)
      case hown => exact HO3.out.below ((Below.refl _ _).alloc (Nat.le_refl _) _)
      case hnews => (intro j u hj; rw [Addr.add_lit]; exact (cell_topL (by simp)).trans (by simpa using hj))
      case h63 => (unfold maxLen; omega)
      case hbytes => omega
      case hbase => (simp; omega)
      intro v' w6 r1 r2 r3
      have hB6 : Below w.heap.size w5 w6 := ((Below.refl _ _).alloc hsz3 _).grown r2 (by simp; omega) (fun j hj => (HO3.out.lt j hj).1)
      have HDX : Hid (Rd g w w6) := HD4.out.belowed hB6
      have HRX : Hid (IsR g t (b + 1 + l.size) w6) := HR3.out.below hB6 hgw
      have HOX : Hid (OwnS w.heap.size w6 v' (D ++ [l])) := ownS_snoc (l := D) r1
      have HEX : Hid (ls = (D ++ [l]) ++ r) := (show ls = _ by rw [HE.out]; simp)
      have HHX : Hid (behind (b + 1 + l.size) r = behind a ls) := HH
      clear r1 r2 r3 hB6 HO3 HD4 HR3 HE HH
      go_wp2_with fail
      refine ⟨⟨rfl, rfl, D ++ [l], r, b + 1 + l.size, HEX, HS4, HHX, HRX, HDX, HOX⟩, ?_⟩
      rw [own_len HOX.out, show lenOf (Value.slice p D.length c) = D.length from rfl, List.length_append, List.length_singleton]
      omega

end Go.Proofs.YtogmkdhljifbpaaDoor
