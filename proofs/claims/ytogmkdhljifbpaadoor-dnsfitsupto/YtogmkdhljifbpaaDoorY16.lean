/- FH, FI, FJ -/
import Derived.Test.YtogmkdhljifbpaaDoorY15
import Derived.Test.YtogmkdhljifbpaaDoorY2
import Derived.OwnWalk
import Derived.Test.YtogmkdhljifbpaaDoorY3
import Derived.Lib.SmallJoins
import Derived.Deep.RegionHeld3
import Derived.StillTactics
/- The reader's moves, and what stays beside it (Rd). -/
namespace Go.Proofs.YtogmkdhljifbpaaDoor
open Go.RowKit

/-- All that was there stays, the reader at g aside. -/
structure Rd (g : Nat) (w w' : World) : Prop where
  os : w'.os = w.os
  tape : w'.tape = w.tape
  output : w'.output = w.output
  size : w.heap.size ≤ w'.heap.size
  block : ∀ k : Nat, k < w.heap.size → k ≠ g → w'.heap[k]? = w.heap[k]?

theorem Rd.refl (g : Nat) (w : World) : Rd g w w := ⟨rfl, rfl, rfl, Nat.le_refl _, fun _ _ _ => rfl⟩
theorem Rd.trans {g : Nat} {w w1 w2 : World} (h : Rd g w w1) (h2 : Rd g w1 w2) : Rd g w w2 :=
  ⟨h2.os.trans h.os, h2.tape.trans h.tape, h2.output.trans h.output, Nat.le_trans h.size h2.size, fun k hk hg => (h2.block k (Nat.lt_of_lt_of_le hk h.size) hg).trans (h.block k hk hg)⟩
theorem Rd.ext {g : Nat} {w w' : World} (h : w.Extends w') : Rd g w w' := ⟨h.os, h.tape, h.output, h.size, fun k hk _ => h.block k hk⟩
theorem Rd.moved {g : Nat} {v : Value} {w w' : World} (h : (w.setCell ⟨g, 1, none⟩ v).Extends w') : Rd g w w' :=
  ⟨h.os, h.tape, h.output, by have := h.size; simpa using this, fun k hk hg => (h.block k (by simpa using hk)).trans (Below.heap_setCell w _ _ k hg)⟩
theorem Rd.below {g B : Nat} {w w' : World} (h : Rd g w w') (hb : B ≤ g) (hB : B ≤ w.heap.size) : Below B w w' :=
  ⟨h.os, h.tape, h.output, h.size, fun k hk => h.block k (by omega) (by omega)⟩
theorem Rd.of_below {g B : Nat} {w w' : World} (h : Below B w w') (hb : w.heap.size ≤ B) : Rd g w w' :=
  ⟨h.os, h.tape, h.output, h.size, fun k hk _ => h.block k (by omega)⟩
theorem Rd.own {g base : Nat} {w w' : World} {v : Value} {l : List ByteArray} (h : Rd g w w') (ho : OwnS base w v l) (hg : g < base) : OwnS base w' v l := by
  rcases ho.2 with ⟨rfl, h0⟩ | ⟨k, c, cur, rfl, hbg, hk, hnc, hcm, hcs, htake⟩
  · exact ⟨ho.1, .inl ⟨rfl, h0⟩⟩
  · have hlt : k < w.heap.size := (Array.getElem?_eq_some_iff.1 hk).1
    exact ⟨ho.1, .inr ⟨k, c, cur, rfl, hbg, (h.block k hlt (by omega)).trans hk, hnc, hcm, hcs, htake⟩⟩
theorem IsR.ext {g a : Nat} {t : ByteArray} {w w' : World} (h : IsR g t a w) (hx : w.Extends w') : IsR g t a w' where
  c0 := hx.cell_of h.c0
  c1 := hx.cell_of h.c1
  hz := by rw [hx.frozen _ h.hg]; exact h.hz
  hg := Nat.lt_of_lt_of_le h.hg hx.size
theorem IsR.below {g a B : Nat} {t : ByteArray} {w w' : World} (h : IsR g t a w) (hx : Below B w w') (hB : g < B) : IsR g t a w' where
  c0 := by have := h.c0; simp only [World.cell?, hx.block g hB] at this ⊢; exact this
  c1 := by have := h.c1; simp only [World.cell?, hx.block g hB] at this ⊢; exact this
  hz := by have := h.hz; simp only [World.frozen?, hx.block g hB] at this ⊢; exact this
  hg := Nat.lt_of_lt_of_le h.hg hx.size

theorem rnum1 {t : ByteArray} {a : Nat} (h : a < t.size) : rnum t a 1 = t[a].toNat := by
  have h2 : t.data[a]? = some t[a] := by
    have : a < t.data.size := h
    rw [Array.getElem?_eq_getElem this]; rfl
  simp [rnum, h2]

/-- A number is read. -/
theorem number_r (g a n : Nat) (t : ByteArray) (w : World) (h : IsR g t a w) (hs : t.size ≤ 1000) (han : a + n ≤ t.size) (hn : n ≤ 4) :
    Calls Tryd.prog 56 #[.pointer (some ⟨g, 0, none⟩), .int .i64 n] w fun e w' => e = .returned (.int .i64 (rnum t a n)) ∧ Hid (IsR g t (a + n) w') ∧ Hid (Rd g w w') := by
  refine (rnumber_ok g a n t w h.c0 h.c1 h.hz hs han hn).mono ?_
  rintro e w' ⟨rfl, hx⟩
  rw [← Int.natCast_add] at hx
  exact ⟨rfl, h.move hx, Rd.moved hx⟩
theorem expect_r (g a n x : Nat) (t : ByteArray) (w : World) (h : IsR g t a w) (hs : t.size ≤ 1000) (han : a + n ≤ t.size) (hn : n ≤ 4) (hx : rnum t a n = x) :
    Calls Tryd.prog 58 #[.pointer (some ⟨g, 0, none⟩), .int .i64 n, .int .i64 x] w fun e w' => e = .returned (.tuple #[]) ∧ Hid (IsR g t (a + n) w') ∧ Hid (Rd g w w') := by
  subst hx
  refine (expect_ok g a n t w h hs han hn).mono ?_
  rintro e w' ⟨rfl, hx⟩
  exact ⟨rfl, h.move hx, Rd.moved hx⟩
theorem counted_r (g a k : Nat) (t l : ByteArray) (w : World) (h : IsR g t a w) (hs : t.size ≤ 1000) (hk : rnum t a 1 = k) (han : a + 1 + k ≤ t.size) (hl : t.extract (a + 1) (a + 1 + k) = l) :
    Calls Tryd.prog 73 #[.pointer (some ⟨g, 0, none⟩)] w fun e w' => e = .returned (.string l) ∧ Hid (IsR g t (a + 1 + k) w') ∧ Hid (Rd g w w') := by
  subst hk
  subst hl
  refine (counted_ok g a t w h hs han).mono ?_
  rintro e w' ⟨rfl, w1, hx, hy⟩
  exact ⟨rfl, (h.move hx).move hy, (Rd.moved hx).trans (Rd.moved hy)⟩
theorem peek_r (g a : Nat) (t : ByteArray) (w : World) (h : IsR g t a w) (ha : a < t.size) :
    Calls Tryd.prog 70 #[.pointer (some ⟨g, 0, none⟩)] w fun e w' => e = .returned (.int .u8 (rnum t a 1 : Nat)) ∧ Hid (IsR g t a w') ∧ Hid (Rd g w w') := by
  refine (peek_ok g a t w h.c0 h.c1 ha).mono ?_
  rintro e w' ⟨rfl, m, rfl⟩
  rw [rnum1 ha]
  have hx : w.Extends (w.drew.drewN m) := ⟨rfl, rfl, rfl, Nat.le_refl _, fun _ _ => rfl, fun _ _ => rfl, fun _ _ => rfl⟩
  exact ⟨rfl, h.ext hx, Rd.ext hx⟩

end Go.Proofs.YtogmkdhljifbpaaDoor

/- A name whose labels stand one behind another is read. -/
namespace Go.Proofs.YtogmkdhljifbpaaDoor
open Go.RowKit Go.Lib

/-- These labels stand in t from a on, and a nought behind them. -/
def Stand (t : ByteArray) : Nat → List ByteArray → Prop
  | a, [] => a + 1 ≤ t.size ∧ rnum t a 1 = 0
  | a, l :: r => rnum t a 1 = l.size ∧ a + 1 + l.size ≤ t.size ∧ t.extract (a + 1) (a + 1 + l.size) = l ∧ Stand t (a + 1 + l.size) r
/-- Where the nought stands. -/
def behind : Nat → List ByteArray → Nat
  | a, [] => a
  | a, l :: r => behind (a + 1 + l.size) r
abbrev bts (x : ByteArray) : List UInt8 := x.data.toList
def lenOf : Value → Nat
  | .slice _ n _ => n
  | _ => 0

theorem lab_low {l : ByteArray} (h : labB l = true) : ∀ j, j < l.size → 90 < (l.data.toList.getD j 0).toNat ∨ (l.data.toList.getD j 0).toNat < 65 := by
  intro j hj
  unfold labB at h
  simp only [Bool.and_eq_true, List.all_eq_true] at h
  have hj2 : j < l.data.toList.length := by simpa using hj
  have h2 := h.2 (l.data.toList[j]) (List.getElem_mem hj2)
  rw [List.getD_eq_getElem?_getD, List.getElem?_eq_getElem hj2]
  revert h2
  generalize l.data.toList[j] = c
  intro h2
  simp [lbB] at h2
  simp
  omega
theorem lab_size {l : ByteArray} (h : labB l = true) : 1 ≤ l.size ∧ l.size ≤ 30 := by
  unfold labB at h
  simp only [Bool.and_eq_true, decide_eq_true_eq] at h
  exact h.1
theorem join_jn2 : ∀ (xs : List (List UInt8)), Lib.join xs [46] = jn xs
  | [] => rfl
  | [x] => by simp [Lib.join, jn]
  | x :: y :: r => by
    have ih := join_jn2 (y :: r)
    simp [Lib.join, jn] at ih ⊢
    first | exact ih | simp [ih]

theorem own_len {base : Nat} {w : World} {v : Value} {l : List ByteArray} (h : OwnS base w v l) : lenOf v = l.length := by
  rcases h.form with ⟨rfl, rfl⟩ | ⟨g, c, rfl, _⟩
  · rfl
  · rfl

theorem own_shape {base : Nat} {w : World} {v : Value} {l : List ByteArray} (h : OwnS base w v l) : ∃ p c, v = .slice p l.length c := by
  rcases h.form with ⟨rfl, rfl⟩ | ⟨g, c, rfl, _⟩
  · exact ⟨none, 0, rfl⟩
  · exact ⟨_, c, rfl⟩

theorem Rd.belowed {g : Nat} {w w1 w2 : World} (h : Rd g w w1) (hb : Below w.heap.size w1 w2) : Rd g w w2 :=
  ⟨hb.os.trans h.os, hb.tape.trans h.tape, hb.output.trans h.output, Nat.le_trans h.size hb.size, fun k hk hg => (hb.block k hk).trans (h.block k hk hg)⟩

/-- Some texts joined. -/
theorem join_own (base : Nat) (ls : List ByteArray) (W : World) (v : Value) (ho : OwnS base W v ls) (hne : ls ≠ []) (hn : ls.length ≤ 1000) (hz : (jn (ls.map bts)).length ≤ 100000) :
    Calls Tryd.prog 71 #[v, .string ⟨#[46]⟩] W fun e w' => e = .returned (.string (mk (jn (ls.map bts)))) ∧ Below W.heap.size W w' := by
  rcases ho.form with ⟨_, h0⟩ | ⟨g, c, rfl, hc, _, hg, hcell⟩
  · exact absurd h0 hne
  · have h3 := Tryd.strings_Join g 0 c ls ⟨#[46]⟩ W (fun j x hj => by
      obtain ⟨hj1, hj2⟩ := List.getElem?_eq_some_iff.1 hj
      rw [Nat.zero_add, hcell j hj1]
      simp [List.getD, hj1, hj2]) hg (by omega) hc (by
      rw [show (ByteArray.mk #[46]).data.toList = [46] from rfl, join_jn2]
      exact Nat.le_trans hz (by omega))
    rw [show (ByteArray.mk #[46]).data.toList = [46] from rfl, join_jn2] at h3
    exact h3

theorem ext_drewN (w : World) (m : Nat) : w.Extends (w.drewN m) := ⟨rfl, rfl, rfl, Nat.le_refl _, fun _ _ => rfl, fun _ _ => rfl, fun _ _ => rfl⟩
theorem own_fin {g base : Nat} {wr w2 : World} {lv : Value} {D ls : List ByteArray} (h : Hid (Rd g wr w2)) (ho : Hid (OwnS base wr lv D)) (he : Hid (ls = D ++ [])) (hg : g < base) : Hid (OwnS base w2 lv ls) := (show OwnS base w2 lv ls by
  have h := h.out.own ho.out hg
  rw [he.out, List.append_nil]
  exact h)

theorem own_step {g base : Nat} {wr w2 : World} {lv : Value} {D : List ByteArray} (h : Hid (Rd g wr w2)) (ho : Hid (OwnS base wr lv D)) (hg : g < base) : Hid (OwnS base w2 lv D) := h.out.own ho.out hg

set_option maxHeartbeats 1600000 in
set_option maxRecDepth 100000 in
theorem name_ok (g a : Nat) (ls : List ByteArray) (t : ByteArray) (w : World) (h : IsR g t a w) (hs : t.size ≤ 1000) (hst : Stand t a ls) (hne : ls ≠ []) (hlab : ∀ l ∈ ls, labB l = true) (hn : ls.length ≤ 8) (hz : (jn (ls.map bts)).length ≤ 100000) :
    Calls Tryd.prog 59 #[.pointer (some ⟨g, 0, none⟩)] w fun e w' => e = .returned (.string (mk (jn (ls.map bts)))) ∧ Hid (IsR g t (behind a ls + 1) w') ∧ Hid (Rd g w w') := by
  obtain ⟨i0, hi0, hz0, hzs, hzb⟩ := info_parts Tryd.info9
  have c1 := h.c1
  have hgw := h.hg
  have HI : Hid (IsR g t a w) := h
  have HST : Hid (Stand t a ls) := hst
  have HLB : Hid (∀ l ∈ ls, labB l = true) := hlab
  have HJ : Hid (∀ W v, OwnS w.heap.size W v ls → Calls Tryd.prog 71 #[v, .string ⟨#[46]⟩] W fun e w' => e = .returned (.string (mk (jn (ls.map bts)))) ∧ Below W.heap.size W w') := fun W v ho => join_own _ ls W v ho hne (by omega) hz
  have HN : Hid (ls.length ≤ 8) := hn
  clear h hst hlab hne hz hn
  generalize mk (jn (ls.map bts)) = R at *
  go_enter Tryd.func59, Tryd.ntmps59
  go_wp2_with fail
  go_quiet (fail)
  go_wp2_with fail
  go_loopw [3, 4, 5] (fun lv pv bv wr => pv = .pointer (some ⟨g, 0, none⟩) ∧ bv = .int .i64 a ∧ ∃ (D r : List ByteArray) (b : Nat), Hid (ls = D ++ r) ∧ Hid (Stand t b r) ∧ Hid (behind b r = behind a ls) ∧ Hid (IsR g t b wr) ∧ Hid (Rd g w wr) ∧ Hid (OwnS w.heap.size wr lv D)) (fun lv _ _ _ => ls.length - lenOf lv)
  case atStart => exact ⟨rfl, rfl, [], ls, a, rfl, HST, rfl, HI.out.ext (ext_drewN _ _), (Rd.ext (ext_drewN _ _) : Rd g w _), ownS_nil _ _⟩
  case round =>
    obtain ⟨rfl, rfl, D, r, b, HE, HS, HH, HR, HD, HO⟩ := hrel
    have hsz := HD.out.size
    rcases r with _ | ⟨l, r⟩
    · have HP : Hid (Calls Tryd.prog 70 #[.pointer (some ⟨g, 0, none⟩)] wr fun e w' => e = .returned (.int .u8 0) ∧ Hid (IsR g t b w') ∧ Hid (Rd g wr w')) := (show Calls _ _ _ _ _ by
        have h := peek_r g b t wr HR.out HS.out.1
        rw [HS.out.2] at h
        exact h)
      go_wp2_with fail
      refine HP.out.mono ?_
      rintro e w1 ⟨rfl, HR1, HD1⟩
      go_wp2_with fail
      refine (expect_r g b 1 0 t w1 HR1.out hs HS.out.1 (by omega) HS.out.2).mono ?_
      rintro e w2 ⟨rfl, HR2, HD2⟩
      have HX : Hid (Rd g wr w2) := HD1.out.trans HD2.out
      have HO2 := own_fin HX HO HE hgw
      go_wp2_with fail
      refine (HJ.out _ _ HO2.out).mono ?_
      rintro e w3 ⟨rfl, hb3⟩
      have HB3 : Hid (Below w2.heap.size w2 w3) := hb3
      clear hb3
      go_wp2_with fail
      go_ret
      refine ⟨rfl, ?_, ?_⟩
      · rw [← HH.out]
        exact HR2.out.below HB3.out HR2.out.hg
      · exact (HD.out.trans HX.out).trans (Rd.of_below HB3.out (Nat.le_refl _))
    · have hl : labB l = true := HLB.out l (by rw [HE.out]; simp)
      have hl30 := lab_size hl
      have HS1 : Hid (rnum t b 1 = l.size) := HS.out.1
      have HS2 : Hid (b + 1 + l.size ≤ t.size) := HS.out.2.1
      have HS3 : Hid (t.extract (b + 1) (b + 1 + l.size) = l) := HS.out.2.2.1
      have HS4 : Hid (Stand t (b + 1 + l.size) r) := HS.out.2.2.2
      have hDn : D.length + 1 ≤ ls.length := by rw [HE.out]; simp
      have hD8 : D.length < 8 := by have := HN.out; omega
      have HP : Hid (Calls Tryd.prog 70 #[.pointer (some ⟨g, 0, none⟩)] wr fun e w' => e = .returned (.int .u8 (l.size : Nat)) ∧ Hid (IsR g t b w') ∧ Hid (Rd g wr w')) := (show Calls _ _ _ _ _ by
        have h := peek_r g b t wr HR.out (by have := HS2.out; omega)
        rw [HS1.out] at h
        exact h)
      have hm0 : ((l.size : Int) == 0) = false := beq_eq_false_iff_ne.2 (by omega)
      have hm1 : ¬ (l.size : Int) = 0 := by omega
      have hm2 : decide ((192 : Int) ≤ (l.size : Int)) = false := by simp; omega
      have HLL : Hid (labB l = true) := hl
      have hls : l.size ≤ maxLen := by unfold maxLen; omega
      clear HS hl
      go_wp2_with fail
      refine HP.out.mono ?_
      rintro e w1 ⟨rfl, HR1, HD1⟩
      go_wp2_with fail
      refine (counted_r g b l.size t l w1 HR1.out hs HS1.out HS2.out HS3.out).mono ?_
      rintro e w2 ⟨rfl, HR2, HD2⟩
      go_wp2_with fail
      refine (small_same l w2 (by omega) (lab_low HLL.out)).mono ?_
      rintro e w3 ⟨rfl, hx3⟩
      have HR3 : Hid (IsR g t (b + 1 + l.size) w3) := HR2.out.ext hx3
      have HD3 : Hid (Rd g wr w3) := (HD1.out.trans HD2.out).trans (Rd.ext hx3)
      have HO3 := own_step HD3 HO hgw
      have HD4 : Hid (Rd g w w3) := HD.out.trans HD3.out
      have hsz3 := HD4.out.size
      clear hx3 HD3 HD1 HD2 HR1 HR2 HO HD HR HP
      obtain ⟨p, c, hv⟩ := own_shape HO3.out
      subst hv
      have hd8 : decide ((D.length : Int) < 8) = true := by simp; omega
      go_wp2_with fail
      refine (label_any l w3 hls).mono ?_
      rintro e w4 ⟨rfl, hw4⟩
      subst hw4
      rw [HLL.out]
      go_wp2_with fail
      refine (need_ok _ _).mono ?_
      rintro e w5 ⟨rfl, hw5⟩
      subst hw5
      go_wp2_with (at_builtin; refine wpList_append_own _ rfl _ _ 46 rfl w.heap.size 9 i0 _ 1 16 Tryd.underlying46 hi0 hz0 hzs hzb rfl (by omega) _ D.length (D.map Value.string) rfl ?hown ⟨w5.heap.size, 0, none⟩ 1 1 [.string l] rfl rfl ?hnews (strs_one [_]) ?h63 ?hbytes ?hbase ?_)
      case hown => exact HO3.out.below ((Below.refl _ _).alloc (Nat.le_refl _) _)
      case hnews => (intro j u hj; rw [Addr.add_lit]; exact (cell_topL (by simp)).trans (by simpa using hj))
      case h63 => (unfold maxLen; omega)
      case hbytes => omega
      case hbase => (simp; omega)
      intro v' w6 r1 r2 r3
      have hB6 : Below w.heap.size w5 w6 := ((Below.refl _ _).alloc hsz3 _).grown r2 (by simp; omega) (fun j hj => (HO3.out.lt j hj).1)
      have HDX : Hid (Rd g w w6) := HD4.out.belowed hB6
      have HRX : Hid (IsR g t (b + 1 + l.size) w6) := HR3.out.below hB6 hgw
      have HOX : Hid (OwnS w.heap.size w6 v' (D ++ [l])) := ownS_snoc (l := D) r1
      have HEX : Hid (ls = (D ++ [l]) ++ r) := (show ls = _ by rw [HE.out]; simp)
      have HHX : Hid (behind (b + 1 + l.size) r = behind a ls) := HH
      clear r1 r2 r3 hB6 HO3 HD4 HR3 HE HH
      go_wp2_with fail
      refine ⟨⟨rfl, rfl, D ++ [l], r, b + 1 + l.size, HEX, HS4, HHX, HRX, HDX, HOX⟩, ?_⟩
      rw [own_len HOX.out, show lenOf (Value.slice p D.length c) = D.length from rfl, List.length_append, List.length_singleton]
      omega

end Go.Proofs.YtogmkdhljifbpaaDoor

/- A message without records is read. -/
namespace Go.Proofs.YtogmkdhljifbpaaDoor
open Go.RowKit Go.Lib

/-- What lies there while a message is read: the reader, what was there before, the box of the answer and the message's box behind it. -/
structure St (g : Nat) (t : ByteArray) (w : World) (T : TypeId) (zs : Array Value) (a : Nat) (cs : Array Value) (W : World) : Prop where
  isR : IsR g t a W
  rd : Rd g w W
  qx : W.heap[w.heap.size]? = some (.cells zs T (0, 0))
  bx : W.heap[w.heap.size + 1]? = some (.cells cs T (0, 0))
  lt : g < w.heap.size

theorem St.call {g a b : Nat} {t : ByteArray} {w W W' : World} {T : TypeId} {zs cs : Array Value} (h : St g t w T zs a cs W) (h1 : Hid (IsR g t b W')) (h2 : Hid (Rd g W W')) : St g t w T zs b cs W' :=
  ⟨h1.out, h.rd.trans h2.out, (h2.out.block _ (Array.getElem?_eq_some_iff.1 h.qx).1 (by have := h.lt; omega)).trans h.qx, (h2.out.block _ (Array.getElem?_eq_some_iff.1 h.bx).1 (by have := h.lt; omega)).trans h.bx, h.lt⟩
theorem St.keep {g a : Nat} {t : ByteArray} {w W W' : World} {T : TypeId} {zs cs : Array Value} (h : St g t w T zs a cs W) (h1 : W.Extends W') : St g t w T zs a cs W' :=
  h.call (h.isR.ext h1) (Rd.ext h1 : Rd g W W')
theorem St.store {g a : Nat} {t : ByteArray} {w W : World} {T : TypeId} {zs cs : Array Value} (h : St g t w T zs a cs W) (i : Nat) (v : Value) : St g t w T zs a (cs.setIfInBounds i v) (W.setCell ⟨w.heap.size + 1, i, none⟩ v) where
  isR := ⟨(World.cell?_setCell_other _ _ _ _ (by have := h.lt; intro e; simp at e)).trans h.isR.c0, (World.cell?_setCell_other _ _ _ _ (by have := h.lt; intro e; simp at e)).trans h.isR.c1, by simpa using h.isR.hz, by simpa using h.isR.hg⟩
  rd := ⟨h.rd.os, h.rd.tape, h.rd.output, by simpa using h.rd.size, fun k hk hg => (Below.heap_setCell W _ v k (by simp; omega)).trans (h.rd.block k hk hg)⟩
  qx := (Below.heap_setCell W _ v _ (by simp)).trans h.qx
  bx := Joins.block_setCell h.bx v
  lt := h.lt
theorem St.cell {g a : Nat} {t : ByteArray} {w W : World} {T : TypeId} {zs cs : Array Value} (h : St g t w T zs a cs W) (i : Nat) : W.cell? ⟨w.heap.size + 1, i, none⟩ = cs[i]? := cellsAt h.bx i
theorem St.free {g a : Nat} {t : ByteArray} {w W : World} {T : TypeId} {zs cs : Array Value} (h : St g t w T zs a cs W) (i : Nat) : W.frozen? ⟨w.heap.size + 1, i, none⟩ = false := by simp [World.frozen?, h.bx]
theorem St.qcell {g a : Nat} {t : ByteArray} {w W : World} {T : TypeId} {zs cs : Array Value} (h : St g t w T zs a cs W) (i : Nat) : W.cell? ⟨w.heap.size, i, none⟩ = zs[i]? := cellsAt h.qx i
theorem St.qfree {g a : Nat} {t : ByteArray} {w W : World} {T : TypeId} {zs cs : Array Value} (h : St g t w T zs a cs W) (i : Nat) : W.frozen? ⟨w.heap.size, i, none⟩ = false := by simp [World.frozen?, h.qx]
theorem Rd.put {g b : Nat} {w W : World} (h : Rd g w W) (i : Nat) (v : Value) (hb : w.heap.size ≤ b) : Rd g w (W.setCell ⟨b, i, none⟩ v) :=
  ⟨h.os, h.tape, h.output, by simpa using h.size, fun k hk hg => (Below.heap_setCell W _ v k (by simp; omega)).trans (h.block k hk hg)⟩
abbrev zmsg : Array Value := #[.int .i64 0, .bool false, .bool false, .int .i64 0, .string ⟨#[]⟩, .int .i64 0, .slice none 0 0]

set_option maxHeartbeats 1600000 in
set_option maxRecDepth 100000 in
theorem rmessage_none (g id code typ p : Nat) (ls : List ByteArray) (t : ByteArray) (w : World) (h : IsR g t 0 w) (hs : t.size ≤ 1000)
    (e0 : rnum t 0 2 = id) (e2 : rnum t 2 1 = 0) (e3 : rnum t 3 1 = code) (e4 : rnum t 4 2 = 1) (e6 : rnum t 6 2 = 0) (e8 : rnum t 8 2 = 0) (e10 : rnum t 10 2 = 0) (hst : Stand t 12 ls) (hne : ls ≠ []) (hlab : ∀ l ∈ ls, labB l = true) (hn : ls.length ≤ 8) (hz : (jn (ls.map bts)).length ≤ 100000) (hp : behind 12 ls + 1 = p) (ep : rnum t p 2 = typ) (eq : rnum t (p + 2) 2 = 1) (h12 : 12 ≤ p) (hsz : p + 4 = t.size) :
    Calls Tryd.prog 38 #[.pointer (some ⟨g, 0, none⟩)] w fun e w' => e = .returned (msgV id code typ false false (mk (jn (ls.map bts)))) ∧ Hid (Rd g w w') := by
  have HN : Hid (∀ W, IsR g t 12 W → Calls Tryd.prog 59 #[.pointer (some ⟨g, 0, none⟩)] W fun e w' => e = .returned (.string (mk (jn (ls.map bts)))) ∧ Hid (IsR g t p w') ∧ Hid (Rd g W w')) := fun W hW => by
    subst hp
    exact name_ok g 12 ls t W hW hs hst hne hlab hn hz
  have HI : Hid (IsR g t 0 w) := h
  have hg := h.hg
  have E0 : Hid (rnum t 0 2 = id) := e0
  have E2 : Hid (rnum t 2 1 = 0) := e2
  have E3 : Hid (rnum t 3 1 = code) := e3
  have E4 : Hid (rnum t 4 2 = 1) := e4
  have E6 : Hid (rnum t 6 2 = 0) := e6
  have E8 : Hid (rnum t 8 2 = 0) := e8
  have E10 : Hid (rnum t 10 2 = 0) := e10
  have EP : Hid (rnum t p 2 = typ) := ep
  have EQ : Hid (rnum t (p + 2) 2 = 1) := eq
  have HZ : Hid (p + 4 = t.size) := hsz
  have hp1 : p + 4 ≤ t.size := Nat.le_of_eq hsz
  clear h e0 e2 e3 e4 e6 e8 e10 ep eq hst hne hlab hn hz hp hsz
  generalize mk (jn (ls.map bts)) = R at *
  go_enter Tryd.func38, Tryd.ntmps38
  go_wp2_with fail
  obtain ⟨w0, hw0⟩ : ∃ w0, w0 = (w.alloc (.cells zmsg 30)).alloc (.cells zmsg 30) := ⟨_, rfl⟩
  rw [← hw0]
  have S0 : Hid (St g t w 30 zmsg 0 zmsg w0) := (show St _ _ _ _ _ _ _ _ by
    have hx : w.Extends w0 := by rw [hw0]; exact ((World.Extends.refl w).alloc _).alloc _
    refine ⟨HI.out.ext hx, Rd.ext hx, ?_, ?_, hg⟩
    · rw [hw0]
      exact (Lib.alloc_old _ _ _ (by simp)).trans (heap_alloc_new w _)
    · rw [hw0]
      have := heap_alloc_new (w.alloc (.cells zmsg 30)) (.cells zmsg 30)
      simpa using this)
  clear hw0
  refine (number_r g 0 2 t w0 S0.out.isR hs (by omega) (by omega)).mono ?_
  rintro e w1 ⟨rfl, h1, h2⟩
  rw [E0.out]
  have S1 : Hid (St g t w 30 zmsg 2 zmsg w1) := S0.out.call h1 h2
  have z1 := S1.out.free 0
  have c1 : w1.cell? ⟨w.heap.size + 1, 0, none⟩ = some (.int .i64 0) := S1.out.cell 0
  clear h1 h2 S0
  go_wp2_with fail
  have S2 : Hid (St g t w 30 zmsg 2 #[.int .i64 id, .bool false, .bool false, .int .i64 0, .string ⟨#[]⟩, .int .i64 0, .slice none 0 0] (w1.setCell ⟨w.heap.size + 1, 0, none⟩ (.int .i64 id))) := S1.out.store 0 (.int .i64 id)
  refine (number_r g 2 1 t _ S2.out.isR hs (by omega) (by omega)).mono ?_
  rintro e w2 ⟨rfl, h1, h2⟩
  rw [E2.out]
  have S3 : Hid (St g t w 30 zmsg 3 #[.int .i64 id, .bool false, .bool false, .int .i64 0, .string ⟨#[]⟩, .int .i64 0, .slice none 0 0] w2) := S2.out.call h1 h2
  have z1 := S3.out.free 1
  have z2 := S3.out.free 2
  have c0 : w2.cell? ⟨w.heap.size + 1, 0, none⟩ = some (.int .i64 id) := S3.out.cell 0
  have c1 : w2.cell? ⟨w.heap.size + 1, 1, none⟩ = some (.bool false) := S3.out.cell 1
  have c2 : w2.cell? ⟨w.heap.size + 1, 2, none⟩ = some (.bool false) := S3.out.cell 2
  have c3 : w2.cell? ⟨w.heap.size + 1, 3, none⟩ = some (.int .i64 0) := S3.out.cell 3
  have c4 : w2.cell? ⟨w.heap.size + 1, 4, none⟩ = some (.string ⟨#[]⟩) := S3.out.cell 4
  have c5 : w2.cell? ⟨w.heap.size + 1, 5, none⟩ = some (.int .i64 0) := S3.out.cell 5
  have c6 : w2.cell? ⟨w.heap.size + 1, 6, none⟩ = some (.slice none 0 0) := S3.out.cell 6
  have hb1 : bits .and .i64 0 128 = 0 := by decide
  have hb2 : bits .and .i64 0 2 = 0 := by decide
  clear h1 h2 S1 S2
  go_wp2_with fail
  have S4 : Hid (St g t w 30 zmsg 3 #[.int .i64 id, .bool false, .bool false, .int .i64 0, .string ⟨#[]⟩, .int .i64 0, .slice none 0 0] ((w2.setCell ⟨w.heap.size + 1, 1, none⟩ (.bool false)).setCell ⟨w.heap.size + 1, 2, none⟩ (.bool false))) := (S3.out.store 1 (.bool false)).store 2 (.bool false)
  refine (flags_any id 0 0 false false ⟨#[]⟩ _).mono ?_
  rintro e w3 ⟨rfl, o, hw3⟩
  rw [show flg false false = 0 from rfl]
  have S5 : Hid (St g t w 30 zmsg 3 #[.int .i64 id, .bool false, .bool false, .int .i64 0, .string ⟨#[]⟩, .int .i64 0, .slice none 0 0] w3) := (show St _ _ _ _ _ _ _ _ by rw [hw3]; exact S4.out.keep ((World.Extends.refl _).alloc _))
  clear hw3 z1 z2 c0 c1 c2 c3 c4 c5 c6 S3 S4
  go_wp2_with fail
  refine (need_ok _ _).mono ?_
  rintro e w4 ⟨rfl, hw4⟩
  subst hw4
  go_wp2_with fail
  refine (number_r g 3 1 t _ S5.out.isR hs (by omega) (by omega)).mono ?_
  rintro e w5 ⟨rfl, h1, h2⟩
  rw [E3.out]
  have S6 : Hid (St g t w 30 zmsg 4 #[.int .i64 id, .bool false, .bool false, .int .i64 0, .string ⟨#[]⟩, .int .i64 0, .slice none 0 0] w5) := S5.out.call h1 h2
  have z3 := S6.out.free 3
  have c3 : w5.cell? ⟨w.heap.size + 1, 3, none⟩ = some (.int .i64 0) := S6.out.cell 3
  clear h1 h2 S5
  go_wp2_with fail
  have S7 : Hid (St g t w 30 zmsg 4 #[.int .i64 id, .bool false, .bool false, .int .i64 code, .string ⟨#[]⟩, .int .i64 0, .slice none 0 0] (w5.setCell ⟨w.heap.size + 1, 3, none⟩ (.int .i64 code))) := S6.out.store 3 (.int .i64 code)
  refine (expect_r g 4 2 1 t _ S7.out.isR hs (by omega) (by omega) E4.out).mono ?_
  rintro e w6 ⟨rfl, h1, h2⟩
  have S8 : Hid (St g t w 30 zmsg 6 #[.int .i64 id, .bool false, .bool false, .int .i64 code, .string ⟨#[]⟩, .int .i64 0, .slice none 0 0] w6) := S7.out.call h1 h2
  clear h1 h2 S6 S7 z3 c3
  go_wp2_with fail
  refine (number_r g 6 2 t _ S8.out.isR hs (by omega) (by omega)).mono ?_
  rintro e w7 ⟨rfl, h1, h2⟩
  rw [E6.out]
  have S9 : Hid (St g t w 30 zmsg 8 #[.int .i64 id, .bool false, .bool false, .int .i64 code, .string ⟨#[]⟩, .int .i64 0, .slice none 0 0] w7) := S8.out.call h1 h2
  clear h1 h2 S8
  go_wp2_with fail
  refine (expect_r g 8 2 0 t _ S9.out.isR hs (by omega) (by omega) E8.out).mono ?_
  rintro e w8 ⟨rfl, h1, h2⟩
  have SA : Hid (St g t w 30 zmsg 10 #[.int .i64 id, .bool false, .bool false, .int .i64 code, .string ⟨#[]⟩, .int .i64 0, .slice none 0 0] w8) := S9.out.call h1 h2
  clear h1 h2 S9
  go_wp2_with fail
  refine (expect_r g 10 2 0 t _ SA.out.isR hs (by omega) (by omega) E10.out).mono ?_
  rintro e w9 ⟨rfl, h1, h2⟩
  have SB : Hid (St g t w 30 zmsg 12 #[.int .i64 id, .bool false, .bool false, .int .i64 code, .string ⟨#[]⟩, .int .i64 0, .slice none 0 0] w9) := SA.out.call h1 h2
  clear h1 h2 SA
  go_wp2_with fail
  refine (HN.out _ SB.out.isR).mono ?_
  rintro e wa ⟨rfl, h1, h2⟩
  have SC : Hid (St g t w 30 zmsg p #[.int .i64 id, .bool false, .bool false, .int .i64 code, .string ⟨#[]⟩, .int .i64 0, .slice none 0 0] wa) := SB.out.call h1 h2
  have z4 := SC.out.free 4
  have c4 : wa.cell? ⟨w.heap.size + 1, 4, none⟩ = some (.string ⟨#[]⟩) := SC.out.cell 4
  clear h1 h2 SB
  go_wp2_with fail
  have SD : Hid (St g t w 30 zmsg p #[.int .i64 id, .bool false, .bool false, .int .i64 code, .string R, .int .i64 0, .slice none 0 0] (wa.setCell ⟨w.heap.size + 1, 4, none⟩ (.string R))) := SC.out.store 4 (.string R)
  refine (number_r g p 2 t _ SD.out.isR hs (by omega) (by omega)).mono ?_
  rintro e wb ⟨rfl, h1, h2⟩
  rw [EP.out]
  have SE : Hid (St g t w 30 zmsg (p + 2) #[.int .i64 id, .bool false, .bool false, .int .i64 code, .string R, .int .i64 0, .slice none 0 0] wb) := SD.out.call h1 h2
  have z5 := SE.out.free 5
  have c5 : wb.cell? ⟨w.heap.size + 1, 5, none⟩ = some (.int .i64 0) := SE.out.cell 5
  clear h1 h2 SC SD z4 c4
  go_wp2_with fail
  have SF : Hid (St g t w 30 zmsg (p + 2) #[.int .i64 id, .bool false, .bool false, .int .i64 code, .string R, .int .i64 typ, .slice none 0 0] (wb.setCell ⟨w.heap.size + 1, 5, none⟩ (.int .i64 typ))) := SE.out.store 5 (.int .i64 typ)
  refine (expect_r g (p + 2) 2 1 t _ SF.out.isR hs (by omega) (by omega) EQ.out).mono ?_
  rintro e wc ⟨rfl, h1, h2⟩
  have SG : Hid (St g t w 30 zmsg (p + 4) #[.int .i64 id, .bool false, .bool false, .int .i64 code, .string R, .int .i64 typ, .slice none 0 0] wc) := SF.out.call h1 h2
  have ct : wc.cell? ⟨g, 0, none⟩ = some (.string t) := SG.out.isR.c0
  have ca : wc.cell? ⟨g, 1, none⟩ = some (.int .i64 t.size) := (show wc.cell? ⟨g, 1, none⟩ = some (.int .i64 t.size) by
    rw [← HZ.out]; exact SG.out.isR.c1)
  clear h1 h2 SE SF z5 c5
  go_wp2_with fail
  have m0 : wc.cell? ⟨w.heap.size + 1, 0, none⟩ = some (.int .i64 id) := SG.out.cell 0
  have m1 : wc.cell? ⟨w.heap.size + 1, 1, none⟩ = some (.bool false) := SG.out.cell 1
  have m2 : wc.cell? ⟨w.heap.size + 1, 2, none⟩ = some (.bool false) := SG.out.cell 2
  have m3 : wc.cell? ⟨w.heap.size + 1, 3, none⟩ = some (.int .i64 code) := SG.out.cell 3
  have m4 : wc.cell? ⟨w.heap.size + 1, 4, none⟩ = some (.string R) := SG.out.cell 4
  have m5 : wc.cell? ⟨w.heap.size + 1, 5, none⟩ = some (.int .i64 typ) := SG.out.cell 5
  have m6 : wc.cell? ⟨w.heap.size + 1, 6, none⟩ = some (.slice none 0 0) := SG.out.cell 6
  have q0 : wc.cell? ⟨w.heap.size, 0, none⟩ = some (.int .i64 0) := SG.out.qcell 0
  have y0 := SG.out.qfree 0
  have q1 : wc.cell? ⟨w.heap.size, 1, none⟩ = some (.bool false) := SG.out.qcell 1
  have y1 := SG.out.qfree 1
  have q2 : wc.cell? ⟨w.heap.size, 2, none⟩ = some (.bool false) := SG.out.qcell 2
  have y2 := SG.out.qfree 2
  have q3 : wc.cell? ⟨w.heap.size, 3, none⟩ = some (.int .i64 0) := SG.out.qcell 3
  have y3 := SG.out.qfree 3
  have q4 : wc.cell? ⟨w.heap.size, 4, none⟩ = some (.string ⟨#[]⟩) := SG.out.qcell 4
  have y4 := SG.out.qfree 4
  have q5 : wc.cell? ⟨w.heap.size, 5, none⟩ = some (.int .i64 0) := SG.out.qcell 5
  have y5 := SG.out.qfree 5
  have q6 : wc.cell? ⟨w.heap.size, 6, none⟩ = some (.slice none 0 0) := SG.out.qcell 6
  have y6 := SG.out.qfree 6
  go_loopw [46] (fun i wr => i = .int .i64 0 ∧ wr = wc) (fun _ _ => 0)
  case atStart => exact ⟨rfl, rfl⟩
  case round =>
    obtain ⟨rfl, hwr⟩ := hrel
    subst hwr
    go_wp2_with fail
    go_region_held3 (fun w' => w'.cell? ⟨g, 0, none⟩ = some (.string t) ∧ w'.cell? ⟨g, 1, none⟩ = some (.int .i64 t.size)) (go_keep) (first | (go_at_call 49; refine (need_ok _ _).mono ?_; rintro e w5 ⟨rfl, rfl⟩) | fail)
    go_wp2_with fail
    refine bodyPost_ret (v := msgV id code typ false false R) ?_ rfl ⟨rfl, ?_⟩
    · simp [results, Tryd.results38, go_sem, q0, q1, q2, q3, q4, q5, q6]
    · exact (Rd.trans (((((((SG.out.rd.put 0 _ (Nat.le_refl _)).put 1 _ (Nat.le_refl _)).put 2 _ (Nat.le_refl _)).put 3 _ (Nat.le_refl _)).put 4 _ (Nat.le_refl _)).put 5 _ (Nat.le_refl _)).put 6 _ (Nat.le_refl _)) (Rd.ext (World.Extends.refl _).drew) : Rd g w _)

end Go.Proofs.YtogmkdhljifbpaaDoor

