/- JN, ShelfK, JO -/
import Derived.Test.YtdfkpehggecbaaaGreatDoorV30
import Derived.Shelf.Strings.Builder1
import Derived.Shelf.Strconv.Atoi
import Derived.Shelf.Strconv.Itoa0
import Derived.Shelf.Strconv.Itoa1
import Derived.Shelf.LaysM
import Derived.Shelf.Strconv.Itoa2
import Derived.Shelf.Strconv.Itoa3
import Derived.Shelf.Strconv.AtoiErrFast
import Derived.Shelf.Strconv.ParseIntEmpty
import Derived.Shelf.Strconv.AtoiFail
import Derived.Shelf.Strconv.Clone
import Derived.Shelf.Strconv.SyntaxError
import Derived.Shelf.LaysC
import Derived.Shelf.Strconv.ToError
import Derived.Shelf.Strconv.Lower
import Derived.Shelf.Strconv.ParseUint10
import Derived.Shelf.Strconv.ParseUint10Empty
import Derived.Shelf.Strconv.ParseUint10Any
import Derived.Shelf.Strconv.ParseInt10
import Derived.Shelf.Strconv.AtoiLong
import Derived.Shelf.Strconv.AtoiInnerAll
import Derived.Shelf.Strconv.RangeError
import Derived.Shelf.Strconv.ToErrorRange
import Derived.Shelf.Strconv.AtoiAll
import Derived.Shelf.Strings.Search1
import Derived.Test.YtdfkpehggecbaaaGreatDoorProg
/- The reader of packets: what it leans on; flag, both ways. -/
namespace Go.Proofs.YtdfkpehggecbaaaGreatDoor
open Go.RowKit

/-- What the reader leans on. -/
structure Rv (B : Nat) (w : World) : Prop where
  tab : Tab B w
  er : Er w
  b1 : 1 < B
  b2 : 2 < B
  le : B ≤ w.heap.size
theorem Rv.below {B : Nat} {w w' : World} (h : Rv B w) (hb : Below B w w') : Rv B w' := ⟨h.tab.below hb, h.er.below hb h.b1 h.b2, h.b1, h.b2, Nat.le_trans h.le hb.size⟩
theorem Rv.rp {B g : Nat} {w w' : World} (h : Rv B w) (hg : B ≤ g) (hr : Rp g w w') : Rv B w' := h.below (hr.below hg h.le)
theorem num_ok {B g : Nat} {l r : List UInt8} {n : Int} {w : World} (hV : Rv B w) (h : IsP g l w) (hs : l.length ≤ 140737488355328) (hl : rdN l = some (n, r)) :
    Calls Tryz.prog 79 #[.pointer (some ⟨g, 0, none⟩)] w fun e w' => e = .returned (.int .i64 n) ∧ IsP g r w' ∧ Rp g w w' := number_ok g B l r n w h hs hl hV.tab hV.le
theorem num_no {B g : Nat} {l : List UInt8} {w : World} (hV : Rv B w) (h : IsP g l w) (hs : l.length ≤ 140737488355328) (hl : rdN l = none) :
    Calls Tryz.prog 79 #[.pointer (some ⟨g, 0, none⟩)] w fun e w' => e = outP 1 ∧ Rp g w w' := by
  refine (number_no g B l w h hs hl hV.tab hV.le hV.er (Nat.lt_of_lt_of_le hV.b1 hV.le) (Nat.lt_of_lt_of_le hV.b2 hV.le)).mono ?_
  rintro e w' ⟨rfl, hb⟩
  exact ⟨rfl, Rp.of_below hb (Nat.le_refl _)⟩
theorem rdN_in {l r : List UInt8} {n : Int} (h : rdN l = some (n, r)) : In63 n ∧ r.length < l.length := by
  unfold rdN at h
  split at h
  · simp at h
  rename_i hne
  obtain ⟨i, hi⟩ : ∃ i : Nat, Lib.indexByte l 59 = (i : Int) := ⟨(Lib.indexByte l 59).toNat, by have := Lib.indexByte_ge l 59; omega⟩
  have hlt := ix_lt 59 hi
  rw [hi] at h
  simp only [Int.toNat_natCast] at h
  split at h
  case h_2 => simp at h
  rename_i m hm
  split at h
  case isFalse => simp at h
  simp only [Option.some.injEq, Prod.mk.injEq] at h
  obtain ⟨rfl, rfl⟩ := h
  exact ⟨Lib.atoiAll_bounds hm, by rw [List.length_drop]; omega⟩

def rdF (l : List UInt8) : Option (Bool × List UInt8) :=
  match rdN l with
  | some (n, r) => if n = 0 then some (false, r) else if n = 1 then some (true, r) else none
  | none => none

set_option maxHeartbeats 800000 in
set_option maxRecDepth 100000 in
theorem flag_ok {B g : Nat} {l r : List UInt8} {y : Bool} {w : World} (hV : Rv B w) (h : IsP g l w) (hs : l.length ≤ 140737488355328) (hl : rdF l = some (y, r)) :
    Calls Tryz.prog 76 #[.pointer (some ⟨g, 0, none⟩)] w fun e w' => e = .returned (.bool y) ∧ IsP g r w' ∧ Rp g w w' := by
  unfold rdF at hl
  split at hl
  case h_2 => simp at hl
  rename_i n r' hn
  have HN : Hid (Calls Tryz.prog 79 #[.pointer (some ⟨g, 0, none⟩)] w fun e w' => e = .returned (.int .i64 n) ∧ IsP g r' w' ∧ Rp g w w') := num_ok hV h hs hn
  clear hn h hV hs
  split at hl
  · rename_i h0
    subst h0
    simp only [Option.some.injEq, Prod.mk.injEq] at hl
    obtain ⟨rfl, rfl⟩ := hl
    go_enter Tryz.func76, Tryz.ntmps76
    go_wp2_with fail
    refine HN.out.mono ?_
    rintro e w1 ⟨rfl, hp, hr⟩
    have HP : Hid (IsP g r' w1 ∧ Rp g w w1) := ⟨hp, hr⟩
    clear hp hr
    go_wp2_with (go_at_call 34; refine (need_ok _ _).mono ?_; rintro e w' ⟨rfl, rfl⟩)
    go_ret
    exact ⟨rfl, HP.out⟩
  · split at hl
    case isFalse => simp at hl
    rename_i h0 h1
    subst h1
    simp only [Option.some.injEq, Prod.mk.injEq] at hl
    obtain ⟨rfl, rfl⟩ := hl
    go_enter Tryz.func76, Tryz.ntmps76
    go_wp2_with fail
    refine HN.out.mono ?_
    rintro e w1 ⟨rfl, hp, hr⟩
    have HP : Hid (IsP g r' w1 ∧ Rp g w w1) := ⟨hp, hr⟩
    clear hp hr
    go_wp2_with (go_at_call 34; refine (need_ok _ _).mono ?_; rintro e w' ⟨rfl, rfl⟩)
    go_ret
    exact ⟨rfl, HP.out⟩

set_option maxHeartbeats 800000 in
set_option maxRecDepth 100000 in
theorem flag_no {B g : Nat} {l : List UInt8} {w : World} (hV : Rv B w) (h : IsP g l w) (hs : l.length ≤ 140737488355328) (hl : rdF l = none) :
    Calls Tryz.prog 76 #[.pointer (some ⟨g, 0, none⟩)] w fun e w' => e = outP 1 ∧ Rp g w w' := by
  unfold rdF at hl
  split at hl
  · rename_i n r' hn
    have HN : Hid (Calls Tryz.prog 79 #[.pointer (some ⟨g, 0, none⟩)] w fun e w' => e = .returned (.int .i64 n) ∧ IsP g r' w' ∧ Rp g w w') := num_ok hV h hs hn
    clear hn h hV hs
    split at hl
    · simp at hl
    rename_i h0
    split at hl
    · simp at hl
    rename_i h1
    clear hl
    have e0 : (n == 0) = false := by simpa using h0
    have e1 : (n == 1) = false := by simpa using h1
    have d0 : decide (n = 0) = false := by simpa using h0
    have d1 : decide (n = 1) = false := by simpa using h1
    go_enter Tryz.func76, Tryz.ntmps76
    go_wp2_with fail
    refine HN.out.mono ?_
    rintro e w1 ⟨rfl, hp, hr⟩
    have HP : Hid (Rp g w w1) := hr
    clear hp hr
    go_wp2_with fail
    refine (need_no _ _).mono ?_
    rintro e w5 ⟨rfl, rfl⟩
    exact ⟨rfl, rfl, HP.out⟩
  · rename_i hn
    have HN : Hid (Calls Tryz.prog 79 #[.pointer (some ⟨g, 0, none⟩)] w fun e w' => e = outP 1 ∧ Rp g w w') := num_no hV h hs hn
    clear hn h hV hs hl
    go_enter Tryz.func76, Tryz.ntmps76
    go_wp2_with fail
    refine HN.out.mono ?_
    rintro e w1 ⟨rfl, hr⟩
    exact ⟨rfl, rfl, hr⟩

end Go.Proofs.YtdfkpehggecbaaaGreatDoor

/- Contracts of the library, laid at this program. -/
namespace Go.Proofs
open Go.Shelf
def Tryz.laysM316_ren : Go.Shelf.Ren := ⟨fun | 316 => 104 | n => n, fun | 9 => 9 | 3 => 3 | 4 => 4 | 37 => 42 | 0 => 0 | 127 => 93 | 5 => 5 | n => n, fun | n => n⟩
theorem Tryz.laysM316 : Go.Proofs.LaysM.n316 Tryz.prog Tryz.laysM316_ren := {
  mixed := by kernel_rfl
  f316 := Tryz.func104.trans (congrArg some (by kernel_rfl))
  t0 := Tryz.underlying0
  a0 := Tryz.isAgg0
  z0 := Tryz.sizeOf0
  v0 := Tryz.zeroValue0
  t3 := Tryz.underlying3
  a3 := Tryz.isAgg3
  z3 := Tryz.sizeOf3
  v3 := Tryz.zeroValue3
  t4 := Tryz.underlying4
  a4 := Tryz.isAgg4
  z4 := Tryz.sizeOf4
  v4 := Tryz.zeroValue4
  t9 := Tryz.underlying9
  a9 := Tryz.isAgg9
  z9 := Tryz.sizeOf9
  v9 := Tryz.zeroValue9
  t37 := Tryz.underlying42
  a37 := Tryz.isAgg42
  z37 := Tryz.sizeOf42
  v37 := Tryz.zeroValue42
  t127 := Tryz.underlying93
  a127 := Tryz.isAgg93
  z127 := Tryz.sizeOf93
  v127 := Tryz.zeroValue93
  t5 := Tryz.underlying5
  a5 := Tryz.isAgg5
  z5 := Tryz.sizeOf5
  v5 := Tryz.zeroValue5
  i0 := by kernel_rfl
  i3 := by kernel_rfl
  i4 := by kernel_rfl
  i5 := by kernel_rfl
  i9 := by kernel_rfl
  i37 := by kernel_rfl
  i127 := by kernel_rfl }
open Go.RowKit in
theorem Tryz.stringslite_Clone (s : ByteArray) (w : World) (hlim : s.size ≤ 281474976710656) :
    Calls Tryz.prog 104 #[.string s] w fun e w' => e = .returned (.string s) ∧ Below w.heap.size w w' := Any.stringslite_Clone Tryz.laysM316 s w hlim
end Go.Proofs

/- The reader of packets: text, both ways. -/
namespace Go.Proofs.YtdfkpehggecbaaaGreatDoor
open Go.RowKit

set_option maxHeartbeats 400000 in
theorem pclone_any (s : ByteArray) (w : World) (hs : s.size ≤ 140737488355328) :
    Calls Tryz.prog 97 #[.string s] w fun e w' => e = .returned (.string s) ∧ Below w.heap.size w w' := by
  have HC : Hid (Calls Tryz.prog 104 #[.string s] w fun e w' => e = .returned (.string s) ∧ Below w.heap.size w w') := Tryz.stringslite_Clone s w (by omega)
  go_enter Tryz.func97, Tryz.ntmps97
  go_wp2_with fail
  refine HC.out.mono ?_
  rintro e w1 ⟨rfl, hb⟩
  go_wp2_with fail
  go_ret
  exact ⟨rfl, hb⟩

def rdT (l : List UInt8) : Option (ByteArray × List UInt8) :=
  match rdN l with
  | some (n, r) => if 0 ≤ n ∧ n ≤ r.length then some (bstr (r.take n.toNat), r.drop n.toNat) else none
  | none => none

set_option maxHeartbeats 1600000 in
set_option maxRecDepth 100000 in
theorem text_ok {B g : Nat} {l r : List UInt8} {s : ByteArray} {w : World} (hV : Rv B w) (h : IsP g l w) (hs : l.length ≤ 140737488355328) (hl : rdT l = some (s, r)) :
    Calls Tryz.prog 75 #[.pointer (some ⟨g, 0, none⟩)] w fun e w' => e = .returned (.string s) ∧ IsP g r w' ∧ Rp g w w' := by
  unfold rdT at hl
  split at hl
  case h_2 => simp at hl
  rename_i n r' hn
  have HN : Hid (Calls Tryz.prog 79 #[.pointer (some ⟨g, 0, none⟩)] w fun e w' => e = .returned (.int .i64 n) ∧ IsP g r' w' ∧ Rp g w w') := num_ok hV h hs hn
  have hrl := (rdN_in hn).2
  clear hn h hV
  split at hl
  case isFalse => simp at hl
  rename_i hk
  simp only [Option.some.injEq, Prod.mk.injEq] at hl
  obtain ⟨rfl, rfl⟩ := hl
  obtain ⟨k, rfl⟩ : ∃ k : Nat, n = (k : Int) := ⟨n.toNat, by omega⟩
  have hkr : k ≤ r'.length := by omega
  simp only [Int.toNat_natCast]
  obtain ⟨R, hR⟩ : ∃ R, R = bstr r' := ⟨_, rfl⟩
  have hRs : R.size = r'.length := by rw [hR, bstr_size]
  have HR1 : Hid (R.extract 0 k = bstr (r'.take k)) := by show _ = _; rw [hR, bstr_to]
  have HR2 : Hid (R.extract k R.size = bstr (r'.drop k)) := by show _ = _; rw [hR, bstr_from]
  have HCL : Hid (∀ W, Calls Tryz.prog 97 #[.string (R.extract 0 k)] W fun e w' => e = .returned (.string (R.extract 0 k)) ∧ Below W.heap.size W w') := fun W => pclone_any _ W (by rw [HR1.out, bstr_size, List.length_take]; omega)
  have hw : within (k : Int) 0 (R.size : Int) = true := by unfold within; simp; omega
  have hkR : k ≤ R.size := by omega
  have h0 : ((k : Int)).toNat = k := by omega
  have h3 : ((R.size : Int)).toNat = R.size := by omega
  have hkI : (k : Int) ≤ (R.size : Int) := by omega
  have hRb : R.size ≤ 140737488355328 := by omega
  have HRR : Hid (R = bstr r') := hR
  clear hkr hrl hk hs hR hRs
  go_enter Tryz.func75, Tryz.ntmps75
  go_wp2_with fail
  refine HN.out.mono ?_
  rintro e w1 ⟨rfl, hp, hr⟩
  have HP : Hid (IsP g r' w1 ∧ Rp g w w1) := ⟨hp, hr⟩
  have c1 : w1.cell? ⟨g, 0, none⟩ = some (.string R) := by rw [HRR.out]; exact hp.c0
  clear hp hr
  go_wp2_with (first | (go_at_call 60; refine (within_any _ _ _ _).mono ?_; rintro e w' ⟨rfl, rfl⟩; rw [hw]) | (go_at_call 34; refine (need_ok _ _).mono ?_; rintro e w' ⟨rfl, rfl⟩))
  refine (HCL.out _).mono ?_
  rintro e w4 ⟨rfl, hb4⟩
  have hp4 := HP.out.1.below hb4
  have HR4 : Hid (Rp g w w4) := HP.out.2.trans (Rp.of_below hb4 (Nat.le_refl _))
  obtain ⟨c4', z4, g4⟩ := hp4
  have c4 : w4.cell? ⟨g, 0, none⟩ = some (.string R) := by rw [HRR.out]; exact c4'
  clear hb4 c4' c1
  go_wp2_with fail
  go_ret
  refine ⟨by rw [HR1.out]; rfl, ⟨?_, by simpa using z4, by simpa using g4⟩, HR4.out.trans (Rp.set g _ _)⟩
  rw [← HR2.out]
  exact World.cell?_setCell_same _ _ _ c4

set_option maxHeartbeats 1600000 in
set_option maxRecDepth 100000 in
theorem text_no {B g : Nat} {l : List UInt8} {w : World} (hV : Rv B w) (h : IsP g l w) (hs : l.length ≤ 140737488355328) (hl : rdT l = none) :
    Calls Tryz.prog 75 #[.pointer (some ⟨g, 0, none⟩)] w fun e w' => e = outP 1 ∧ Rp g w w' := by
  unfold rdT at hl
  split at hl
  · rename_i n r' hn
    have HN : Hid (Calls Tryz.prog 79 #[.pointer (some ⟨g, 0, none⟩)] w fun e w' => e = .returned (.int .i64 n) ∧ IsP g r' w' ∧ Rp g w w') := num_ok hV h hs hn
    clear hn h hV hs
    split at hl
    · simp at hl
    rename_i hk
    clear hl
    obtain ⟨R, hR⟩ : ∃ R, R = bstr r' := ⟨_, rfl⟩
    have hRs : R.size = r'.length := by rw [hR, bstr_size]
    have hw : within n 0 (R.size : Int) = false := by
      cases hx : within n 0 (R.size : Int) with
      | false => rfl
      | true => exact absurd (by unfold within at hx; simp at hx; omega) hk
    have HRR : Hid (R = bstr r') := hR
    clear hk hR hRs
    go_enter Tryz.func75, Tryz.ntmps75
    go_wp2_with fail
    refine HN.out.mono ?_
    rintro e w1 ⟨rfl, hp, hr⟩
    have HP : Hid (Rp g w w1) := hr
    have c1 : w1.cell? ⟨g, 0, none⟩ = some (.string R) := by rw [HRR.out]; exact hp.c0
    clear hp hr
    go_wp2_with (go_at_call 60; refine (within_any _ _ _ _).mono ?_; rintro e w' ⟨rfl, rfl⟩; rw [hw])
    refine (need_no _ _).mono ?_
    rintro e w5 ⟨rfl, rfl⟩
    exact ⟨rfl, rfl, HP.out⟩
  · rename_i hn
    have HN : Hid (Calls Tryz.prog 79 #[.pointer (some ⟨g, 0, none⟩)] w fun e w' => e = outP 1 ∧ Rp g w w') := num_no hV h hs hn
    clear hn h hV hs hl
    go_enter Tryz.func75, Tryz.ntmps75
    go_wp2_with fail
    refine HN.out.mono ?_
    rintro e w1 ⟨rfl, hr⟩
    exact ⟨rfl, rfl, hr⟩

end Go.Proofs.YtdfkpehggecbaaaGreatDoor

