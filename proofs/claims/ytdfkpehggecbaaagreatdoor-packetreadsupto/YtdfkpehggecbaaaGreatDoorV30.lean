/- JM -/
import Derived.Test.YtdfkpehggecbaaaGreatDoorV29
import Derived.OwnWalk
/- The reader of packets: number, both ways. -/
namespace Go.Proofs.YtdfkpehggecbaaaGreatDoor
open Go.RowKit

/-- The reader at g has this text left. -/
structure IsP (g : Nat) (l : List UInt8) (w : World) : Prop where
  c0 : w.cell? ⟨g, 0, none⟩ = some (.string (bstr l))
  hz : w.frozen? ⟨g, 0, none⟩ = false
  hg : g < w.heap.size
/-- All that was there stays, the reader at g aside. -/
structure Rp (g : Nat) (w w' : World) : Prop where
  os : w'.os = w.os
  tape : w'.tape = w.tape
  output : w'.output = w.output
  size : w.heap.size ≤ w'.heap.size
  block : ∀ k : Nat, k < w.heap.size → k ≠ g → w'.heap[k]? = w.heap[k]?
theorem Rp.refl (g : Nat) (w : World) : Rp g w w := ⟨rfl, rfl, rfl, Nat.le_refl _, fun _ _ _ => rfl⟩
theorem Rp.trans {g : Nat} {w w1 w2 : World} (h : Rp g w w1) (h2 : Rp g w1 w2) : Rp g w w2 :=
  ⟨h2.os.trans h.os, h2.tape.trans h.tape, h2.output.trans h.output, Nat.le_trans h.size h2.size, fun k hk hg => (h2.block k (Nat.lt_of_lt_of_le hk h.size) hg).trans (h.block k hk hg)⟩
theorem Rp.below {g B : Nat} {w w' : World} (h : Rp g w w') (hb : B ≤ g) (hB : B ≤ w.heap.size) : Below B w w' :=
  ⟨h.os, h.tape, h.output, h.size, fun k hk => h.block k (by omega) (by omega)⟩
theorem Rp.of_below {g B : Nat} {w w' : World} (h : Below B w w') (hb : w.heap.size ≤ B) : Rp g w w' :=
  ⟨h.os, h.tape, h.output, h.size, fun k hk _ => h.block k (by omega)⟩
theorem Rp.set (g : Nat) (w : World) (v : Value) : Rp g w (w.setCell ⟨g, 0, none⟩ v) :=
  ⟨rfl, rfl, rfl, by simp, fun k _ hg => Below.heap_setCell w _ _ k hg⟩
theorem IsP.below {g : Nat} {l : List UInt8} {w w' : World} (h : IsP g l w) (hx : Below w.heap.size w w') : IsP g l w' where
  c0 := (hx.cell (p := ⟨g, 0, none⟩) h.hg).trans h.c0
  hz := by have := h.hz; simp only [World.frozen?, hx.block g h.hg] at this ⊢; exact this
  hg := Nat.lt_of_lt_of_le h.hg hx.size
def outP (e : Int) : Ending := .panicked [{ v := .iface 122 (.agg #[.int .i64 e]), recovered := false }]

set_option maxHeartbeats 800000 in
set_option maxRecDepth 100000 in
theorem number_ok (g B : Nat) (l r : List UInt8) (n : Int) (w : World) (h : IsP g l w) (hs : l.length ≤ 140737488355328) (hl : rdN l = some (n, r)) (hT : Tab B w) (hB : B ≤ w.heap.size) :
    Calls Tryz.prog 79 #[.pointer (some ⟨g, 0, none⟩)] w fun e w' => e = .returned (.int .i64 n) ∧ IsP g r w' ∧ Rp g w w' := by
  unfold rdN at hl
  split at hl
  · simp at hl
  rename_i hne
  obtain ⟨i, hi⟩ : ∃ i : Nat, Lib.indexByte l 59 = (i : Int) := ⟨(Lib.indexByte l 59).toNat, by have := Lib.indexByte_ge l 59; omega⟩
  have hlt := ix_lt 59 hi
  rw [hi] at hl
  simp only [Int.toNat_natCast] at hl
  split at hl
  case h_2 => simp at hl
  rename_i m hm
  split at hl
  case isFalse => simp at hl
  rename_i hd
  simp only [Option.some.injEq, Prod.mk.injEq] at hl
  obtain ⟨rfl, rfl⟩ := hl
  have hb63 : In63 m := Lib.atoiAll_bounds hm
  have HC : Hid (Calls Tryz.prog 98 #[.string (bstr l), .string ⟨#[59]⟩] w fun e w' => e = .returned (.tuple #[.string (bstr (l.take i)), .string (bstr (l.drop (i + 1))), .bool true]) ∧ Below w.heap.size w w') := pcut_some l i w hi hs
  have HA : Hid (∀ W, Calls Tryz.prog 99 #[.string (bstr (l.take i))] W fun e w' => e = .returned (.tuple #[.int .i64 m, .nilIface]) ∧ Below W.heap.size W w') := fun W => atoi_ok _ m W (by rw [List.length_take]; omega) hm
  have HI : Hid (∀ W, Below w.heap.size w W → Calls Tryz.prog 89 #[.int .i64 m] W fun e w' => e = .returned (.string (bstr (l.take i))) ∧ Below W.heap.size W w') := fun W hW => by
    have := itoa_any m B W hb63 (hT.below (hW.mono hB))
    rw [show itoaB m = bstr (l.take i) by rw [← hd]; rfl] at this
    exact this
  have HP : Hid (IsP g l w) := h
  have hc := h.c0
  clear h hT hd hm hi hne hlt hs
  generalize bstr (l.take i) = D at *
  have HR : Hid (∃ R, R = bstr (l.drop (i + 1))) := ⟨_, rfl⟩
  go_enter Tryz.func79, Tryz.ntmps79
  go_wp2_with fail
  refine HC.out.mono ?_
  rintro e w1 ⟨rfl, hb1⟩
  have HB1 : Hid (Below w.heap.size w w1) := hb1
  clear hb1
  go_wp2_with fail
  refine (HA.out w1).mono ?_
  rintro e w2 ⟨rfl, hb2⟩
  have HB2 : Hid (Below w.heap.size w w2) := HB1.out.trans (hb2.mono HB1.out.size)
  clear hb2
  go_wp2_with fail
  refine (HI.out w2 HB2.out).mono ?_
  rintro e w3 ⟨rfl, hb3⟩
  have HB3 : Hid (Below w.heap.size w w3) := HB2.out.trans (hb3.mono HB2.out.size)
  clear hb3
  have hP3 := HP.out.below HB3.out
  obtain ⟨c3, z3, g3⟩ := hP3
  clear hc
  go_wp2_with (go_at_call 34; refine (need_ok _ _).mono ?_; rintro e w' ⟨rfl, rfl⟩)
  go_ret
  refine ⟨rfl, ⟨World.cell?_setCell_same _ _ _ c3, by simpa using z3, by simpa using g3⟩, (Rp.of_below HB3.out (Nat.le_refl _)).trans (Rp.set g _ _)⟩

set_option maxHeartbeats 800000 in
set_option maxRecDepth 100000 in
/-- The cut found none. -/
theorem number_no1 (g : Nat) (l : List UInt8) (w : World) (h : IsP g l w) (hs : l.length ≤ 140737488355328) (hl : Lib.indexByte l 59 = -1) (hE : Er w) (h1 : 1 < w.heap.size) (h2 : 2 < w.heap.size) :
    Calls Tryz.prog 79 #[.pointer (some ⟨g, 0, none⟩)] w fun e w' => e = outP 1 ∧ Below w.heap.size w w' := by
  have HC : Hid (Calls Tryz.prog 98 #[.string (bstr l), .string ⟨#[59]⟩] w fun e w' => e = .returned (.tuple #[.string (bstr l), .string ⟨#[]⟩, .bool false]) ∧ Below w.heap.size w w') := pcut_none l w hl
  have HA : Hid (∀ W, Below w.heap.size w W → Calls Tryz.prog 99 #[.string (bstr l)] W fun e w' => ∃ v x, e = .returned (.tuple #[.int .i64 v, x]) ∧ Below W.heap.size W w') := fun W hW => by
    by_cases hk : ∃ v, Lib.atoiAll l = .ok v
    · obtain ⟨v, hv⟩ := hk
      refine (atoi_ok l v W hs hv).mono ?_
      rintro e w' ⟨rfl, hb⟩
      exact ⟨_, _, rfl, hb⟩
    · refine (atoi_no l W hs (fun v hv => hk ⟨v, hv⟩) (hE.below hW h1 h2)).mono ?_
      rintro e w' ⟨v, T, N, rfl, hb⟩
      exact ⟨_, _, rfl, hb⟩
  have hc := h.c0
  clear h hE hl hs h1 h2
  go_enter Tryz.func79, Tryz.ntmps79
  go_wp2_with fail
  refine HC.out.mono ?_
  rintro e w1 ⟨rfl, hb1⟩
  have HB1 : Hid (Below w.heap.size w w1) := hb1
  clear hb1 hc
  go_wp2_with fail
  refine (HA.out w1 HB1.out).mono ?_
  rintro e w2 ⟨v, x, rfl, hb2⟩
  have HB2 : Hid (Below w.heap.size w w2) := HB1.out.trans (hb2.mono HB1.out.size)
  clear hb2
  go_wp2_with fail
  refine (need_no _ _).mono ?_
  rintro e w5 ⟨rfl, rfl⟩
  exact ⟨rfl, rfl, HB2.out⟩

set_option maxHeartbeats 800000 in
set_option maxRecDepth 100000 in
/-- What was cut off is no number. -/
theorem number_no2 (g i : Nat) (l : List UInt8) (w : World) (h : IsP g l w) (hs : l.length ≤ 140737488355328) (hi : Lib.indexByte l 59 = (i : Int)) (hl : ∀ v, Lib.atoiAll (l.take i) ≠ .ok v) (hE : Er w) (h1 : 1 < w.heap.size) (h2 : 2 < w.heap.size) :
    Calls Tryz.prog 79 #[.pointer (some ⟨g, 0, none⟩)] w fun e w' => e = outP 1 ∧ Below w.heap.size w w' := by
  have HC : Hid (Calls Tryz.prog 98 #[.string (bstr l), .string ⟨#[59]⟩] w fun e w' => e = .returned (.tuple #[.string (bstr (l.take i)), .string (bstr (l.drop (i + 1))), .bool true]) ∧ Below w.heap.size w w') := pcut_some l i w hi hs
  have HA : Hid (∀ W, Below w.heap.size w W → Calls Tryz.prog 99 #[.string (bstr (l.take i))] W fun e w' => ∃ v T N, e = .returned (.tuple #[.int .i64 v, .iface T (.pointer (some ⟨N, 0, none⟩))]) ∧ Below W.heap.size W w') := fun W hW =>
    atoi_no _ W (by rw [List.length_take]; omega) hl (hE.below hW h1 h2)
  have hc := h.c0
  clear h hE hl hs h1 h2 hi
  generalize bstr (l.take i) = D at *
  go_enter Tryz.func79, Tryz.ntmps79
  go_wp2_with fail
  refine HC.out.mono ?_
  rintro e w1 ⟨rfl, hb1⟩
  have HB1 : Hid (Below w.heap.size w w1) := hb1
  clear hb1 hc
  go_wp2_with fail
  refine (HA.out w1 HB1.out).mono ?_
  rintro e w2 ⟨v, T, N, rfl, hb2⟩
  have HB2 : Hid (Below w.heap.size w w2) := HB1.out.trans (hb2.mono HB1.out.size)
  clear hb2
  go_wp2_with fail
  refine (need_no _ _).mono ?_
  rintro e w5 ⟨rfl, rfl⟩
  exact ⟨rfl, rfl, HB2.out⟩

set_option maxHeartbeats 800000 in
set_option maxRecDepth 100000 in
/-- What was cut off is a number, written otherwise. -/
theorem number_no3 (g i B : Nat) (m : Int) (l : List UInt8) (w : World) (h : IsP g l w) (hs : l.length ≤ 140737488355328) (hi : Lib.indexByte l 59 = (i : Int)) (hm : Lib.atoiAll (l.take i) = .ok m) (hd : Lib.itoa m ≠ l.take i) (hT : Tab B w) (hB : B ≤ w.heap.size) :
    Calls Tryz.prog 79 #[.pointer (some ⟨g, 0, none⟩)] w fun e w' => e = outP 1 ∧ Below w.heap.size w w' := by
  have HC : Hid (Calls Tryz.prog 98 #[.string (bstr l), .string ⟨#[59]⟩] w fun e w' => e = .returned (.tuple #[.string (bstr (l.take i)), .string (bstr (l.drop (i + 1))), .bool true]) ∧ Below w.heap.size w w') := pcut_some l i w hi hs
  have HA : Hid (∀ W, Calls Tryz.prog 99 #[.string (bstr (l.take i))] W fun e w' => e = .returned (.tuple #[.int .i64 m, .nilIface]) ∧ Below W.heap.size W w') := fun W => atoi_ok _ m W (by rw [List.length_take]; omega) hm
  have HI : Hid (∀ W, Below w.heap.size w W → Calls Tryz.prog 89 #[.int .i64 m] W fun e w' => e = .returned (.string (itoaB m)) ∧ Below W.heap.size W w') := fun W hW => itoa_any m B W (Lib.atoiAll_bounds hm) (hT.below (hW.mono hB))
  have hne2 : ((itoaB m).toList == (bstr (l.take i)).toList) = false := by
    rw [ByteArray.toList_eq, ByteArray.toList_eq, bstr_list]
    have e1 : (itoaB m).data.toList = Lib.itoa m := bstr_list _
    rw [e1]
    simpa using hd
  have hc := h.c0
  clear h hd hs hi hm hT hB
  generalize bstr (l.take i) = D at *
  generalize itoaB m = E at *
  go_enter Tryz.func79, Tryz.ntmps79
  go_wp2_with fail
  refine HC.out.mono ?_
  rintro e w1 ⟨rfl, hb1⟩
  have HB1 : Hid (Below w.heap.size w w1) := hb1
  clear hb1 hc
  go_wp2_with fail
  refine (HA.out w1).mono ?_
  rintro e w2 ⟨rfl, hb2⟩
  have HB2 : Hid (Below w.heap.size w w2) := HB1.out.trans (hb2.mono HB1.out.size)
  clear hb2
  go_wp2_with fail
  refine (HI.out w2 HB2.out).mono ?_
  rintro e w3 ⟨rfl, hb3⟩
  have HB3 : Hid (Below w.heap.size w w3) := HB2.out.trans (hb3.mono HB2.out.size)
  clear hb3
  go_wp2_with fail
  refine (need_no _ _).mono ?_
  rintro e w5 ⟨rfl, rfl⟩
  exact ⟨rfl, rfl, HB3.out⟩

theorem number_no (g B : Nat) (l : List UInt8) (w : World) (h : IsP g l w) (hs : l.length ≤ 140737488355328) (hl : rdN l = none) (hT : Tab B w) (hB : B ≤ w.heap.size) (hE : Er w) (h1 : 1 < w.heap.size) (h2 : 2 < w.heap.size) :
    Calls Tryz.prog 79 #[.pointer (some ⟨g, 0, none⟩)] w fun e w' => e = outP 1 ∧ Below w.heap.size w w' := by
  unfold rdN at hl
  split at hl
  · rename_i hn
    exact number_no1 g l w h hs hn hE h1 h2
  rename_i hne
  obtain ⟨i, hi⟩ : ∃ i : Nat, Lib.indexByte l 59 = (i : Int) := ⟨(Lib.indexByte l 59).toNat, by have := Lib.indexByte_ge l 59; omega⟩
  rw [hi] at hl
  simp only [Int.toNat_natCast] at hl
  split at hl
  · rename_i m hm
    split at hl
    · simp at hl
    · rename_i hd
      exact number_no3 g i B m l w h hs hi hm hd hT hB
  · rename_i hk
    exact number_no2 g i l w h hs hi hk hE h1 h2

end Go.Proofs.YtdfkpehggecbaaaGreatDoor

