/- GY, GQ -/
import Derived.Test.YtogmkdhljifbpaaDoorW5
import Derived.Test.YtogmkdhljifbpaaDoorW10
/- A record's data are read, or not: both ways. -/
namespace Go.Proofs.YtogmkdhljifbpaaDoor
open Go.RowKit

/-- The name that stands at a, and where the reader is behind it. -/
def tgF (t : ByteArray) (a : Nat) : Option (ByteArray × Nat) := (nmF t a a [] none).map fun x => (mk (jn (x.1.map bts)), x.2)
theorem name_c (g a : Nat) (t : ByteArray) (w : World) (h : IsR g t a w) (hs : t.size ≤ 1000) (ha : a ≤ t.size) :
    Calls Tryd.prog 59 #[.pointer (some ⟨g, 0, none⟩)] w fun e w' => Hid (Rd g w w') ∧ ((∃ s q, tgF t a = some (s, q) ∧ s.size ≤ 1000 ∧ q ≤ t.size ∧ e = .returned (.string s) ∧ Hid (IsR g t q w')) ∨ (tgF t a = none ∧ e = outE 1)) := by
  refine (name_b g a t w h hs ha).mono ?_
  rintro e w' ⟨h1, ⟨ls, q, h2, ⟨h3, h4⟩, h5, h6, h7⟩ | ⟨h2, h3⟩⟩
  · refine ⟨h1, .inl ⟨_, q, by unfold tgF; rw [h2]; rfl, ?_, h5, h6, h7⟩⟩
    rw [mk_size]
    have := jn_len ls h4
    omega
  · exact ⟨h1, .inr ⟨by unfold tgF; rw [h2]; rfl, h3⟩⟩

/-- A record with its data, and where the reader is behind them. -/
def datF (t : ByteArray) (a : Nat) (nm : ByteArray) (ty la : Int) : Option (Rc.Rec × Nat) :=
  if ty = 1 then (if a + 4 ≤ t.size then some (⟨nm, ty, la, rnum t a 4, ⟨#[]⟩, 0, ⟨#[]⟩⟩, a + 4) else none)
  else if ty = 16 then (if a + 1 + rnum t a 1 ≤ t.size then some (⟨nm, ty, la, 0, t.extract (a + 1) (a + 1 + rnum t a 1), 0, ⟨#[]⟩⟩, a + 1 + rnum t a 1) else none)
  else if ty = 33 then
    (if a + 2 ≤ t.size ∧ (rnum t a 2 : Int) = 0 then
      if a + 2 + 2 ≤ t.size ∧ (rnum t (a + 2) 2 : Int) = 0 then
        if a + 2 + 2 + 2 ≤ t.size then (tgF t (a + 2 + 2 + 2)).map fun x => (⟨nm, ty, la, 0, ⟨#[]⟩, rnum t (a + 2 + 2) 2, x.1⟩, x.2) else none
      else none
    else none)
  else some (⟨nm, ty, la, 0, ⟨#[]⟩, 0, ⟨#[]⟩⟩, a)

/-- All that was there stays, the reader at g and the record at X aside. -/
structure Ry (g X : Nat) (w W : World) : Prop where
  os : W.os = w.os
  tape : W.tape = w.tape
  output : W.output = w.output
  size : w.heap.size ≤ W.heap.size
  block : ∀ k : Nat, k < w.heap.size → k ≠ g → k ≠ X → W.heap[k]? = w.heap[k]?
theorem Rx.ry {g X a : Nat} {t : ByteArray} {w W : World} {cs : Array Value} (h : Rx g X t w a cs W) : Ry g X w W := ⟨h.os, h.tape, h.output, h.size, h.block⟩
theorem Rx.gone {g X a : Nat} {t : ByteArray} {w W W' : World} {cs : Array Value} (h : Rx g X t w a cs W) (h2 : Hid (Rd g W W')) : Ry g X w W' :=
  ⟨h2.out.os.trans h.os, h2.out.tape.trans h.tape, h2.out.output.trans h.output, Nat.le_trans h.size h2.out.size, fun k hk h3 h4 => (h2.out.block k (Nat.lt_of_lt_of_le hk h.size) h3).trans (h.block k hk h3 h4)⟩

abbrev recA (r : Rc.Rec) : Array Value := #[.string r.name, .int .i64 r.typ, .int .i64 r.lasts, .int .i64 r.addr, .string r.text, .int .i64 r.port, .string r.target]
abbrev DatP (g X a : Nat) (t nm : ByteArray) (ty la : Int) (w : World) (e : Ending) (w' : World) : Prop :=
  (∃ r q, datF t a nm ty la = some (r, q) ∧ q ≤ t.size ∧ (r.name = nm ∧ r.text.size ≤ 1000 ∧ r.target.size ≤ 1000) ∧ e = .returned (.tuple #[]) ∧ Hid (Rx g X t w q (recA r) w')) ∨ (datF t a nm ty la = none ∧ e = outE 1 ∧ Hid (Ry g X w w'))

set_option maxHeartbeats 1600000 in
set_option maxRecDepth 100000 in
theorem rdatb_1 (g X a : Nat) (t nm : ByteArray) (la : Int) (w W : World) (h : Rx g X t w a #[.string nm, .int .i64 1, .int .i64 la, .int .i64 0, .string ⟨#[]⟩, .int .i64 0, .string ⟨#[]⟩] W) (hs : t.size ≤ 1000) (ha : a ≤ t.size) :
    Calls Tryd.prog 74 #[.pointer (some ⟨g, 0, none⟩), .pointer (some ⟨X, 0, none⟩)] W (DatP g X a t nm 1 la w) := by
  have HF : Hid (datF t a nm 1 la = if a + 4 ≤ t.size then some (⟨nm, 1, la, rnum t a 4, ⟨#[]⟩, 0, ⟨#[]⟩⟩, a + 4) else none) := if_pos rfl
  have H : Hid (Rx g X t w a #[.string nm, .int .i64 1, .int .i64 la, .int .i64 0, .string ⟨#[]⟩, .int .i64 0, .string ⟨#[]⟩] W) := h
  have HN : Hid (Calls Tryd.prog 56 #[.pointer (some ⟨g, 0, none⟩), .int .i64 4] W fun e w' => Hid (Rd g W w') ∧ ((a + 4 ≤ t.size ∧ e = .returned (.int .i64 (rnum t a 4)) ∧ Hid (IsR g t (a + 4) w')) ∨ (¬ a + 4 ≤ t.size ∧ e = outE 1))) := number_b g a 4 t W h.isR hs ha (by omega)
  have c1 : W.cell? ⟨X, 1, none⟩ = some (.int .i64 1) := h.cell 1
  clear h
  unfold DatP
  generalize datF t a nm 1 la = F at *
  go_enter Tryd.func74, Tryd.ntmps74
  go_wp2_with fail
  refine HN.out.mono ?_
  rintro e w1 ⟨h2, ⟨hle, rfl, h1⟩ | ⟨hno, rfl⟩⟩
  rotate_left
  · exact ⟨rfl, .inr ⟨HF.out.trans (if_neg hno), rfl, H.out.gone h2⟩⟩
  have H1 : Hid (Rx g X t w (a + 4) #[.string nm, .int .i64 1, .int .i64 la, .int .i64 0, .string ⟨#[]⟩, .int .i64 0, .string ⟨#[]⟩] w1) := H.out.call h1 h2
  have c3 : w1.cell? ⟨X, 3, none⟩ = some (.int .i64 0) := H1.out.cell 3
  have z3 := H1.out.free 3
  have HF1 : Hid (F = some (⟨nm, 1, la, rnum t a 4, ⟨#[]⟩, 0, ⟨#[]⟩⟩, a + 4)) := HF.out.trans (if_pos hle)
  clear h1 h2 HF
  generalize (rnum t a 4 : Int) = x at *
  go_wp2_with fail
  simp only [bodyPost, results, Tryd.results74]
  exact ⟨trivial, .tuple #[], by simp, .inl ⟨_, _, HF1.out, hle, ⟨rfl, by simp [ByteArray.size], by simp [ByteArray.size]⟩, rfl, H1.out.store 3 (.int .i64 x)⟩⟩

set_option maxHeartbeats 1600000 in
set_option maxRecDepth 100000 in
theorem rdatb_16 (g X a : Nat) (t nm : ByteArray) (la : Int) (w W : World) (h : Rx g X t w a #[.string nm, .int .i64 16, .int .i64 la, .int .i64 0, .string ⟨#[]⟩, .int .i64 0, .string ⟨#[]⟩] W) (hs : t.size ≤ 1000) (ha : a ≤ t.size) :
    Calls Tryd.prog 74 #[.pointer (some ⟨g, 0, none⟩), .pointer (some ⟨X, 0, none⟩)] W (DatP g X a t nm 16 la w) := by
  have HF : Hid (datF t a nm 16 la = if a + 1 + rnum t a 1 ≤ t.size then some (⟨nm, 16, la, 0, t.extract (a + 1) (a + 1 + rnum t a 1), 0, ⟨#[]⟩⟩, a + 1 + rnum t a 1) else none) := rfl
  have H : Hid (Rx g X t w a #[.string nm, .int .i64 16, .int .i64 la, .int .i64 0, .string ⟨#[]⟩, .int .i64 0, .string ⟨#[]⟩] W) := h
  have HN : Hid (Calls Tryd.prog 73 #[.pointer (some ⟨g, 0, none⟩)] W fun e w' => Hid (Rd g W w') ∧ ((a + 1 + rnum t a 1 ≤ t.size ∧ e = .returned (.string (t.extract (a + 1) (a + 1 + rnum t a 1))) ∧ Hid (IsR g t (a + 1 + rnum t a 1) w')) ∨ (¬ a + 1 + rnum t a 1 ≤ t.size ∧ e = outE 1))) := counted_b g a t W h.isR hs ha
  have hxs : a + 1 + rnum t a 1 ≤ t.size → (t.extract (a + 1) (a + 1 + rnum t a 1)).size ≤ 1000 := fun hl => by rw [lwS_ext t a _ hl]; omega
  have c1 : W.cell? ⟨X, 1, none⟩ = some (.int .i64 16) := h.cell 1
  clear h
  unfold DatP
  generalize datF t a nm 16 la = F at *
  generalize t.extract (a + 1) (a + 1 + rnum t a 1) = x at *
  generalize rnum t a 1 = y at *
  go_enter Tryd.func74, Tryd.ntmps74
  go_wp2_with fail
  refine HN.out.mono ?_
  rintro e w1 ⟨h2, ⟨hle, rfl, h1⟩ | ⟨hno, rfl⟩⟩
  rotate_left
  · exact ⟨rfl, .inr ⟨HF.out.trans (if_neg hno), rfl, H.out.gone h2⟩⟩
  have H1 : Hid (Rx g X t w (a + 1 + y) #[.string nm, .int .i64 16, .int .i64 la, .int .i64 0, .string ⟨#[]⟩, .int .i64 0, .string ⟨#[]⟩] w1) := H.out.call h1 h2
  have HF1 : Hid (F = some (⟨nm, 16, la, 0, x, 0, ⟨#[]⟩⟩, a + 1 + y)) := HF.out.trans (if_pos hle)
  have HCL : Hid (∀ W, Calls Tryd.prog 86 #[.string x] W fun e w' => e = .returned (.string x) ∧ Below W.heap.size W w') := fun W => sclone_any x W (hxs hle)
  have hx1 := hxs hle
  clear h1 h2 HF hxs
  go_wp2_with fail
  refine (HCL.out w1).mono ?_
  rintro e w2 ⟨rfl, hb2⟩
  have H2 : Hid (Rx g X t w (a + 1 + y) #[.string nm, .int .i64 16, .int .i64 la, .int .i64 0, .string ⟨#[]⟩, .int .i64 0, .string ⟨#[]⟩] w2) := H1.out.below hb2
  have c4 : w2.cell? ⟨X, 4, none⟩ = some (.string ⟨#[]⟩) := H2.out.cell 4
  have z4 := H2.out.free 4
  clear hb2
  go_wp2_with fail
  simp only [bodyPost, results, Tryd.results74]
  exact ⟨trivial, .tuple #[], by simp, .inl ⟨_, _, HF1.out, hle, ⟨rfl, hx1, by simp [ByteArray.size]⟩, rfl, H2.out.store 4 (.string x)⟩⟩

set_option maxHeartbeats 1600000 in
set_option maxRecDepth 100000 in
theorem rdatb_33 (g X a : Nat) (t nm : ByteArray) (la : Int) (w W : World) (h : Rx g X t w a #[.string nm, .int .i64 33, .int .i64 la, .int .i64 0, .string ⟨#[]⟩, .int .i64 0, .string ⟨#[]⟩] W) (hs : t.size ≤ 1000) (ha : a ≤ t.size) :
    Calls Tryd.prog 74 #[.pointer (some ⟨g, 0, none⟩), .pointer (some ⟨X, 0, none⟩)] W (DatP g X a t nm 33 la w) := by
  have HF : Hid (datF t a nm 33 la = if a + 2 ≤ t.size ∧ (rnum t a 2 : Int) = 0 then
      if a + 2 + 2 ≤ t.size ∧ (rnum t (a + 2) 2 : Int) = 0 then
        if a + 2 + 2 + 2 ≤ t.size then (tgF t (a + 2 + 2 + 2)).map fun x => (⟨nm, 33, la, 0, ⟨#[]⟩, rnum t (a + 2 + 2) 2, x.1⟩, x.2) else none
      else none
    else none) := rfl
  have H : Hid (Rx g X t w a #[.string nm, .int .i64 33, .int .i64 la, .int .i64 0, .string ⟨#[]⟩, .int .i64 0, .string ⟨#[]⟩] W) := h
  have c1 : W.cell? ⟨X, 1, none⟩ = some (.int .i64 33) := h.cell 1
  clear h
  unfold DatP
  generalize datF t a nm 33 la = F at *
  go_enter Tryd.func74, Tryd.ntmps74
  go_wp2_with fail
  refine (expect_b g a 2 0 t W H.out.isR hs ha (by omega)).mono ?_
  rintro e w1 ⟨h2, ⟨hle, rfl, h1⟩ | ⟨hno, rfl⟩⟩
  rotate_left
  · exact ⟨rfl, .inr ⟨HF.out.trans (if_neg hno), rfl, H.out.gone h2⟩⟩
  have H1 : Hid (Rx g X t w (a + 2) #[.string nm, .int .i64 33, .int .i64 la, .int .i64 0, .string ⟨#[]⟩, .int .i64 0, .string ⟨#[]⟩] w1) := H.out.call h1 h2
  have HF1 : Hid _ := HF.out.trans (if_pos hle)
  have hl1 := hle.1
  clear h1 h2 HF hle
  go_wp2_with fail
  refine (expect_b g (a + 2) 2 0 t w1 H1.out.isR hs hl1 (by omega)).mono ?_
  rintro e w2 ⟨h2, ⟨hle, rfl, h1⟩ | ⟨hno, rfl⟩⟩
  rotate_left
  · exact ⟨rfl, .inr ⟨HF1.out.trans (if_neg hno), rfl, H1.out.gone h2⟩⟩
  have H2 : Hid (Rx g X t w (a + 2 + 2) #[.string nm, .int .i64 33, .int .i64 la, .int .i64 0, .string ⟨#[]⟩, .int .i64 0, .string ⟨#[]⟩] w2) := H1.out.call h1 h2
  have HF2 : Hid _ := HF1.out.trans (if_pos hle)
  have hl2 := hle.1
  clear h1 h2 HF1 hle
  go_wp2_with fail
  refine (number_b g (a + 2 + 2) 2 t w2 H2.out.isR hs hl2 (by omega)).mono ?_
  rintro e w3 ⟨h2, ⟨hle, rfl, h1⟩ | ⟨hno, rfl⟩⟩
  rotate_left
  · exact ⟨rfl, .inr ⟨HF2.out.trans (if_neg hno), rfl, H2.out.gone h2⟩⟩
  have H3 : Hid (Rx g X t w (a + 2 + 2 + 2) #[.string nm, .int .i64 33, .int .i64 la, .int .i64 0, .string ⟨#[]⟩, .int .i64 0, .string ⟨#[]⟩] w3) := H2.out.call h1 h2
  have HF3 : Hid (F = (tgF t (a + 2 + 2 + 2)).map fun x => (⟨nm, 33, la, 0, ⟨#[]⟩, rnum t (a + 2 + 2) 2, x.1⟩, x.2)) := HF2.out.trans (if_pos hle)
  have c5 : w3.cell? ⟨X, 5, none⟩ = some (.int .i64 0) := H3.out.cell 5
  have z5 := H3.out.free 5
  clear h1 h2 HF2
  generalize (rnum t (a + 2 + 2) 2 : Int) = po at *
  go_wp2_with fail
  have H4 : Hid (Rx g X t w (a + 2 + 2 + 2) #[.string nm, .int .i64 33, .int .i64 la, .int .i64 0, .string ⟨#[]⟩, .int .i64 po, .string ⟨#[]⟩] (w3.setCell ⟨X, 5, none⟩ (.int .i64 po))) := H3.out.store 5 (.int .i64 po)
  refine (name_c g (a + 2 + 2 + 2) t _ H4.out.isR hs hle).mono ?_
  rintro e w4 ⟨h2, ⟨ta, q, h3, h4, h5, rfl, h1⟩ | ⟨h3, rfl⟩⟩
  rotate_left
  · exact ⟨rfl, .inr ⟨by rw [HF3.out, h3]; rfl, rfl, H4.out.gone h2⟩⟩
  have H5 : Hid (Rx g X t w q #[.string nm, .int .i64 33, .int .i64 la, .int .i64 0, .string ⟨#[]⟩, .int .i64 po, .string ⟨#[]⟩] w4) := H4.out.call h1 h2
  have HF4 : Hid (F = some (⟨nm, 33, la, 0, ⟨#[]⟩, po, ta⟩, q)) := (show _ = _ by rw [HF3.out, h3]; rfl)
  have c6 : w4.cell? ⟨X, 6, none⟩ = some (.string ⟨#[]⟩) := H5.out.cell 6
  have z6 := H5.out.free 6
  clear h1 h2 h3 HF3 H4 c5 z5
  go_wp2_with fail
  simp only [bodyPost, results, Tryd.results74]
  exact ⟨trivial, .tuple #[], by simp, .inl ⟨_, _, HF4.out, h5, ⟨rfl, by simp [ByteArray.size], h4⟩, rfl, H5.out.store 6 (.string ta)⟩⟩

set_option maxHeartbeats 1600000 in
set_option maxRecDepth 100000 in
theorem rdatb_else (g X a : Nat) (t nm : ByteArray) (ty la : Int) (w W : World) (h : Rx g X t w a #[.string nm, .int .i64 ty, .int .i64 la, .int .i64 0, .string ⟨#[]⟩, .int .i64 0, .string ⟨#[]⟩] W) (ha : a ≤ t.size) (h1 : ty ≠ 1) (h2 : ty ≠ 16) (h3 : ty ≠ 33) :
    Calls Tryd.prog 74 #[.pointer (some ⟨g, 0, none⟩), .pointer (some ⟨X, 0, none⟩)] W (DatP g X a t nm ty la w) := by
  have HF : Hid (datF t a nm ty la = some (⟨nm, ty, la, 0, ⟨#[]⟩, 0, ⟨#[]⟩⟩, a)) := (show _ = _ by unfold datF; rw [if_neg h1, if_neg h2, if_neg h3])
  have H : Hid (Rx g X t w a #[.string nm, .int .i64 ty, .int .i64 la, .int .i64 0, .string ⟨#[]⟩, .int .i64 0, .string ⟨#[]⟩] W) := h
  have c1 : W.cell? ⟨X, 1, none⟩ = some (.int .i64 ty) := h.cell 1
  have e1 : (ty == 1) = false := by simpa using h1
  have e2 : (ty == 16) = false := by simpa using h2
  have e3 : (ty == 33) = false := by simpa using h3
  clear h
  unfold DatP
  generalize datF t a nm ty la = F at *
  go_enter Tryd.func74, Tryd.ntmps74
  go_wp2_with fail
  simp only [bodyPost, results, Tryd.results74]
  exact ⟨trivial, .tuple #[], by simp, .inl ⟨_, _, HF.out, ha, ⟨rfl, by simp [ByteArray.size], by simp [ByteArray.size]⟩, rfl, H.out⟩⟩

/-- Data are read, or not. -/
theorem rdat_b (g X a : Nat) (t nm : ByteArray) (ty la : Int) (w W : World) (h : Rx g X t w a #[.string nm, .int .i64 ty, .int .i64 la, .int .i64 0, .string ⟨#[]⟩, .int .i64 0, .string ⟨#[]⟩] W) (hs : t.size ≤ 1000) (ha : a ≤ t.size) :
    Calls Tryd.prog 74 #[.pointer (some ⟨g, 0, none⟩), .pointer (some ⟨X, 0, none⟩)] W (DatP g X a t nm ty la w) := by
  by_cases h1 : ty = 1
  · subst h1; exact rdatb_1 g X a t nm la w W h hs ha
  by_cases h2 : ty = 16
  · subst h2; exact rdatb_16 g X a t nm la w W h hs ha
  by_cases h3 : ty = 33
  · subst h3; exact rdatb_33 g X a t nm la w W h hs ha
  exact rdatb_else g X a t nm ty la w W h ha h1 h2 h3

end Go.Proofs.YtogmkdhljifbpaaDoor

/- A record is read as it was written. -/
namespace Go.Proofs.YtogmkdhljifbpaaDoor
open Go.RowKit

theorem IsR.put {g a b : Nat} {t : ByteArray} {W : World} (h : IsR g t a W) (i : Nat) (v : Value) (hb : b ≠ g) : IsR g t a (W.setCell ⟨b, i, none⟩ v) :=
  ⟨(World.cell?_setCell_other _ _ _ _ (by intro e; simp at e)).trans h.c0, (World.cell?_setCell_other _ _ _ _ (by intro e; simp at e)).trans h.c1, by simpa using h.hz, by simpa using h.hg⟩
theorem chkRec_own {r : Rc.Rec} (h : chkRec r = 0) : ownB r = true := by
  unfold chkRec at h
  split at h
  · omega
  split at h
  · omega
  split at h
  · omega
  split at h
  · omega
  rename_i h4
  simpa using h4
theorem recNums {r : Rc.Rec} (h : chkRec r = 0) : (0 ≤ r.lasts ∧ r.lasts < 256 ^ 4) ∧ (0 ≤ r.addr ∧ r.addr < 256 ^ 4) ∧ (0 ≤ r.port ∧ r.port < 256 ^ 2) ∧ (0 ≤ r.typ ∧ r.typ < 256 ^ 2) := by
  have h2 := (chkRec_facts h).2.1
  unfold chkRec at h
  split at h
  · omega
  split at h
  · omega
  split at h
  · omega
  rename_i h3
  split at h
  · omega
  split at h
  · omega
  rename_i h5
  have h3' : within r.lasts 0 2147483647 = true := by simpa using h3
  have h5' : (within r.addr 0 4294967295 && within r.port 0 65535) = true := by simpa using h5
  simp only [within, Bool.and_eq_true, decide_eq_true_eq] at h3' h5'
  simp only [typB, Bool.or_eq_true, decide_eq_true_eq] at h2
  refine ⟨⟨h3'.1, by omega⟩, ⟨h5'.1.1, by omega⟩, ⟨h5'.2.1, by omega⟩, by omega, by omega⟩

/-- Data are read, whatever the type. -/
theorem rdata_any (g X a : Nat) (t : ByteArray) (r : Rc.Rec) (w W : World) (h : Rx g X t w a #[.string r.name, .int .i64 r.typ, .int .i64 r.lasts, .int .i64 0, .string ⟨#[]⟩, .int .i64 0, .string ⟨#[]⟩] W) (hs : t.size ≤ 1000) (hc : chkRec r = 0) (hat : AtW t a (wdatL r)) :
    Calls Tryd.prog 74 #[.pointer (some ⟨g, 0, none⟩), .pointer (some ⟨X, 0, none⟩)] W fun e w' => e = .returned (.tuple #[]) ∧ Rx g X t w (a + (wdatL r).length) #[.string r.name, .int .i64 r.typ, .int .i64 r.lasts, .int .i64 r.addr, .string r.text, .int .i64 r.port, .string r.target] w' := by
  have ho := chkRec_own hc
  obtain ⟨n1, n2, n3, n4⟩ := chkRec_facts hc
  obtain ⟨_, ⟨m3, m4⟩, ⟨m5, m6⟩, _⟩ := recNums hc
  obtain ⟨name, typ, lasts, addr, text, port, target⟩ := r
  simp only at *
  have htt : typ = 1 ∨ typ = 16 ∨ typ = 33 := by
    simp only [typB, Bool.or_eq_true, decide_eq_true_eq, or_assoc] at n2
    exact n2
  simp only [ownB, Bool.and_eq_true, Bool.or_eq_true, decide_eq_true_eq] at ho
  obtain ⟨o1, o2, o3⟩ := ho
  have htl : text.data.toList.length = text.size := by simp
  rcases htt with rfl | rfl | rfl
  · have e2 := isempty (by omega : text.size = 0)
    have e3 : port = 0 := by omega
    have e4 := isempty (by omega : target.size = 0)
    subst e2 e3 e4
    have hw : wdatL ⟨name, 1, lasts, addr, ⟨#[]⟩, 0, ⟨#[]⟩⟩ = nbl addr 4 := rfl
    rw [hw] at hat ⊢
    rw [nbl_len]
    exact rdata_1 g X a t name lasts addr w W h hs m3 m4 hat
  · have e1 : addr = 0 := by omega
    have e3 : port = 0 := by omega
    have e4 := isempty (by omega : target.size = 0)
    subst e1 e3 e4
    have hw : wdatL ⟨name, 16, lasts, 0, text, 0, ⟨#[]⟩⟩ = nbl text.size 1 ++ text.data.toList := rfl
    rw [hw] at hat ⊢
    rw [List.length_append, nbl_len, htl, ← Nat.add_assoc]
    exact rdata_16 g X a t name text lasts w W h hs n3 hat
  · have e1 : addr = 0 := by omega
    have e2 := isempty (by omega : text.size = 0)
    subst e1 e2
    have hw : wdatL ⟨name, 33, lasts, 0, ⟨#[]⟩, port, target⟩ = nbl 0 2 ++ (nbl 0 2 ++ (nbl port 2 ++ wnameL target)) := rfl
    rw [hw] at hat ⊢
    have hl : a + (nbl 0 2 ++ (nbl 0 2 ++ (nbl port 2 ++ wnameL target))).length = a + 6 + (wnameL target).length := by
      simp only [List.length_append, nbl_len]; omega
    rw [hl]
    exact rdata_33 g X a t name target lasts port w W h hs m5 m6 n4 hat

set_option maxHeartbeats 1600000 in
set_option maxRecDepth 100000 in
theorem rrec_any (g a : Nat) (r : Rc.Rec) (t : ByteArray) (w : World) (h : IsR g t a w) (hs : t.size ≤ 1000) (hc : chkRec r = 0) (hat : AtW t a (wrecL r)) :
    Calls Tryd.prog 60 #[.pointer (some ⟨g, 0, none⟩)] w fun e w' => e = .returned (recV r) ∧ Hid (IsR g t (a + (wrecL r).length) w') ∧ Hid (Rd g w w') := by
  have HI : Hid (IsR g t a w) := h
  have hg := h.hg
  obtain ⟨n1, n2, n3, n4⟩ := chkRec_facts hc
  obtain ⟨⟨m1, m2⟩, _, _, m7, m8⟩ := recNums hc
  have hdl := wdat_len n3 n4
  rw [wdat_cells, Lib.byteCells_length] at hdl
  have hsz := hat.size
  unfold wrecL at hat hsz ⊢
  have a1 := hat.left
  have a2 := hat.right
  have a3 := a2.left
  have a4 := a2.right
  rw [nbl_len] at a4
  have a5 := a4.left
  have a6 := a4.right
  rw [nbl_len] at a6
  have a7 := a6.left
  have a8 := a6.right
  rw [nbl_len] at a8
  have a9 := a8.left
  have a10 := a8.right
  rw [nbl_len] at a10
  have r3 := rnum_is m7 m8 a3
  have r5 := rnum_is (n := 1) (by omega) (by omega) a5
  have r7 := rnum_is m1 m2 a7
  have r9 := rnum_is (n := (wdatL r).length) (by omega) (by omega) a9
  simp only [List.length_append, nbl_len] at hsz ⊢
  have A1 : Hid (AtW t a (wnameL r.name)) := a1
  have R3 : Hid ((rnum t (a + (wnameL r.name).length) 2 : Int) = r.typ) := r3
  have R5 : Hid (rnum t (a + (wnameL r.name).length + 2) 2 = 1) := (show _ = _ by omega)
  have R7 : Hid ((rnum t (a + (wnameL r.name).length + 2 + 2) 4 : Int) = r.lasts) := r7
  have R9 : Hid ((rnum t (a + (wnameL r.name).length + 2 + 2 + 4) 2 : Int) = ((wdatL r).length : Int)) := r9
  have HDA : Hid (∀ wb X W, Rx g X t wb (a + (wnameL r.name).length + 2 + 2 + 4 + 2) #[.string r.name, .int .i64 r.typ, .int .i64 r.lasts, .int .i64 0, .string ⟨#[]⟩, .int .i64 0, .string ⟨#[]⟩] W → Calls Tryd.prog 74 #[.pointer (some ⟨g, 0, none⟩), .pointer (some ⟨X, 0, none⟩)] W fun e w' => e = .returned (.tuple #[]) ∧ Rx g X t wb (a + (wnameL r.name).length + 2 + 2 + 4 + 2 + (wdatL r).length) #[.string r.name, .int .i64 r.typ, .int .i64 r.lasts, .int .i64 r.addr, .string r.text, .int .i64 r.port, .string r.target] w') := fun wb X W hX => rdata_any g X _ t r wb W hX hs hc a10
  clear h hat a1 a2 a3 a4 a5 a6 a7 a8 a9 a10 r3 r5 r7 r9 n2 n3 n4 m1 m2 m7 m8 hc
  generalize (wdatL r).length = dn at *
  generalize hnl : (wnameL r.name).length = nl at *
  have HNL : Hid ((wnameL r.name).length = nl) := hnl
  clear hnl
  go_enter Tryd.func60, Tryd.ntmps60
  go_wp2_with fail
  obtain ⟨wq, hwq⟩ : ∃ wq, wq = w.alloc (.cells #[.string ⟨#[]⟩, .int .i64 0, .int .i64 0, .int .i64 0, .string ⟨#[]⟩, .int .i64 0, .string ⟨#[]⟩] 54) := ⟨_, rfl⟩
  have hnq : wq.heap.size = w.heap.size + 1 := by rw [hwq]; simp
  have hxq : w.Extends wq := by rw [hwq]; exact (World.Extends.refl w).alloc _
  have hgq : wq.heap[w.heap.size]? = some (.cells #[.string ⟨#[]⟩, .int .i64 0, .int .i64 0, .int .i64 0, .string ⟨#[]⟩, .int .i64 0, .string ⟨#[]⟩] 54 (0, 0)) := by rw [hwq]; exact heap_alloc_new w _
  rw [← hwq]
  clear hwq
  have H0 : Hid (Rx g (w.heap.size + 1) t wq a #[.string ⟨#[]⟩, .int .i64 0, .int .i64 0, .int .i64 0, .string ⟨#[]⟩, .int .i64 0, .string ⟨#[]⟩] (wq.alloc (.cells #[.string ⟨#[]⟩, .int .i64 0, .int .i64 0, .int .i64 0, .string ⟨#[]⟩, .int .i64 0, .string ⟨#[]⟩] 54))) := (show Rx _ _ _ _ _ _ _ by
    have hx : wq.Extends (wq.alloc (.cells #[.string ⟨#[]⟩, .int .i64 0, .int .i64 0, .int .i64 0, .string ⟨#[]⟩, .int .i64 0, .string ⟨#[]⟩] 54)) := (World.Extends.refl wq).alloc _
    have hn := heap_alloc_new wq (.cells #[.string ⟨#[]⟩, .int .i64 0, .int .i64 0, .int .i64 0, .string ⟨#[]⟩, .int .i64 0, .string ⟨#[]⟩] 54)
    rw [hnq] at hn
    exact ⟨(HI.out.ext hxq).ext hx, hn, rfl, rfl, rfl, hx.size, fun k hk _ _ => hx.block k hk, by omega⟩)
  refine (rname_any g a r.name t _ H0.out.isR hs n1 A1.out).mono ?_
  rintro e w1 ⟨rfl, h1, h2⟩
  rw [HNL.out] at h1
  have H1 : Hid (Rx g (w.heap.size + 1) t wq (a + nl) #[.string ⟨#[]⟩, .int .i64 0, .int .i64 0, .int .i64 0, .string ⟨#[]⟩, .int .i64 0, .string ⟨#[]⟩] w1) := H0.out.call h1 h2
  have c0 : w1.cell? ⟨w.heap.size + 1, 0, none⟩ = some (.string ⟨#[]⟩) := H1.out.cell 0
  have z0 := H1.out.free 0
  clear h1 h2 H0
  go_wp2_with fail
  have H2 : Hid (Rx g (w.heap.size + 1) t wq (a + nl) #[.string r.name, .int .i64 0, .int .i64 0, .int .i64 0, .string ⟨#[]⟩, .int .i64 0, .string ⟨#[]⟩] (w1.setCell ⟨w.heap.size + 1, 0, none⟩ (.string r.name))) := H1.out.store 0 (.string r.name)
  refine (number_r g (a + nl) 2 t _ H2.out.isR hs (by omega) (by omega)).mono ?_
  rintro e w2 ⟨rfl, h1, h2⟩
  rw [R3.out]
  have H3 : Hid (Rx g (w.heap.size + 1) t wq (a + nl + 2) #[.string r.name, .int .i64 0, .int .i64 0, .int .i64 0, .string ⟨#[]⟩, .int .i64 0, .string ⟨#[]⟩] w2) := H2.out.call h1 h2
  have c1 : w2.cell? ⟨w.heap.size + 1, 1, none⟩ = some (.int .i64 0) := H3.out.cell 1
  have z1 := H3.out.free 1
  clear h1 h2 H1 H2 c0 z0
  go_wp2_with fail
  have H4 : Hid (Rx g (w.heap.size + 1) t wq (a + nl + 2) #[.string r.name, .int .i64 r.typ, .int .i64 0, .int .i64 0, .string ⟨#[]⟩, .int .i64 0, .string ⟨#[]⟩] (w2.setCell ⟨w.heap.size + 1, 1, none⟩ (.int .i64 r.typ))) := H3.out.store 1 (.int .i64 r.typ)
  refine (expect_r g (a + nl + 2) 2 1 t _ H4.out.isR hs (by omega) (by omega) R5.out).mono ?_
  rintro e w3 ⟨rfl, h1, h2⟩
  have H5 : Hid (Rx g (w.heap.size + 1) t wq (a + nl + 2 + 2) #[.string r.name, .int .i64 r.typ, .int .i64 0, .int .i64 0, .string ⟨#[]⟩, .int .i64 0, .string ⟨#[]⟩] w3) := H4.out.call h1 h2
  clear h1 h2 H3 H4 c1 z1
  go_wp2_with fail
  refine (number_r g (a + nl + 2 + 2) 4 t _ H5.out.isR hs (by omega) (by omega)).mono ?_
  rintro e w4 ⟨rfl, h1, h2⟩
  rw [R7.out]
  have H6 : Hid (Rx g (w.heap.size + 1) t wq (a + nl + 2 + 2 + 4) #[.string r.name, .int .i64 r.typ, .int .i64 0, .int .i64 0, .string ⟨#[]⟩, .int .i64 0, .string ⟨#[]⟩] w4) := H5.out.call h1 h2
  have c2 : w4.cell? ⟨w.heap.size + 1, 2, none⟩ = some (.int .i64 0) := H6.out.cell 2
  have z2 := H6.out.free 2
  clear h1 h2 H5
  go_wp2_with fail
  have H7 : Hid (Rx g (w.heap.size + 1) t wq (a + nl + 2 + 2 + 4) #[.string r.name, .int .i64 r.typ, .int .i64 r.lasts, .int .i64 0, .string ⟨#[]⟩, .int .i64 0, .string ⟨#[]⟩] (w4.setCell ⟨w.heap.size + 1, 2, none⟩ (.int .i64 r.lasts))) := H6.out.store 2 (.int .i64 r.lasts)
  refine (number_r g (a + nl + 2 + 2 + 4) 2 t _ H7.out.isR hs (by omega) (by omega)).mono ?_
  rintro e w5 ⟨rfl, h1, h2⟩
  rw [R9.out]
  have H8 : Hid (Rx g (w.heap.size + 1) t wq (a + nl + 2 + 2 + 4 + 2) #[.string r.name, .int .i64 r.typ, .int .i64 r.lasts, .int .i64 0, .string ⟨#[]⟩, .int .i64 0, .string ⟨#[]⟩] w5) := H7.out.call h1 h2
  have ca : w5.cell? ⟨g, 1, none⟩ = some (.int .i64 ((a + nl + 2 + 2 + 4 + 2 : Nat) : Int)) := H8.out.isR.c1
  clear h1 h2 H6 H7 c2 z2
  go_wp2_with fail
  refine (HDA.out wq _ w5 H8.out).mono ?_
  rintro e w9 ⟨rfl, h9⟩
  have H9 : Hid (Rx g (w.heap.size + 1) t wq (a + nl + 2 + 2 + 4 + 2 + dn) #[.string r.name, .int .i64 r.typ, .int .i64 r.lasts, .int .i64 r.addr, .string r.text, .int .i64 r.port, .string r.target] w9) := h9
  have HQ9 : Hid (w9.heap[w.heap.size]? = some (.cells #[.string ⟨#[]⟩, .int .i64 0, .int .i64 0, .int .i64 0, .string ⟨#[]⟩, .int .i64 0, .string ⟨#[]⟩] 54 (0, 0))) := (h9.block _ (by omega) (by omega) (by omega)).trans hgq
  have cb : w9.cell? ⟨g, 1, none⟩ = some (.int .i64 ((a + nl + 2 + 2 + 4 + 2 + dn : Nat) : Int)) := h9.isR.c1
  clear h9 H8 ca
  have m0 : w9.cell? ⟨w.heap.size + 1, 0, none⟩ = some (.string r.name) := H9.out.cell 0
  have q0 : w9.cell? ⟨w.heap.size, 0, none⟩ = some (.string ⟨#[]⟩) := cellsAt HQ9.out 0
  have y0 : w9.frozen? ⟨w.heap.size, 0, none⟩ = false := by simp [World.frozen?, HQ9.out]
  have m1 : w9.cell? ⟨w.heap.size + 1, 1, none⟩ = some (.int .i64 r.typ) := H9.out.cell 1
  have q1 : w9.cell? ⟨w.heap.size, 1, none⟩ = some (.int .i64 0) := cellsAt HQ9.out 1
  have y1 : w9.frozen? ⟨w.heap.size, 1, none⟩ = false := by simp [World.frozen?, HQ9.out]
  have m2 : w9.cell? ⟨w.heap.size + 1, 2, none⟩ = some (.int .i64 r.lasts) := H9.out.cell 2
  have q2 : w9.cell? ⟨w.heap.size, 2, none⟩ = some (.int .i64 0) := cellsAt HQ9.out 2
  have y2 : w9.frozen? ⟨w.heap.size, 2, none⟩ = false := by simp [World.frozen?, HQ9.out]
  have m3 : w9.cell? ⟨w.heap.size + 1, 3, none⟩ = some (.int .i64 r.addr) := H9.out.cell 3
  have q3 : w9.cell? ⟨w.heap.size, 3, none⟩ = some (.int .i64 0) := cellsAt HQ9.out 3
  have y3 : w9.frozen? ⟨w.heap.size, 3, none⟩ = false := by simp [World.frozen?, HQ9.out]
  have m4 : w9.cell? ⟨w.heap.size + 1, 4, none⟩ = some (.string r.text) := H9.out.cell 4
  have q4 : w9.cell? ⟨w.heap.size, 4, none⟩ = some (.string ⟨#[]⟩) := cellsAt HQ9.out 4
  have y4 : w9.frozen? ⟨w.heap.size, 4, none⟩ = false := by simp [World.frozen?, HQ9.out]
  have m5 : w9.cell? ⟨w.heap.size + 1, 5, none⟩ = some (.int .i64 r.port) := H9.out.cell 5
  have q5 : w9.cell? ⟨w.heap.size, 5, none⟩ = some (.int .i64 0) := cellsAt HQ9.out 5
  have y5 : w9.frozen? ⟨w.heap.size, 5, none⟩ = false := by simp [World.frozen?, HQ9.out]
  have m6 : w9.cell? ⟨w.heap.size + 1, 6, none⟩ = some (.string r.target) := H9.out.cell 6
  have q6 : w9.cell? ⟨w.heap.size, 6, none⟩ = some (.string ⟨#[]⟩) := cellsAt HQ9.out 6
  have y6 : w9.frozen? ⟨w.heap.size, 6, none⟩ = false := by simp [World.frozen?, HQ9.out]
  have hsub : ((a + nl + 2 + 2 + 4 + 2 + dn : Nat) : Int) - ((a + nl + 2 + 2 + 4 + 2 : Nat) : Int) = (dn : Int) := by omega
  have hwr : IntKind.i64.wrap (((a + nl + 2 + 2 + 4 + 2 + dn : Nat) : Int) - ((a + nl + 2 + 2 + 4 + 2 : Nat) : Int)) = (dn : Int) := by rw [hsub, IntKind.wrap_i64]; omega
  have hbq : ((a : Int) + (nl : Int) + 2 + 2 + 4 + 2 + (dn : Int) - ((a : Int) + (nl : Int) + 2 + 2 + 4 + 2) == (dn : Int)) = true := by rw [beq_iff_eq]; omega
  have HBQ : Hid (((a : Int) + (nl : Int) + 2 + 2 + 4 + 2 + (dn : Int) - ((a : Int) + (nl : Int) + 2 + 2 + 4 + 2) == (dn : Int)) = true) := hbq
  clear hbq hsub hwr
  go_wp2_with fail
  rw [HBQ.out]
  refine (need_ok _ _).mono ?_
  rintro e w10 ⟨rfl, hw10⟩
  subst hw10
  go_wp2_with fail
  refine bodyPost_ret (v := recV r) ?_ rfl ⟨rfl, ?_, ?_⟩
  · simp [results, Tryd.results60, go_sem, q0, q1, q2, q3, q4, q5, q6]
  · have he : a + (nl + (2 + (2 + (4 + (2 + dn))))) = a + nl + 2 + 2 + 4 + 2 + dn := by omega
    rw [he]
    exact ((((((((H9.out.isR).put 0 _ (by omega)).put 1 _ (by omega)).put 2 _ (by omega)).put 3 _ (by omega)).put 4 _ (by omega)).put 5 _ (by omega)).put 6 _ (by omega))
  · have hrd : Rd g w w10 := ⟨H9.out.os.trans hxq.os, H9.out.tape.trans hxq.tape, H9.out.output.trans hxq.output, by have := H9.out.size; omega, fun k hk hkg => (H9.out.block k (by omega) hkg (by omega)).trans (hxq.block k hk)⟩
    exact (((((((hrd.put 0 _ (Nat.le_refl _)).put 1 _ (Nat.le_refl _)).put 2 _ (Nat.le_refl _)).put 3 _ (Nat.le_refl _)).put 4 _ (Nat.le_refl _)).put 5 _ (Nat.le_refl _)).put 6 _ (Nat.le_refl _))

end Go.Proofs.YtogmkdhljifbpaaDoor

