/- GZ, FV -/
import Derived.Test.YtogmkdhljifbpaaDoorW11
import Derived.Test.YtogmkdhljifbpaaDoorW9
/- A record is read, or there is none: both ways. -/
namespace Go.Proofs.YtogmkdhljifbpaaDoor
open Go.RowKit

/-- The record, if its data are as long as it says. -/
def recH (t : ByteArray) (p : Nat) (o : Option (Rc.Rec × Nat)) : Option (Rc.Rec × Nat) :=
  match o with
  | none => none
  | some (r, q) => if (q : Int) - ((p + 2 + 2 + 4 + 2 : Nat) : Int) = (rnum t (p + 2 + 2 + 4) 2 : Int) then some (r, q) else none
/-- The record of that name whose rest stands at p. -/
def recG (t nm : ByteArray) (p : Nat) : Option (Rc.Rec × Nat) :=
  if p + 2 ≤ t.size then
    if p + 2 + 2 ≤ t.size ∧ (rnum t (p + 2) 2 : Int) = 1 then
      if p + 2 + 2 + 4 ≤ t.size then
        if p + 2 + 2 + 4 + 2 ≤ t.size then recH t p (datF t (p + 2 + 2 + 4 + 2) nm (rnum t p 2) (rnum t (p + 2 + 2) 4)) else none
      else none
    else none
  else none
/-- The record that stands at a, and where the reader is behind it. -/
def recF (t : ByteArray) (a : Nat) : Option (Rc.Rec × Nat) :=
  match tgF t a with
  | none => none
  | some (nm, p) => recG t nm p

theorem Ry.rd {g X : Nat} {w wq W : World} (h : Ry g X wq W) (hx : w.Extends wq) (hX : w.heap.size ≤ X) : Rd g w W :=
  ⟨h.os.trans hx.os, h.tape.trans hx.tape, h.output.trans hx.output, Nat.le_trans hx.size h.size, fun k hk hg => (h.block k (Nat.lt_of_lt_of_le hk hx.size) hg (by omega)).trans (hx.block k hk)⟩

set_option maxHeartbeats 1600000 in
set_option maxRecDepth 100000 in
theorem rrec_b (g a : Nat) (t : ByteArray) (w : World) (h : IsR g t a w) (hs : t.size ≤ 1000) (ha : a ≤ t.size) :
    Calls Tryd.prog 60 #[.pointer (some ⟨g, 0, none⟩)] w fun e w' => Hid (Rd g w w') ∧ ((∃ r q, recF t a = some (r, q) ∧ q ≤ t.size ∧ r.ok ∧ e = .returned (recV r) ∧ Hid (IsR g t q w')) ∨ (recF t a = none ∧ e = outE 1)) := by
  have HI : Hid (IsR g t a w) := h
  have hg := h.hg
  have HF : Hid (recF t a = match tgF t a with | none => none | some (nm, p) => recG t nm p) := rfl
  clear h
  generalize recF t a = F at *
  go_enter Tryd.func60, Tryd.ntmps60
  go_wp2_with fail
  obtain ⟨wq, hwq⟩ : ∃ wq, wq = w.alloc (.cells #[.string ⟨#[]⟩, .int .i64 0, .int .i64 0, .int .i64 0, .string ⟨#[]⟩, .int .i64 0, .string ⟨#[]⟩] 54) := ⟨_, rfl⟩
  have hnq : wq.heap.size = w.heap.size + 1 := by rw [hwq]; simp
  have hxq : w.Extends wq := by rw [hwq]; exact (World.Extends.refl w).alloc _
  have hgq : wq.heap[w.heap.size]? = some (.cells #[.string ⟨#[]⟩, .int .i64 0, .int .i64 0, .int .i64 0, .string ⟨#[]⟩, .int .i64 0, .string ⟨#[]⟩] 54 (0, 0)) := by rw [hwq]; exact heap_alloc_new w _
  rw [← hwq]
  clear hwq
  have HXQ : Hid (w.Extends wq) := hxq
  have HGQ : Hid (wq.heap[w.heap.size]? = some (.cells #[.string ⟨#[]⟩, .int .i64 0, .int .i64 0, .int .i64 0, .string ⟨#[]⟩, .int .i64 0, .string ⟨#[]⟩] 54 (0, 0))) := hgq
  have H0 : Hid (Rx g (w.heap.size + 1) t wq a #[.string ⟨#[]⟩, .int .i64 0, .int .i64 0, .int .i64 0, .string ⟨#[]⟩, .int .i64 0, .string ⟨#[]⟩] (wq.alloc (.cells #[.string ⟨#[]⟩, .int .i64 0, .int .i64 0, .int .i64 0, .string ⟨#[]⟩, .int .i64 0, .string ⟨#[]⟩] 54))) := (show Rx _ _ _ _ _ _ _ by
    have hx : wq.Extends (wq.alloc (.cells #[.string ⟨#[]⟩, .int .i64 0, .int .i64 0, .int .i64 0, .string ⟨#[]⟩, .int .i64 0, .string ⟨#[]⟩] 54)) := (World.Extends.refl wq).alloc _
    have hn := heap_alloc_new wq (.cells #[.string ⟨#[]⟩, .int .i64 0, .int .i64 0, .int .i64 0, .string ⟨#[]⟩, .int .i64 0, .string ⟨#[]⟩] 54)
    rw [hnq] at hn
    exact ⟨(HI.out.ext hxq).ext hx, hn, rfl, rfl, rfl, hx.size, fun k hk _ _ => hx.block k hk, by omega⟩)
  clear hxq hgq
  refine (name_c g a t _ H0.out.isR hs ha).mono ?_
  rintro e w1 ⟨h2, ⟨nm, p, h3, h4, h5, rfl, h1⟩ | ⟨h3, rfl⟩⟩
  rotate_left
  · exact ⟨rfl, (H0.out.gone h2).rd HXQ.out (by omega), .inr ⟨by rw [HF.out, h3], rfl⟩⟩
  have HF1 : Hid (F = recG t nm p) := (show _ = _ by rw [HF.out, h3])
  have HF2 : Hid (F = if p + 2 ≤ t.size then
      if p + 2 + 2 ≤ t.size ∧ (rnum t (p + 2) 2 : Int) = 1 then
        if p + 2 + 2 + 4 ≤ t.size then
          if p + 2 + 2 + 4 + 2 ≤ t.size then recH t p (datF t (p + 2 + 2 + 4 + 2) nm (rnum t p 2) (rnum t (p + 2 + 2) 4)) else none
        else none
      else none
    else none) := HF1
  have H1 : Hid (Rx g (w.heap.size + 1) t wq p #[.string ⟨#[]⟩, .int .i64 0, .int .i64 0, .int .i64 0, .string ⟨#[]⟩, .int .i64 0, .string ⟨#[]⟩] w1) := H0.out.call h1 h2
  have c0 : w1.cell? ⟨w.heap.size + 1, 0, none⟩ = some (.string ⟨#[]⟩) := H1.out.cell 0
  have z0 := H1.out.free 0
  clear h1 h2 h3 H0 HF HF1
  go_wp2_with fail
  have H2 : Hid (Rx g (w.heap.size + 1) t wq p #[.string nm, .int .i64 0, .int .i64 0, .int .i64 0, .string ⟨#[]⟩, .int .i64 0, .string ⟨#[]⟩] (w1.setCell ⟨w.heap.size + 1, 0, none⟩ (.string nm))) := H1.out.store 0 (.string nm)
  refine (number_b g p 2 t _ H2.out.isR hs h5 (by omega)).mono ?_
  rintro e w2 ⟨h2, ⟨hle, rfl, h1⟩ | ⟨hno, rfl⟩⟩
  rotate_left
  · exact ⟨rfl, (H2.out.gone h2).rd HXQ.out (by omega), .inr ⟨HF2.out.trans (if_neg hno), rfl⟩⟩
  have HF3 : Hid (F = if p + 2 + 2 ≤ t.size ∧ (rnum t (p + 2) 2 : Int) = 1 then
        if p + 2 + 2 + 4 ≤ t.size then
          if p + 2 + 2 + 4 + 2 ≤ t.size then recH t p (datF t (p + 2 + 2 + 4 + 2) nm (rnum t p 2) (rnum t (p + 2 + 2) 4)) else none
        else none
      else none) := HF2.out.trans (if_pos hle)
  have H3 : Hid (Rx g (w.heap.size + 1) t wq (p + 2) #[.string nm, .int .i64 0, .int .i64 0, .int .i64 0, .string ⟨#[]⟩, .int .i64 0, .string ⟨#[]⟩] w2) := H2.out.call h1 h2
  have c1 : w2.cell? ⟨w.heap.size + 1, 1, none⟩ = some (.int .i64 0) := H3.out.cell 1
  have z1 := H3.out.free 1
  clear h1 h2 H1 H2 c0 z0 HF2
  generalize (rnum t p 2 : Int) = ty at *
  go_wp2_with fail
  have H4 : Hid (Rx g (w.heap.size + 1) t wq (p + 2) #[.string nm, .int .i64 ty, .int .i64 0, .int .i64 0, .string ⟨#[]⟩, .int .i64 0, .string ⟨#[]⟩] (w2.setCell ⟨w.heap.size + 1, 1, none⟩ (.int .i64 ty))) := H3.out.store 1 (.int .i64 ty)
  refine (expect_b g (p + 2) 2 1 t _ H4.out.isR hs hle (by omega)).mono ?_
  rintro e w3 ⟨h2, ⟨hle2, rfl, h1⟩ | ⟨hno, rfl⟩⟩
  rotate_left
  · exact ⟨rfl, (H4.out.gone h2).rd HXQ.out (by omega), .inr ⟨HF3.out.trans (if_neg hno), rfl⟩⟩
  have HF4 : Hid (F = if p + 2 + 2 + 4 ≤ t.size then
          if p + 2 + 2 + 4 + 2 ≤ t.size then recH t p (datF t (p + 2 + 2 + 4 + 2) nm ty (rnum t (p + 2 + 2) 4)) else none
        else none) := HF3.out.trans (if_pos hle2)
  have H5 : Hid (Rx g (w.heap.size + 1) t wq (p + 2 + 2) #[.string nm, .int .i64 ty, .int .i64 0, .int .i64 0, .string ⟨#[]⟩, .int .i64 0, .string ⟨#[]⟩] w3) := H4.out.call h1 h2
  have hle3 := hle2.1
  clear h1 h2 H3 H4 c1 z1 HF3 hle2
  go_wp2_with fail
  refine (number_b g (p + 2 + 2) 4 t _ H5.out.isR hs hle3 (by omega)).mono ?_
  rintro e w4 ⟨h2, ⟨hle4, rfl, h1⟩ | ⟨hno, rfl⟩⟩
  rotate_left
  · exact ⟨rfl, (H5.out.gone h2).rd HXQ.out (by omega), .inr ⟨HF4.out.trans (if_neg hno), rfl⟩⟩
  have HF5 : Hid (F = if p + 2 + 2 + 4 + 2 ≤ t.size then recH t p (datF t (p + 2 + 2 + 4 + 2) nm ty (rnum t (p + 2 + 2) 4)) else none) := HF4.out.trans (if_pos hle4)
  have H6 : Hid (Rx g (w.heap.size + 1) t wq (p + 2 + 2 + 4) #[.string nm, .int .i64 ty, .int .i64 0, .int .i64 0, .string ⟨#[]⟩, .int .i64 0, .string ⟨#[]⟩] w4) := H5.out.call h1 h2
  have c2 : w4.cell? ⟨w.heap.size + 1, 2, none⟩ = some (.int .i64 0) := H6.out.cell 2
  have z2 := H6.out.free 2
  clear h1 h2 H5 HF4
  generalize (rnum t (p + 2 + 2) 4 : Int) = la at *
  go_wp2_with fail
  have H7 : Hid (Rx g (w.heap.size + 1) t wq (p + 2 + 2 + 4) #[.string nm, .int .i64 ty, .int .i64 la, .int .i64 0, .string ⟨#[]⟩, .int .i64 0, .string ⟨#[]⟩] (w4.setCell ⟨w.heap.size + 1, 2, none⟩ (.int .i64 la))) := H6.out.store 2 (.int .i64 la)
  refine (number_b g (p + 2 + 2 + 4) 2 t _ H7.out.isR hs hle4 (by omega)).mono ?_
  rintro e w5 ⟨h2, ⟨hle5, rfl, h1⟩ | ⟨hno, rfl⟩⟩
  rotate_left
  · exact ⟨rfl, (H7.out.gone h2).rd HXQ.out (by omega), .inr ⟨HF5.out.trans (if_neg hno), rfl⟩⟩
  have HF6 : Hid (F = recH t p (datF t (p + 2 + 2 + 4 + 2) nm ty la)) := HF5.out.trans (if_pos hle5)
  have H8 : Hid (Rx g (w.heap.size + 1) t wq (p + 2 + 2 + 4 + 2) #[.string nm, .int .i64 ty, .int .i64 la, .int .i64 0, .string ⟨#[]⟩, .int .i64 0, .string ⟨#[]⟩] w5) := H7.out.call h1 h2
  clear h1 h2 H6 H7 c2 z2 HF5
  have HRH : Hid (∀ r q, recH t p (some (r, q)) = if (q : Int) - ((p + 2 + 2 + 4 + 2 : Nat) : Int) = (rnum t (p + 2 + 2 + 4) 2 : Int) then some (r, q) else none) := fun r q => rfl
  have HRN : Hid (recH t p none = none) := rfl
  generalize (rnum t (p + 2 + 2 + 4) 2 : Int) = sz at *
  generalize hB : p + 2 + 2 + 4 + 2 = B at *
  clear hB
  have ca : w5.cell? ⟨g, 1, none⟩ = some (.int .i64 (B : Int)) := H8.out.isR.c1
  go_wp2_with fail
  refine (rdat_b g (w.heap.size + 1) B t nm ty la wq w5 H8.out hs hle5).mono ?_
  rintro e w9 (⟨r, q, h3, hq, ⟨k1, k2, k3⟩, rfl, H9⟩ | ⟨h3, rfl, h9⟩)
  rotate_left
  · exact ⟨rfl, h9.out.rd HXQ.out (by omega), .inr ⟨by rw [HF6.out, h3, HRN.out], rfl⟩⟩
  have HF7 : Hid (F = if (q : Int) - (B : Int) = sz then some (r, q) else none) := (show _ = _ by rw [HF6.out, h3, HRH.out])
  have hrok : r.ok := ⟨by rw [k1]; unfold maxLen; omega, by unfold maxLen; omega, by unfold maxLen; omega⟩
  have HQ9 : Hid (w9.heap[w.heap.size]? = some (.cells #[.string ⟨#[]⟩, .int .i64 0, .int .i64 0, .int .i64 0, .string ⟨#[]⟩, .int .i64 0, .string ⟨#[]⟩] 54 (0, 0))) := (H9.out.block _ (by omega) (by omega) (by omega)).trans HGQ.out
  have cb : w9.cell? ⟨g, 1, none⟩ = some (.int .i64 (q : Int)) := H9.out.isR.c1
  clear H8 ca HF6 h3 HRH HRN k1 k2 k3
  have HROK : Hid r.ok := hrok
  clear hrok
  have m0 : w9.cell? ⟨w.heap.size + 1, 0, none⟩ = some (.string r.name) := H9.out.cell 0
  have q0 : w9.cell? ⟨w.heap.size, 0, none⟩ = some (.string ⟨#[]⟩) := cellsAt HQ9.out 0
  have y0 : w9.frozen? ⟨w.heap.size, 0, none⟩ = false := by simp [World.frozen?, HQ9.out]
  have m1 : w9.cell? ⟨w.heap.size + 1, 1, none⟩ = some (.int .i64 r.typ) := H9.out.cell 1
  have q1 : w9.cell? ⟨w.heap.size, 1, none⟩ = some (.int .i64 0) := cellsAt HQ9.out 1
  have y1 : w9.frozen? ⟨w.heap.size, 1, none⟩ = false := by simp [World.frozen?, HQ9.out]
  have m2 : w9.cell? ⟨w.heap.size + 1, 2, none⟩ = some (.int .i64 r.lasts) := H9.out.cell 2
  have q2 : w9.cell? ⟨w.heap.size, 2, none⟩ = some (.int .i64 0) := cellsAt HQ9.out 2
  have y2 : w9.frozen? ⟨w.heap.size, 2, none⟩ = false := by simp [World.frozen?, HQ9.out]
  have m3 : w9.cell? ⟨w.heap.size + 1, 3, none⟩ = some (.int .i64 r.addr) := H9.out.cell 3
  have q3 : w9.cell? ⟨w.heap.size, 3, none⟩ = some (.int .i64 0) := cellsAt HQ9.out 3
  have y3 : w9.frozen? ⟨w.heap.size, 3, none⟩ = false := by simp [World.frozen?, HQ9.out]
  have m4 : w9.cell? ⟨w.heap.size + 1, 4, none⟩ = some (.string r.text) := H9.out.cell 4
  have q4 : w9.cell? ⟨w.heap.size, 4, none⟩ = some (.string ⟨#[]⟩) := cellsAt HQ9.out 4
  have y4 : w9.frozen? ⟨w.heap.size, 4, none⟩ = false := by simp [World.frozen?, HQ9.out]
  have m5 : w9.cell? ⟨w.heap.size + 1, 5, none⟩ = some (.int .i64 r.port) := H9.out.cell 5
  have q5 : w9.cell? ⟨w.heap.size, 5, none⟩ = some (.int .i64 0) := cellsAt HQ9.out 5
  have y5 : w9.frozen? ⟨w.heap.size, 5, none⟩ = false := by simp [World.frozen?, HQ9.out]
  have m6 : w9.cell? ⟨w.heap.size + 1, 6, none⟩ = some (.string r.target) := H9.out.cell 6
  have q6 : w9.cell? ⟨w.heap.size, 6, none⟩ = some (.string ⟨#[]⟩) := cellsAt HQ9.out 6
  have y6 : w9.frozen? ⟨w.heap.size, 6, none⟩ = false := by simp [World.frozen?, HQ9.out]
  have hwr : IntKind.i64.wrap ((q : Int) - (B : Int)) = (q : Int) - (B : Int) := by rw [IntKind.wrap_i64]; omega
  by_cases hsz : (q : Int) - (B : Int) = sz
  · have hbq : ((q : Int) - (B : Int) == sz) = true := by simpa using hsz
    have HF8 : Hid (F = some (r, q)) := HF7.out.trans (if_pos hsz)
    clear hsz HF7
    go_wp2_with fail
    refine (need_ok _ _).mono ?_
    rintro e w10 ⟨rfl, hw10⟩
    subst hw10
    go_wp2_with fail
    refine bodyPost_ret (v := recV r) ?_ rfl ⟨?_, .inl ⟨r, q, HF8.out, hq, HROK.out, rfl, ?_⟩⟩
    · simp [results, Tryd.results60, go_sem, q0, q1, q2, q3, q4, q5, q6]
    · have hrd : Rd g w w10 := H9.out.ry.rd HXQ.out (by omega)
      exact (((((((hrd.put 0 _ (Nat.le_refl _)).put 1 _ (Nat.le_refl _)).put 2 _ (Nat.le_refl _)).put 3 _ (Nat.le_refl _)).put 4 _ (Nat.le_refl _)).put 5 _ (Nat.le_refl _)).put 6 _ (Nat.le_refl _))
    · exact ((((((((H9.out.isR).put 0 _ (by omega)).put 1 _ (by omega)).put 2 _ (by omega)).put 3 _ (by omega)).put 4 _ (by omega)).put 5 _ (by omega)).put 6 _ (by omega))
  · have hbq : ((q : Int) - (B : Int) == sz) = false := by simpa using hsz
    have HF8 : Hid (F = none) := HF7.out.trans (if_neg hsz)
    clear hsz HF7
    go_wp2_with fail
    refine (need_no _ _).mono ?_
    rintro e w10 ⟨rfl, hw10⟩
    subst hw10
    exact ⟨rfl, H9.out.ry.rd HXQ.out (by omega), .inr ⟨HF8.out, rfl⟩⟩

end Go.Proofs.YtogmkdhljifbpaaDoor

/- Write, of any message: the walk. -/
namespace Go.Proofs.YtogmkdhljifbpaaDoor
open Go.RowKit

set_option maxHeartbeats 800000 in
set_option maxRecDepth 100000 in
theorem write1_any (g n : Nat) (E id code typ : Int) (ans cut : Bool) (name : ByteArray) (pa : Option Addr) (cap : Nat) (w : World) (hg : w.heap[g]? = some (.cells #[.int .i64 id, .bool ans, .bool cut, .int .i64 code, .string name, .int .i64 typ, .slice pa n cap] 30 (0, 0)))
    (hc : Calls Tryd.prog 30 #[.agg #[.int .i64 id, .bool ans, .bool cut, .int .i64 code, .string name, .int .i64 typ, .slice pa n cap]] w fun r w' => r = outE E ∧ Below w.heap.size w w') :
    Calls Tryd.prog 29 #[.pointer (some ⟨g, 0, none⟩)] w fun r w' => r = outE E ∧ Below w.heap.size w w' := by
  have HC : Hid (Calls Tryd.prog 30 #[.agg #[.int .i64 id, .bool ans, .bool cut, .int .i64 code, .string name, .int .i64 typ, .slice pa n cap]] w fun r w' => r = outE E ∧ Below w.heap.size w w') := hc
  have c0 : w.cell? ⟨g, 0, none⟩ = some (.int .i64 id) := cellsAt hg 0
  have c1 : w.cell? ⟨g, 1, none⟩ = some (.bool ans) := cellsAt hg 1
  have c2 : w.cell? ⟨g, 2, none⟩ = some (.bool cut) := cellsAt hg 2
  have c3 : w.cell? ⟨g, 3, none⟩ = some (.int .i64 code) := cellsAt hg 3
  have c4 : w.cell? ⟨g, 4, none⟩ = some (.string name) := cellsAt hg 4
  have c5 : w.cell? ⟨g, 5, none⟩ = some (.int .i64 typ) := cellsAt hg 5
  have c6 : w.cell? ⟨g, 6, none⟩ = some (.slice pa n cap) := cellsAt hg 6
  clear hc hg
  go_enter Tryd.func29, Tryd.ntmps29
  go_wp2_with fail
  refine HC.out.mono ?_
  rintro e w1 ⟨rfl, hb1⟩
  have HB1 : Hid (Below w.heap.size w w1) := hb1
  clear hb1
  by_cases h0 : E = 0
  · subst h0
    rw [outE_0]
    go_wp2_with fail
    simp [bodyPost, results, Tryd.results29]
    exact ⟨rfl, HB1.out⟩
  · rw [outE_ne h0]
    exact ⟨rfl, (outE_ne h0).symm, HB1.out⟩

/-- What Attempt tells of a check. -/
theorem attempt_any (f : Nat) (caps : Array Value) (E : Int) (w : World) (ef : ∀ args W, (callFunc f args).run Tryd.prog W = .ok (.enter f args) W)
    (hc : Calls Tryd.prog f caps (w.alloc (.cells #[.int .i64 0] 23)) fun r w' => r = outE E ∧ Below (w.heap.size + 1) (w.alloc (.cells #[.int .i64 0] 23)) w') :
    Calls Tryd.prog 28 #[.func (.func f) #[] caps] w fun r w' => r = .returned (.int .i64 E) ∧ Below w.heap.size w w' := by
  have hge : (w.alloc (.cells #[.int .i64 0] 23)).heap[w.heap.size]? = some (.cells #[.int .i64 0] 23 (0, 0)) := heap_alloc_new w _
  by_cases h0 : E = 0
  · subst h0
    refine (attempt_ok f caps w (fun W => Below (w.heap.size + 1) (w.alloc (.cells #[.int .i64 0] 23)) W) ef (hc.mono ?_)).mono ?_
    · rintro r w' ⟨rfl, hb⟩
      have hk : w'.heap[w.heap.size]? = some (.cells #[.int .i64 0] 23 (0, 0)) := (hb.block _ (by omega)).trans hge
      exact ⟨rfl, hb, cellsAt hk 0, by simp [World.frozen?, hk], (Array.getElem?_eq_some_iff.1 hk).1⟩
    · rintro r w' ⟨rfl, w1, hR, _, rfl⟩
      exact ⟨rfl, (((Below.refl _ _).alloc (Nat.le_refl _) _).trans (hR.mono (by omega))).setCell (p := ⟨w.heap.size, 0, none⟩) (Nat.le_refl _) _⟩
  · refine (attempt_no f caps E w (fun W => Below (w.heap.size + 1) (w.alloc (.cells #[.int .i64 0] 23)) W) ef (hc.mono ?_)).mono ?_
    · rintro r w' ⟨rfl, hb⟩
      have hk : w'.heap[w.heap.size]? = some (.cells #[.int .i64 0] 23 (0, 0)) := (hb.block _ (by omega)).trans hge
      exact ⟨outE_ne h0, hb, cellsAt hk 0, by simp [World.frozen?, hk], (Array.getElem?_eq_some_iff.1 hk).1⟩
    · rintro r w' ⟨rfl, w1, hR, _, hb⟩
      exact ⟨rfl, (((Below.refl _ _).alloc (Nat.le_refl _) _).trans (hR.mono (by omega))).trans hb⟩

def wrE (id code typ : Int) (ans cut : Bool) (name : ByteArray) (rs : List Rc.Rec) : Int := if chkMsg id code typ name rs = 0 then (if 512 < (wallL id code typ ans cut name rs).length then 2 else 0) else chkMsg id code typ name rs
def wrT (id code typ : Int) (ans cut : Bool) (name : ByteArray) (rs : List Rc.Rec) : ByteArray := if chkMsg id code typ name rs = 0 then (if 512 < (wallL id code typ ans cut name rs).length then ⟨#[]⟩ else ⟨(wallL id code typ ans cut name rs).toArray⟩) else ⟨#[]⟩

theorem row_below {w W : World} {b off : Nat} {rs : List Rc.Rec} (h : Rc.Row w b off rs) (hW : Below w.heap.size w W) (hb : b < w.heap.size) : Rc.Row W b off rs := fun j hj => by
  obtain ⟨c0, c1, c2, c3, c4, c5, c6⟩ := h j hj
  exact ⟨(hW.cell (p := ⟨b, off + j * 7, none⟩) hb).trans c0, (hW.cell (p := ⟨b, off + j * 7 + 1, none⟩) hb).trans c1, (hW.cell (p := ⟨b, off + j * 7 + 2, none⟩) hb).trans c2, (hW.cell (p := ⟨b, off + j * 7 + 3, none⟩) hb).trans c3, (hW.cell (p := ⟨b, off + j * 7 + 4, none⟩) hb).trans c4, (hW.cell (p := ⟨b, off + j * 7 + 5, none⟩) hb).trans c5, (hW.cell (p := ⟨b, off + j * 7 + 6, none⟩) hb).trans c6⟩

set_option maxHeartbeats 1600000 in
set_option maxRecDepth 100000 in
theorem write_any (id code typ : Int) (ans cut : Bool) (name : ByteArray) (rs : List Rc.Rec) (v : Value) (w : World) (hm : ML w) (hs : name.size ≤ maxLen) (hv : Rc.Sl w v rs) :
    Calls Tryd.prog 12 #[.agg #[.int .i64 id, .bool ans, .bool cut, .int .i64 code, .string name, .int .i64 typ, v]] w fun e w' => e = .returned (.tuple #[.string (wrT id code typ ans cut name rs), .int .i64 (wrE id code typ ans cut name rs)]) ∧ Below w.heap.size w w' := by
  have HSL : Hid (Rc.Sl w v rs) := hv
  obtain ⟨pa, cap, rfl, hok, hrow⟩ := hv
  have HROW : Hid (∀ W, Below w.heap.size w W → rs = [] ∨ ∃ b off, pa = some ⟨b, off, none⟩ ∧ b < W.heap.size ∧ Rc.Row W b off rs) := fun W hW => by
    rcases hrow with h | ⟨b, off, h1, h2, h3⟩
    · exact .inl h
    · exact .inr ⟨b, off, h1, Nat.lt_of_lt_of_le h2 hW.size, row_below h3 hW h2⟩
  have HWR : Hid (chkMsg id code typ name rs = 0 → ∀ W, Below w.heap.size w W → Calls Tryd.prog 31 #[.agg #[.int .i64 id, .bool ans, .bool cut, .int .i64 code, .string name, .int .i64 typ, .slice pa rs.length cap]] W fun e w' => e = .returned (.string ⟨(wallL id code typ ans cut name rs).toArray⟩) ∧ Below W.heap.size W w') := fun hc W hW => by
    obtain ⟨f1, f2, f3⟩ := chkMsg_facts hc
    exact written_any id code typ ans cut name rs pa cap W (hm.below hW) f2 f1 f3 (fun W2 hW2 => HROW.out W2 (hW.trans (hW2.mono hW.size)))
  have HC : Hid (∀ W, Below w.heap.size w W → Calls Tryd.prog 30 #[.agg #[.int .i64 id, .bool ans, .bool cut, .int .i64 code, .string name, .int .i64 typ, .slice pa rs.length cap]] W fun r w' => r = outE (chkMsg id code typ name rs) ∧ Below W.heap.size W w') := fun W hW => dcheck_any id code typ ans cut name rs _ W hs (HSL.out.below hW)
  have hWL : (⟨(wallL id code typ ans cut name rs).toArray⟩ : ByteArray).size = (wallL id code typ ans cut name rs).length := by simp [ByteArray.size]
  have ef : ∀ args W, (callFunc 29 args).run Tryd.prog W = .ok (.enter 29 args) W := enters_of Tryd.func29 (by kernel_rfl) rfl
  have HR1 : Hid (chkMsg id code typ name rs = 0 → ¬ 512 < (⟨(wallL id code typ ans cut name rs).toArray⟩ : ByteArray).size → wrT id code typ ans cut name rs = ⟨(wallL id code typ ans cut name rs).toArray⟩ ∧ wrE id code typ ans cut name rs = 0) := fun h1 h2 => by
    rw [hWL] at h2
    unfold wrT wrE
    rw [if_pos h1, if_pos h1, if_neg h2, if_neg h2]
    exact ⟨rfl, rfl⟩
  have HR2 : Hid (chkMsg id code typ name rs = 0 → 512 < (⟨(wallL id code typ ans cut name rs).toArray⟩ : ByteArray).size → wrT id code typ ans cut name rs = ⟨#[]⟩ ∧ wrE id code typ ans cut name rs = 2) := fun h1 h2 => by
    rw [hWL] at h2
    unfold wrT wrE
    rw [if_pos h1, if_pos h1, if_pos h2, if_pos h2]
    exact ⟨rfl, rfl⟩
  have HR3 : Hid (chkMsg id code typ name rs ≠ 0 → wrT id code typ ans cut name rs = ⟨#[]⟩ ∧ wrE id code typ ans cut name rs = chkMsg id code typ name rs) := fun h1 => by
    unfold wrT wrE
    rw [if_neg h1, if_neg h1]
    exact ⟨rfl, rfl⟩
  clear hm hs hok hrow HROW HSL hWL
  generalize chkMsg id code typ name rs = E at *
  generalize (⟨(wallL id code typ ans cut name rs).toArray⟩ : ByteArray) = T at *
  generalize wrT id code typ ans cut name rs = RT at *
  generalize wrE id code typ ans cut name rs = RE at *
  generalize rs.length = n at *
  go_enter Tryd.func12, Tryd.ntmps12
  go_wp2_with fail
  obtain ⟨w0, hw0⟩ : ∃ w0, w0 = w.alloc (.cells #[.int .i64 id, .bool ans, .bool cut, .int .i64 code, .string name, .int .i64 typ, .slice pa n cap] 30) := ⟨_, rfl⟩
  rw [← hw0]
  have hg0 : w0.heap[w.heap.size]? = some (.cells #[.int .i64 id, .bool ans, .bool cut, .int .i64 code, .string name, .int .i64 typ, .slice pa n cap] 30 (0, 0)) := by rw [hw0]; exact heap_alloc_new w _
  have HB0 : Hid (Below w.heap.size w w0) := (show Below _ _ _ by rw [hw0]; exact (Below.refl _ _).alloc (Nat.le_refl _) _)
  have hl0 : w.heap.size < w0.heap.size := (Array.getElem?_eq_some_iff.1 hg0).1
  clear hw0
  have HAT : Hid (Calls Tryd.prog 28 #[.func (.func 29) #[] #[.pointer (some ⟨w.heap.size, 0, none⟩)]] w0 fun r w' => r = .returned (.int .i64 E) ∧ Below w0.heap.size w0 w') := (show Calls _ _ _ _ _ by
    refine attempt_any 29 #[.pointer (some ⟨w.heap.size, 0, none⟩)] E w0 ef ?_
    have h := write1_any w.heap.size n E id code typ ans cut name pa cap (w0.alloc (.cells #[.int .i64 0] 23)) ((Lib.alloc_old w0 _ _ hl0).trans hg0) (HC.out _ (HB0.out.alloc (Nat.le_of_lt hl0) _))
    simpa using h)
  have HCB : Hid (∀ W, Below w0.heap.size w0 W → W.heap[w.heap.size]? = some (.cells #[.int .i64 id, .bool ans, .bool cut, .int .i64 code, .string name, .int .i64 typ, .slice pa n cap] 30 (0, 0))) := fun W hW => (hW.block _ hl0).trans hg0
  clear hg0 ef HC
  refine HAT.out.mono ?_
  rintro e w1 ⟨rfl, hb1⟩
  have HB1 : Hid (Below w.heap.size w w1) := HB0.out.trans (hb1.mono (Nat.le_of_lt hl0))
  have hg1 := HCB.out w1 hb1
  have c0 : w1.cell? ⟨w.heap.size, 0, none⟩ = some (.int .i64 id) := cellsAt hg1 0
  have c1 : w1.cell? ⟨w.heap.size, 1, none⟩ = some (.bool ans) := cellsAt hg1 1
  have c2 : w1.cell? ⟨w.heap.size, 2, none⟩ = some (.bool cut) := cellsAt hg1 2
  have c3 : w1.cell? ⟨w.heap.size, 3, none⟩ = some (.int .i64 code) := cellsAt hg1 3
  have c4 : w1.cell? ⟨w.heap.size, 4, none⟩ = some (.string name) := cellsAt hg1 4
  have c5 : w1.cell? ⟨w.heap.size, 5, none⟩ = some (.int .i64 typ) := cellsAt hg1 5
  have c6 : w1.cell? ⟨w.heap.size, 6, none⟩ = some (.slice pa n cap) := cellsAt hg1 6
  clear hb1 hg1 HAT HCB
  by_cases h0 : E = 0
  · have HWR2 := HWR.out h0 w1 HB1.out
    have HWR3 : Hid (Calls Tryd.prog 31 #[.agg #[.int .i64 id, .bool ans, .bool cut, .int .i64 code, .string name, .int .i64 typ, .slice pa n cap]] w1 fun e w' => e = .returned (.string T) ∧ Below w1.heap.size w1 w') := HWR2
    clear HWR2
    have h1 : (E != 0) = false := by simpa using h0
    have H1 := HR1.out h0
    have H2 := HR2.out h0
    subst h0
    clear h1 HR1 HR2 HR3
    have K1 : Hid (¬ 512 < T.size → RT = T ∧ RE = 0) := H1
    have K2 : Hid (512 < T.size → RT = ⟨#[]⟩ ∧ RE = 2) := H2
    clear H1 H2
    go_wp2_with fail
    refine HWR3.out.mono ?_
    rintro e w2 ⟨rfl, hb2⟩
    have HB2 : Hid (Below w.heap.size w w2) := HB1.out.trans (hb2.mono HB1.out.size)
    clear hb2
    by_cases hT : 512 < T.size
    · obtain ⟨e1, e2⟩ := K2.out hT
      have hcmp : decide (512 < (T.size : Int)) = true := by simp; omega
      go_wp2_with fail
      go_ret2
      exact ⟨by rw [e1, e2]; rfl, HB2.out⟩
    · obtain ⟨e1, e2⟩ := K1.out hT
      have hcmp : decide (512 < (T.size : Int)) = false := by simp; omega
      go_wp2_with fail
      go_ret2
      exact ⟨by rw [e1, e2]; rfl, HB2.out⟩
  · have h1 : (E != 0) = true := by simpa using h0
    have K3 : Hid (RT = ⟨#[]⟩ ∧ RE = E) := HR3.out h0
    go_wp2_with fail
    go_ret2
    exact ⟨by rw [K3.out.1, K3.out.2]; rfl, HB1.out⟩

end Go.Proofs.YtogmkdhljifbpaaDoor

