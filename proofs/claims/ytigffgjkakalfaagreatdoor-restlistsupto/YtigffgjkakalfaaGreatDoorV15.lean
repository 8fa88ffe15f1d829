/- FP, FQ, FR, FS, FT, FO, FA -/
import Derived.Test.YtigffgjkakalfaaGreatDoorV14
import Derived.Deep.RegionHeld3
import Derived.StillTactics
/- A record's data, written. -/
namespace Go.Proofs.YtigffgjkakalfaaGreatDoor
open Go.RowKit

/-- What a record's type tells of it, as it is written. -/
def wdat (r : Rc.Rec) : List Value :=
  if r.typ = 1 then nbs r.addr 4
  else if r.typ = 16 then nbs r.text.size 1 ++ Lib.strCells r.text
  else if r.typ = 33 then nbs 0 2 ++ (nbs 0 2 ++ (nbs r.port 2 ++ wname r.target))
  else []
theorem wname_len {s : ByteArray} (h : chkN s = 0) : (wname s).length ≤ 249 := by
  obtain ⟨hL8, hL30⟩ := chk_facts h
  unfold wname
  rw [List.length_append, nbs_len]
  have := flat_len (labs s) hL30
  omega

theorem IsW.keep {B b : Nat} {bs : List Value} {w w' : World} (h : IsW B b bs w) (hk : ∀ k, k = b ∨ some k = bufOf w b → w'.heap[k]? = w.heap[k]?) : IsW B b bs w' := by
  have go : ∀ p, WAt B b p bs w → WAt B b p bs w' := fun p ⟨hB, v, hb, ho, hne⟩ => by
    have e1 : bufOf w b = v.ownBlock := by unfold bufOf; rw [cellsAt hb 1]; rfl
    refine ⟨hB, v, (hk b (.inl rfl)).trans hb, ?_, hne⟩
    rcases ho.2 with ⟨rfl, h0⟩ | ⟨g, cap, cur, rfl, hbg, hg, r⟩
    · exact ⟨ho.1, .inl ⟨rfl, h0⟩⟩
    · exact ⟨ho.1, .inr ⟨g, cap, cur, rfl, hbg, (hk g (.inr (by rw [e1]; rfl))).trans hg, r⟩⟩
  rcases h with h | h
  · exact .inl (go _ h)
  · exact .inr (go _ h)
theorem IsW.buf {B b : Nat} {bs : List Value} {w : World} (h : IsW B b bs w) : ∀ k, bufOf w b = some k → B ≤ k ∧ k < w.heap.size := by
  have go : ∀ p, WAt B b p bs w → ∀ k, bufOf w b = some k → B ≤ k ∧ k < w.heap.size := fun p ⟨hB, v, hb, ho, hne⟩ k hk => by
    have e1 : bufOf w b = v.ownBlock := by unfold bufOf; rw [cellsAt hb 1]; rfl
    rw [e1] at hk
    exact ho.lt k hk
  rcases h with h | h
  · exact go _ h
  · exact go _ h
theorem IsW.base {B b : Nat} {bs : List Value} {w : World} (h : IsW B b bs w) : B ≤ b := by
  rcases h with h | h
  · exact h.1
  · exact h.1
theorem IsW.below {B b : Nat} {bs : List Value} {w w' : World} (h : IsW B b bs w) (hb : Below w.heap.size w w') : IsW B b bs w' :=
  h.keep fun k hk => by
    rcases hk with rfl | hk
    · exact hb.block _ h.lt
    · exact hb.block _ (h.buf k hk.symm).2

set_option maxHeartbeats 1600000 in
set_option maxRecDepth 100000 in
theorem wdata_any (B b : Nat) (bs : List Value) (r : Rc.Rec) (w : World) (hm : ML w) (h : IsW B b bs w) (hlen : bs.length ≤ 40000) (ht : r.text.size ≤ 200) (hn : chkN r.target = 0) (hBw : B ≤ w.heap.size) (hB0 : 0 < B) :
    Calls Tryz.prog 126 #[.pointer (some ⟨b, 0, none⟩), recV r] w fun e w' => e = .returned (.tuple #[]) ∧ IsW B b (bs ++ wdat r) w' ∧ Kp B b w w' := by
  have HI : Hid (IsW B b bs w) := h
  have hbl := h.lt
  clear h
  obtain ⟨name, typ, lasts, addr, text, port, target⟩ := r
  unfold wdat
  simp only at ht hn ⊢
  obtain ⟨w0, hw0⟩ : ∃ w0, w0 = w.alloc (.cells #[.string name, .int .i64 typ, .int .i64 lasts, .int .i64 addr, .string text, .int .i64 port, .string target] 51) := ⟨_, rfl⟩
  have hg0 : w0.heap[w.heap.size]? = some (.cells #[.string name, .int .i64 typ, .int .i64 lasts, .int .i64 addr, .string text, .int .i64 port, .string target] 51 (0, 0)) := by rw [hw0]; exact heap_alloc_new w _
  have HK0 : Hid (Kp B b w w0) := (show Kp B b w w0 by rw [hw0]; exact Kp.alloc _ hBw)
  have HI0 : Hid (IsW B b bs w0) := (show IsW B b bs w0 by rw [hw0]; exact HI.out.alloc _)
  have hz0 : B ≤ w0.heap.size := Nat.le_trans hBw HK0.out.size
  have HM0 : Hid (ML w0) := (show ML w0 from hm.kp HK0.out hB0)
  clear hm
  by_cases h1 : typ = 1
  · subst h1
    rw [if_pos rfl]
    go_enter Tryz.func126, Tryz.ntmps126
    go_wp2_with fail
    rw [← hw0]
    refine (wnumber_any B b 4 addr bs w0 HI0.out (by omega) (by omega) hz0).mono ?_
    rintro e w1 ⟨rfl, h1, hb1⟩
    have HI1 : Hid (IsW B b (bs ++ nbs addr 4) w1) := h1
    have HK1 : Hid (Kp B b w w1) := HK0.out.trans hb1
    clear h1 hb1
    go_wp2_with fail
    simp [bodyPost, results, Tryz.results126]
    exact ⟨HI1.out, HK1.out⟩
  rw [if_neg h1]
  have e1 : (typ == 1) = false := by simpa using h1
  by_cases h2 : typ = 16
  · subst h2
    rw [if_pos rfl]
    clear e1
    go_enter Tryz.func126, Tryz.ntmps126
    go_wp2_with fail
    rw [← hw0]
    refine (counted_any B b bs text w0 HI0.out (by omega) (by omega) hz0).mono ?_
    rintro e w1 ⟨rfl, h1, hb1⟩
    have HI1 : Hid (IsW B b (bs ++ (nbs text.size 1 ++ Lib.strCells text)) w1) := h1
    have HK1 : Hid (Kp B b w w1) := HK0.out.trans hb1
    clear h1 hb1
    go_wp2_with fail
    simp [bodyPost, results, Tryz.results126]
    exact ⟨by simpa using HI1.out, HK1.out⟩
  rw [if_neg h2]
  have e2 : (typ == 16) = false := by simpa using h2
  by_cases h3 : typ = 33
  · subst h3
    rw [if_pos rfl]
    clear e1 e2
    go_enter Tryz.func126, Tryz.ntmps126
    go_wp2_with fail
    rw [← hw0]
    refine (wnumber_any B b 2 0 bs w0 HI0.out (by omega) (by omega) hz0).mono ?_
    rintro e w1 ⟨rfl, h1, hb1⟩
    have HI1 : Hid (IsW B b (bs ++ nbs 0 2) w1) := h1
    have HK1 : Hid (Kp B b w0 w1) := hb1
    have hz1 : B ≤ w1.heap.size := Nat.le_trans hz0 HK1.out.size
    clear h1 hb1
    go_wp2_with fail
    refine (wnumber_any B b 2 0 _ w1 HI1.out (by omega) (by simp [nbs_len]; omega) hz1).mono ?_
    rintro e w2 ⟨rfl, h1, hb1⟩
    have HI2 : Hid (IsW B b ((bs ++ nbs 0 2) ++ nbs 0 2) w2) := h1
    have HK2 : Hid (Kp B b w0 w2) := HK1.out.trans hb1
    have hz2 : B ≤ w2.heap.size := Nat.le_trans hz0 HK2.out.size
    have hg2 : w2.heap[w.heap.size]? = some (.cells #[.string name, .int .i64 33, .int .i64 lasts, .int .i64 addr, .string text, .int .i64 port, .string target] 51 (0, 0)) := HK2.out.oth _ _ hg0 (by simp; omega) (by simp)
    have f5 : w2.cell? ⟨w.heap.size, 5, none⟩ = some (.int .i64 port) := cellsAt hg2 5
    clear h1 hb1 hg2
    go_wp2_with fail
    refine (wnumber_any B b 2 port _ w2 HI2.out (by omega) (by simp [nbs_len]; omega) hz2).mono ?_
    rintro e w3 ⟨rfl, h1, hb1⟩
    have HI3 : Hid (IsW B b (((bs ++ nbs 0 2) ++ nbs 0 2) ++ nbs port 2) w3) := h1
    have HK3 : Hid (Kp B b w0 w3) := HK2.out.trans hb1
    have hz3 : B ≤ w3.heap.size := Nat.le_trans hz0 HK3.out.size
    have hg3 : w3.heap[w.heap.size]? = some (.cells #[.string name, .int .i64 33, .int .i64 lasts, .int .i64 addr, .string text, .int .i64 port, .string target] 51 (0, 0)) := HK3.out.oth _ _ hg0 (by simp; omega) (by simp)
    have f6 : w3.cell? ⟨w.heap.size, 6, none⟩ = some (.string target) := cellsAt hg3 6
    clear h1 hb1 hg3
    go_wp2_with fail
    refine (wname_any B b _ target w3 (HM0.out.kp HK3.out hB0) HI3.out (by simp [nbs_len]; omega) hn hz3).mono ?_
    rintro e w4 ⟨rfl, h1, hb1⟩
    have HI4 : Hid (IsW B b (bs ++ (nbs 0 2 ++ (nbs 0 2 ++ (nbs port 2 ++ wname target)))) w4) := (show IsW _ _ _ _ by simpa [List.append_assoc] using h1)
    have HK4 : Hid (Kp B b w w4) := HK0.out.trans (HK3.out.trans hb1)
    clear h1 hb1
    go_wp2_with fail
    simp [bodyPost, results, Tryz.results126]
    exact ⟨by simpa using HI4.out, HK4.out⟩
  rw [if_neg h3]
  have e3 : (typ == 33) = false := by simpa using h3
  clear h1 h2 h3
  go_enter Tryz.func126, Tryz.ntmps126
  go_wp2_with fail
  simp [bodyPost, results, Tryz.results126]
  rw [← hw0]
  exact ⟨HI0.out, HK0.out⟩

end Go.Proofs.YtigffgjkakalfaaGreatDoor

/- A record, written. -/
namespace Go.Proofs.YtigffgjkakalfaaGreatDoor
open Go.RowKit

def wdatL (r : Rc.Rec) : List UInt8 :=
  if r.typ = 1 then nbl r.addr 4
  else if r.typ = 16 then nbl r.text.size 1 ++ r.text.data.toList
  else if r.typ = 33 then nbl 0 2 ++ (nbl 0 2 ++ (nbl r.port 2 ++ wnameL r.target))
  else []
theorem str_cells (s : ByteArray) : Lib.strCells s = Lib.byteCells s.data.toList := rfl
theorem wdat_cells (r : Rc.Rec) : wdat r = Lib.byteCells (wdatL r) := by
  unfold wdat wdatL
  split
  · exact nbs_cells _ _
  split
  · rw [cells_app, nbs_cells, str_cells]
  split
  · simp only [cells_app, nbs_cells, wname_cells]
  · rfl
theorem wdat_len {r : Rc.Rec} (ht : r.text.size ≤ 200) (hn : chkN r.target = 0) : (wdat r).length ≤ 255 := by
  have := wname_len hn
  unfold wdat
  split
  · simp [nbs_len]
  split
  · simp [nbs_len, Lib.strCells_length]; omega
  split
  · simp only [List.length_append, nbs_len]; omega
  · simp
theorem wdatL_ne {r : Rc.Rec} (h : typB r.typ = true) : wdatL r ≠ [] := by
  unfold wdatL
  simp only [typB, Bool.or_eq_true, decide_eq_true_eq] at h
  split
  · simp [nbl]
  split
  · simp [nbl]
  split
  · simp [nbl]
  · omega
theorem chkRec_facts {r : Rc.Rec} (h : chkRec r = 0) : chkN r.name = 0 ∧ typB r.typ = true ∧ r.text.size ≤ 200 ∧ chkN r.target = 0 := by
  unfold chkRec at h
  split at h
  · omega
  rename_i h1
  split at h
  · omega
  rename_i h2
  split at h
  · omega
  split at h
  · omega
  split at h
  · omega
  split at h
  · omega
  rename_i h6
  exact ⟨by omega, by simpa using h2, by omega, h⟩
/-- A record as it is written. -/
def wrec (r : Rc.Rec) : List Value := wname r.name ++ (nbs r.typ 2 ++ (nbs 1 2 ++ (nbs r.lasts 4 ++ (nbs (wdat r).length 2 ++ wdat r))))

set_option maxHeartbeats 1000000 in
set_option maxRecDepth 100000 in
theorem len_any (B b : Nat) (bs : List Value) (w : World) (h : IsW B b bs w) :
    Calls Tryz.prog 127 #[.pointer (some ⟨b, 0, none⟩)] w fun e w' => e = .returned (.int .i64 bs.length) ∧ w' = w := by
  obtain ⟨p, hB, v, hbk, hown, hne⟩ : ∃ p, WAt B b p bs w := by
    rcases h with h | h
    · exact ⟨_, h⟩
    · exact ⟨_, h⟩
  have c1 : w.cell? ⟨b, 1, none⟩ = some v := cellsAt hbk 1
  obtain ⟨ao, cap, rfl⟩ : ∃ ao cap, v = .slice ao bs.length cap := by
    rcases hown.2 with ⟨rfl, h0⟩ | ⟨g, cap, cur, rfl, _⟩
    · exact ⟨none, 0, by rw [h0]⟩
    · exact ⟨_, cap, rfl⟩
  go_enter Tryz.func127, Tryz.ntmps127
  go_wp2_with fail
  go_ret
  exact ⟨rfl, rfl⟩

theorem freeze_other (w : World) (p : Addr) (n k : Nat) (h : k ≠ p.block) : (w.freeze p n).heap[k]? = w.heap[k]? := by
  unfold World.freeze
  split
  · rfl
  · simp only [Array.getElem?_modify]
    rw [if_neg (Ne.symm h)]

set_option maxHeartbeats 1000000 in
set_option maxRecDepth 100000 in
theorem string_any2 (B b : Nat) (l : List UInt8) (w : World) (h : IsW B b (Lib.byteCells l) w) (h0 : l ≠ []) :
    Calls Tryz.prog 85 #[.pointer (some ⟨b, 0, none⟩)] w fun e w' => e = .returned (.string ⟨l.toArray⟩) ∧ Below B w w' ∧ ∀ k, some k ≠ bufOf w b → w'.heap[k]? = w.heap[k]? := by
  obtain ⟨p, hB, v, hbk, hown, hne⟩ : ∃ p, WAt B b p (Lib.byteCells l) w := by
    rcases h with h | h
    · exact ⟨_, h⟩
    · exact ⟨_, h⟩
  have hbuf : bufOf w b = v.ownBlock := by unfold bufOf; rw [cellsAt hbk 1]; rfl
  have hl0 : l.length ≠ 0 := by simpa using h0
  rw [Lib.byteCells_length] at hown
  obtain ⟨g, cap, cur, rfl, hbg, hg, hnc, hcm, hcs, htake⟩ : ∃ g cap cur, v = .slice (some ⟨g, 0, none⟩) l.length cap ∧ B ≤ g ∧ w.heap[g]? = some (.cells cur 5 (0, 0)) ∧ l.length ≤ cap ∧ cap ≤ maxLen ∧ cur.size = cap * 1 ∧ cur.toList.take (l.length * 1) = Lib.byteCells l := by
    rcases hown.2 with ⟨_, hz⟩ | ⟨g, cap, cur, hv, r⟩
    · exact absurd hz hl0
    · exact ⟨g, cap, cur, hv, r⟩
  have c1 : w.drew.cell? ⟨b, 1, none⟩ = some (.slice (some ⟨g, 0, none⟩) l.length cap) := by
    have : w.drew.heap[b]? = some (.cells #[p, .slice (some ⟨g, 0, none⟩) l.length cap] 127 (0, 0)) := hbk
    rw [Lib.cell_of_heap this]; rfl
  have hSD : (Builtin.unsafeSliceData_ #[117] 141 #[.slice (some ⟨g, 0, none⟩) l.length cap]).run Tryz.prog w.drew = .ok (.pointer (some ⟨g, 0, none⟩)) w.drew :=
    Lib.run_unsafeSliceData_row _ _ _ _ _ _ (by omega)
  have hUS : (Builtin.unsafeString_ #[141, 3] 9 #[.pointer (some ⟨g, 0, none⟩), .int .i64 l.length]).run Tryz.prog w.drew = .ok (.string ⟨l.toArray⟩) (w.drew.freeze ⟨g, 0, none⟩ l.length) := by
    refine Lib.run_unsafeString_row w.drew 141 3 9 5 Tryz.underlying141 Tryz.cellsByte g cur.size (by have hg' : w.drew.heap[g]? = some (.cells cur 5 (0, 0)) := hg; simp [World.shape?, hg']) l h0 (by omega) (by unfold maxLen at hcm; omega) ?_
    intro j x hx
    have := hown.cells (g := g) rfl j (.int .u8 x.toNat) (by simp [Lib.byteCells, hx])
    exact this
  have mixed : Tryz.prog.follows .mixedOrders = true := by kernel_rfl
  have HFR : Hid (∀ k, some k ≠ bufOf w b → (w.drew.freeze ⟨g, 0, none⟩ l.length).heap[k]? = w.heap[k]?) := fun k hk => freeze_other w.drew _ _ k (fun e => hk (by rw [hbuf, e]; rfl))
  clear hbuf
  go_enter Tryz.func85, Tryz.ntmps85
  go_wp2_with fail
  go_region_o
  all_goals (go_wp2; go_ret; exact ⟨rfl, Lib.below_freeze (Below.drew (Below.refl B w)) (p := ⟨g, 0, none⟩) hbg _, HFR.out⟩)

end Go.Proofs.YtigffgjkakalfaaGreatDoor

/- A record, written: the walk. -/
namespace Go.Proofs.YtigffgjkakalfaaGreatDoor
open Go.RowKit

theorem bufOf_block {w w' : World} {b : Nat} (h : w'.heap[b]? = w.heap[b]?) : bufOf w' b = bufOf w b := by
  unfold bufOf
  rw [World.cell?_of_block (a := ⟨b, 1, none⟩) h]
theorem IsW.bytes {B b : Nat} {bs : List Value} {w : World} (h : IsW B b bs w) : ∀ k, bufOf w b = some k → ∃ c fz, w.heap[k]? = some (.cells c 5 fz) := by
  have go : ∀ p, WAt B b p bs w → ∀ k, bufOf w b = some k → ∃ c fz, w.heap[k]? = some (.cells c 5 fz) := fun p ⟨hB, v, hb, ho, hne⟩ k hk => by
    have e1 : bufOf w b = v.ownBlock := by unfold bufOf; rw [cellsAt hb 1]; rfl
    rw [e1] at hk
    exact own_kind ho k hk
  rcases h with h | h
  · exact go _ h
  · exact go _ h
/-- What was written below d is what it was. -/
theorem Kp.under {B b d : Nat} {w w' : World} (h : Below d w w') (hd : w.heap.size ≤ d) (hB : B ≤ d) : Kp B b w w' :=
  ⟨h.mono hB, fun k o hk _ _ => (h.block k (Nat.lt_of_lt_of_le (Array.getElem?_eq_some_iff.1 hk).1 hd)).trans hk, fun hb => ⟨fun k hk _ _ => h.block k (by omega), .inl (bufOf_block (h.block b (by omega)))⟩⟩
/-- Another writer's text is taken. -/
theorem Kp.took {B b d : Nat} {ds : List Value} {w w6 w7 : World} (h : Kp B b w w6) (hd : IsW d d ds w6) (hwd : w.heap.size ≤ d) (hBd : B ≤ d) (hb : b < w.heap.size) (hbel : Below d w6 w7) (hk : ∀ k, some k ≠ bufOf w6 d → w7.heap[k]? = w6.heap[k]?) : Kp B b w w7 where
  bel := h.bel.trans (hbel.mono hBd)
  oth := fun k o hk1 hkb hno => by
    have h6 := h.oth k o hk1 hkb hno
    refine (hk k fun e => ?_).trans h6
    obtain ⟨c, fz, hc⟩ := hd.bytes k e.symm
    rw [h6] at hc
    injection hc with hc
    exact hno _ _ hc
  kq := fun hbw => by
    obtain ⟨h1, h2⟩ := h.kq hbw
    have hne : ∀ k, k < w.heap.size → some k ≠ bufOf w6 d := fun k hkw e => by have := (hd.buf k e.symm).1; omega
    refine ⟨fun k hkw hkb hkn => (hk k (hne k hkw)).trans (h1 k hkw hkb hkn), ?_⟩
    rw [bufOf_block (hk b (hne b hb))]
    exact h2

theorem apart_buf {b d : Nat} {ds : List Value} {w1 w6 : World} (hk : Kq b w1 w6) (hb : b < w1.heap.size) (hd : IsW d d ds w1) (hold : ∀ k, bufOf w1 b = some k → k < d) (hd6 : bufOf w6 d = bufOf w1 d) : ∀ k, some k = bufOf w6 b → some k ≠ bufOf w6 d := fun k e1 e2 => by
  rw [hd6] at e2
  have h1 := hd.buf k e2.symm
  rcases (hk hb).2 with h2 | h2
  · have := hold k (by rw [← h2]; exact e1.symm); omega
  · have := h2 k e1.symm; omega
/-- Another writer is not touched. -/
theorem IsW.other {b d : Nat} {ds : List Value} {w1 w6 : World} (hd : IsW d d ds w1) (hk : Kq b w1 w6) (hb : b < d) (hold : ∀ k, bufOf w1 b = some k → k < d) : IsW d d ds w6 ∧ bufOf w6 d = bufOf w1 d := by
  have hbw : b < w1.heap.size := Nat.lt_trans hb hd.lt
  obtain ⟨h1, _⟩ := hk hbw
  have hdd : w6.heap[d]? = w1.heap[d]? := h1 d hd.lt (by omega) (fun e => by have := hold d e.symm; omega)
  refine ⟨hd.keep fun k hk2 => ?_, bufOf_block hdd⟩
  rcases hk2 with rfl | hk2
  · exact hdd
  · have h3 := hd.buf k hk2.symm
    exact h1 k h3.2 (by omega) (fun e => by have := hold k e.symm; omega)

end Go.Proofs.YtigffgjkakalfaaGreatDoor

/- A record, written: the walk. -/
namespace Go.Proofs.YtigffgjkakalfaaGreatDoor
open Go.RowKit

set_option maxHeartbeats 1600000 in
set_option maxRecDepth 100000 in
theorem wrecord_any (B b : Nat) (bs : List Value) (r : Rc.Rec) (w : World) (hm : ML w) (h : IsW B b bs w) (hlen : bs.length ≤ 30000) (hc : chkRec r = 0) (hBw : B ≤ w.heap.size) (_hB0 : 0 < B) :
    Calls Tryz.prog 103 #[.pointer (some ⟨b, 0, none⟩), recV r] w fun e w' => e = .returned (.tuple #[]) ∧ IsW B b (bs ++ wrec r) w' ∧ Kp B b w w' := by
  obtain ⟨hcn, hct, htx, hcg⟩ := chkRec_facts hc
  have HI : Hid (IsW B b bs w) := h
  have hbl := h.lt
  have hwl := wname_len hcn
  have hdl := wdat_len htx hcg
  have hdne := wdatL_ne hct
  have HDC : Hid (wdat r = Lib.byteCells (wdatL r)) := wdat_cells r
  clear h hc
  go_enter Tryz.func103, Tryz.ntmps103
  go_wp2_with fail
  obtain ⟨w0, hw0⟩ : ∃ w0, w0 = (w.alloc (.cells #[.string r.name, .int .i64 r.typ, .int .i64 r.lasts, .int .i64 r.addr, .string r.text, .int .i64 r.port, .string r.target] 51)).alloc (.cells #[.pointer none, .slice none 0 0] 127) := ⟨_, rfl⟩
  rw [← hw0]
  have hn0 : w0.heap.size = w.heap.size + 1 + 1 := by rw [hw0]; simp
  have hg0 : w0.heap[w.heap.size]? = some (.cells #[.string r.name, .int .i64 r.typ, .int .i64 r.lasts, .int .i64 r.addr, .string r.text, .int .i64 r.port, .string r.target] 51 (0, 0)) := by
    rw [hw0]
    exact (Lib.alloc_old _ _ _ (by simp)).trans (heap_alloc_new w _)
  have hd0 : w0.heap[w.heap.size + 1]? = some (.cells #[.pointer none, .slice none 0 0] 127 (0, 0)) := by
    have h := heap_alloc_new (w.alloc (.cells #[.string r.name, .int .i64 r.typ, .int .i64 r.lasts, .int .i64 r.addr, .string r.text, .int .i64 r.port, .string r.target] 51)) (.cells #[.pointer none, .slice none 0 0] 127)
    rw [hw0]
    simpa using h
  have HB0 : Hid (Below w.heap.size w w0) := (show Below _ _ _ by rw [hw0]; exact ((Below.refl _ _).alloc (Nat.le_refl _) _).alloc (by simp) _)
  have HM0 : Hid (ML w0) := (show ML w0 from hm.below HB0.out)
  clear hw0 hm
  refine (wdata_any (w.heap.size + 1) (w.heap.size + 1) [] r w0 HM0.out (.inl ⟨Nat.le_refl _, .slice none 0 0, hd0, World.ownsRow_nil w0 _ 5 1, by simp [Value.ownBlock]⟩) (by simp) htx hcg (by omega) (by omega)).mono ?_
  rintro e w1 ⟨rfl, h1, hb1⟩
  have HD1 : Hid (IsW (w.heap.size + 1) (w.heap.size + 1) (wdat r) w1) := (show IsW _ _ _ _ by simpa using h1)
  have HB1 : Hid (Below (w.heap.size + 1) w0 w1) := hb1.bel
  have HB01 : Hid (Below w.heap.size w w1) := HB0.out.trans (hb1.bel.mono (by omega))
  have HK1 : Hid (Kp B b w w1) := Kp.under HB01.out (Nat.le_refl _) hBw
  have HM1 : Hid (ML w1) := (show ML w1 from HM0.out.kp hb1 (by omega))
  have HI1 : Hid (IsW B b bs w1) := HI.out.below HB01.out
  have HOLD : Hid (∀ k, bufOf w1 b = some k → k < w.heap.size + 1) := fun k hk => by
    rw [bufOf_block (HB01.out.block b hbl)] at hk
    have := (HI.out.buf k hk).2
    omega
  have hg1 : w1.heap[w.heap.size]? = some (.cells #[.string r.name, .int .i64 r.typ, .int .i64 r.lasts, .int .i64 r.addr, .string r.text, .int .i64 r.port, .string r.target] 51 (0, 0)) := (HB1.out.block _ (by omega)).trans hg0
  have hz1 : B ≤ w1.heap.size := Nat.le_trans hBw HB01.out.size
  have HG : Hid (∀ W, Kp B b w1 W → W.heap[w.heap.size]? = some (.cells #[.string r.name, .int .i64 r.typ, .int .i64 r.lasts, .int .i64 r.addr, .string r.text, .int .i64 r.port, .string r.target] 51 (0, 0))) := fun W hW => hW.oth _ _ hg1 (by simp; omega) (by simp)
  have f0 : w1.cell? ⟨w.heap.size, 0, none⟩ = some (.string r.name) := cellsAt hg1 0
  clear h1 hb1 hg0 hd0 hg1
  go_wp2_with fail
  refine (wname_any B b bs r.name w1 HM1.out HI1.out (by omega) hcn hz1).mono ?_
  rintro e w2 ⟨rfl, h1, hb1⟩
  have HI2 : Hid (IsW B b (bs ++ wname r.name) w2) := h1
  have HK2 : Hid (Kp B b w1 w2) := hb1
  have hz2 : B ≤ w2.heap.size := Nat.le_trans hz1 HK2.out.size
  have f1 : w2.cell? ⟨w.heap.size, 1, none⟩ = some (.int .i64 r.typ) := cellsAt (HG.out w2 HK2.out) 1
  clear h1 hb1 f0
  go_wp2_with fail
  refine (wnumber_any B b 2 r.typ _ w2 HI2.out (by omega) (by simp; omega) hz2).mono ?_
  rintro e w3 ⟨rfl, h1, hb1⟩
  have HI3 : Hid (IsW B b ((bs ++ wname r.name) ++ nbs r.typ 2) w3) := h1
  have HK3 : Hid (Kp B b w1 w3) := HK2.out.trans hb1
  have hz3 : B ≤ w3.heap.size := Nat.le_trans hz1 HK3.out.size
  clear h1 hb1 f1
  go_wp2_with fail
  refine (wnumber_any B b 2 1 _ w3 HI3.out (by omega) (by simp [nbs_len]; omega) hz3).mono ?_
  rintro e w4 ⟨rfl, h1, hb1⟩
  have HI4 : Hid (IsW B b (((bs ++ wname r.name) ++ nbs r.typ 2) ++ nbs 1 2) w4) := h1
  have HK4 : Hid (Kp B b w1 w4) := HK3.out.trans hb1
  have hz4 : B ≤ w4.heap.size := Nat.le_trans hz1 HK4.out.size
  have f2 : w4.cell? ⟨w.heap.size, 2, none⟩ = some (.int .i64 r.lasts) := cellsAt (HG.out w4 HK4.out) 2
  clear h1 hb1
  go_wp2_with fail
  refine (wnumber_any B b 4 r.lasts _ w4 HI4.out (by omega) (by simp [nbs_len]; omega) hz4).mono ?_
  rintro e w5 ⟨rfl, h1, hb1⟩
  have HI5 : Hid (IsW B b ((((bs ++ wname r.name) ++ nbs r.typ 2) ++ nbs 1 2) ++ nbs r.lasts 4) w5) := h1
  have HK5 : Hid (Kp B b w1 w5) := HK4.out.trans hb1
  have hz5 : B ≤ w5.heap.size := Nat.le_trans hz1 HK5.out.size
  have HD5 : Hid (IsW (w.heap.size + 1) (w.heap.size + 1) (wdat r) w5) := (HD1.out.other HK5.out.kq (by omega) HOLD.out).1
  clear h1 hb1 f2
  go_wp2_with fail
  refine (len_any _ _ _ w5 HD5.out).mono ?_
  rintro e w5' ⟨rfl, hw5⟩
  subst hw5
  go_wp2_with fail
  refine (wnumber_any B b 2 (wdat r).length _ w5' HI5.out (by omega) (by simp [nbs_len]; omega) hz5).mono ?_
  rintro e w6 ⟨rfl, h1, hb1⟩
  have HI6 : Hid (IsW B b (((((bs ++ wname r.name) ++ nbs r.typ 2) ++ nbs 1 2) ++ nbs r.lasts 4) ++ nbs (wdat r).length 2) w6) := h1
  have HK6 : Hid (Kp B b w1 w6) := HK5.out.trans hb1
  have hz6 : B ≤ w6.heap.size := Nat.le_trans hz1 HK6.out.size
  obtain ⟨hd6, hbuf6⟩ := HD1.out.other HK6.out.kq (by omega) HOLD.out
  have HD6 : Hid (IsW (w.heap.size + 1) (w.heap.size + 1) (wdat r) w6) := hd6
  have HD6' : Hid (IsW (w.heap.size + 1) (w.heap.size + 1) (Lib.byteCells (wdatL r)) w6) := (show IsW _ _ _ _ by rw [← HDC.out]; exact hd6)
  have HAP : Hid (∀ k, some k = bufOf w6 b → some k ≠ bufOf w6 (w.heap.size + 1)) := apart_buf HK6.out.kq (by have := HB01.out.size; omega) HD1.out HOLD.out hbuf6
  clear h1 hb1 hd6 hbuf6
  go_wp2_with fail
  have hsz : (⟨(wdatL r).toArray⟩ : ByteArray).size = (wdat r).length := by rw [HDC.out, Lib.byteCells_length]; simp [ByteArray.size]
  have HSC : Hid (Lib.strCells ⟨(wdatL r).toArray⟩ = wdat r) := (show _ = _ by rw [HDC.out, str_cells])
  have HL6 : Hid ((((((bs ++ wname r.name) ++ nbs r.typ 2) ++ nbs 1 2) ++ nbs r.lasts 4) ++ nbs (wdat r).length 2).length + (⟨(wdatL r).toArray⟩ : ByteArray).size ≤ 1000000) := (show _ ≤ _ by rw [hsz]; simp [nbs_len]; omega)
  have HST : Hid (Calls Tryz.prog 85 #[.pointer (some ⟨w.heap.size + 1, 0, none⟩)] w6.drew fun e w' => e = .returned (.string ⟨(wdatL r).toArray⟩) ∧ Hid (Kp B b w w' ∧ IsW B b (((((bs ++ wname r.name) ++ nbs r.typ 2) ++ nbs 1 2) ++ nbs r.lasts 4) ++ nbs (wdat r).length 2) w' ∧ B ≤ w'.heap.size)) := (show Calls _ _ _ _ _ by
    refine (string_any2 _ _ (wdatL r) w6.drew HD6'.out hdne).mono ?_
    rintro e w7 ⟨rfl, h1, hb1⟩
    have HK7 : Kp B b w w7 := (HK1.out.trans HK6.out).drew.took (w6 := w6.drew) HD6.out (by omega) (by omega) hbl h1 hb1
    refine ⟨rfl, HK7, HI6.out.keep fun k hk => ?_, Nat.le_trans hBw HK7.size⟩
    rcases hk with rfl | hk
    · refine hb1 _ fun e => ?_
      have := (HD6.out.buf _ e.symm).1
      omega
    · exact hb1 k (HAP.out k hk))
  clear HD6 HD6' HAP HI6 HK6 HOLD HD1 hdne HI1 HI2 HI3 HI4 HI5 HK2 HK3 HK4 HK5 HD5
  go_region_held3 (fun _ => True) (trivial) (first
    | (go_at_call 85; refine HST.out.mono ?_; rintro e w7 ⟨rfl, H7⟩)
    | (go_at_call 117; refine (writeString_any B b _ _ _ H7.out.2.1 HL6.out H7.out.2.2).mono ?_; rintro e w8 ⟨rfl, h1, hb1⟩))
  have HI8 : Hid (IsW B b (bs ++ wrec r) w8) := (show IsW _ _ _ _ by
    unfold wrec
    have h2 : IsW B b _ w8 := .inr h1
    rw [HSC.out] at h2
    simpa [List.append_assoc] using h2)
  have HK8 : Hid (Kp B b w w8) := H7.out.1.trans hb1
  clear h1 hb1
  go_wp2_with fail
  simp [bodyPost, results, Tryz.results103]
  exact ⟨HI8.out, HK8.out⟩

end Go.Proofs.YtigffgjkakalfaaGreatDoor

/- A message with records, written. -/
namespace Go.Proofs.YtigffgjkakalfaaGreatDoor
open Go.RowKit

set_option maxHeartbeats 800000 in
set_option maxRecDepth 100000 in
theorem flagsR_any (id code typ : Int) (ans cut : Bool) (name : ByteArray) (v : Value) (w : World) :
    Calls Tryz.prog 64 #[.agg #[.int .i64 id, .bool ans, .bool cut, .int .i64 code, .string name, .int .i64 typ, v]] w fun e w' => e = .returned (.int .i64 (flg ans cut)) ∧ ∃ o, w' = w.alloc o := by
  cases ans <;> cases cut
  all_goals
    go_enter Tryz.func64, Tryz.ntmps64
    go_wp2_with fail
    go_ret
    exact ⟨rfl, _, rfl⟩

/-- What stands ahead of a message's records. -/
def whead (id code typ : Int) (ans cut : Bool) (name : ByteArray) (n : Nat) : List Value :=
  nbs id 2 ++ (nbs (flg ans cut) 1 ++ (nbs code 1 ++ (nbs 1 2 ++ (nbs n 2 ++ (nbs 0 2 ++ (nbs 0 2 ++ (wname name ++ (nbs typ 2 ++ nbs 1 2))))))))
theorem wrec_len {r : Rc.Rec} (h : chkRec r = 0) : (wrec r).length ≤ 514 := by
  obtain ⟨h1, _, h3, h4⟩ := chkRec_facts h
  have := wname_len h1
  have := wdat_len h3 h4
  unfold wrec
  simp only [List.length_append, nbs_len]
  omega
theorem recs_len : ∀ (rs : List Rc.Rec), (∀ r ∈ rs, chkRec r = 0) → (rs.flatMap wrec).length ≤ 514 * rs.length
  | [], _ => by simp
  | x :: r, h => by
    have h1 := wrec_len (h x List.mem_cons_self)
    have h2 := recs_len r (fun y hy => h y (List.mem_cons_of_mem _ hy))
    rw [List.flatMap_cons, List.length_append, List.length_cons]
    omega

set_option maxHeartbeats 1600000 in
set_option maxRecDepth 100000 in
theorem message_any (B b : Nat) (bs : List Value) (id code typ : Int) (ans cut : Bool) (name : ByteArray) (rs : List Rc.Rec) (pa : Option Addr) (cap : Nat) (w : World) (hm : ML w) (h : IsW B b bs w) (hlen : bs.length ≤ 1000) (hn : chkN name = 0) (hBw : B ≤ w.heap.size) (hB0 : 0 < B) (h20 : rs.length ≤ 20) (hcs : ∀ r ∈ rs, chkRec r = 0)
    (hrow : ∀ W, Below B w W → rs = [] ∨ ∃ b off, pa = some ⟨b, off, none⟩ ∧ b < W.heap.size ∧ Rc.Row W b off rs) :
    Calls Tryz.prog 84 #[.pointer (some ⟨b, 0, none⟩), .agg #[.int .i64 id, .bool ans, .bool cut, .int .i64 code, .string name, .int .i64 typ, .slice pa rs.length cap]] w fun e w' => e = .returned (.tuple #[]) ∧ IsW B b (bs ++ (whead id code typ ans cut name rs.length ++ rs.flatMap wrec)) w' ∧ Kp B b w w' := by
  have HROW : Hid (∀ W, Below B w W → rs = [] ∨ ∃ b off, pa = some ⟨b, off, none⟩ ∧ b < W.heap.size ∧ Rc.Row W b off rs) := hrow
  have HCS : Hid (∀ k, k < rs.length → chkRec (rs.getD k Rc.dm) = 0) := fun k hk => hcs _ (by simp [List.getD, List.getElem?_eq_getElem hk])
  have HFL : Hid (∀ k, ((rs.take k).flatMap wrec).length ≤ 10280) := fun k => by
    refine Nat.le_trans (recs_len (rs.take k) fun x hx => hcs x (List.mem_of_mem_take hx)) ?_
    rw [List.length_take]; omega
  have HTK : Hid (∀ k, k < rs.length → (rs.take (k + 1)).flatMap wrec = (rs.take k).flatMap wrec ++ wrec (rs.getD k Rc.dm)) := fun k hk => by
    rw [List.take_succ_eq_append_getElem hk, List.flatMap_append]
    simp [List.getD, hk]
  have HALL : Hid (rs.take rs.length = rs) := List.take_length
  have HMW : Hid (ML w) := hm
  clear hrow hcs
  generalize hln : rs.length = n at *
  have HLN : Hid (rs.length = n) := hln
  clear hln
  have HI : Hid (IsW B b bs w) := h
  clear h
  have hbl := HI.out.lt
  obtain ⟨hL8, hL30⟩ := chk_facts hn
  have hwn : (wname name).length ≤ 249 := by
    unfold wname
    rw [List.length_append, nbs_len]
    have := flat_len (labs name) hL30
    omega
  clear hL8 hL30
  go_enter Tryz.func84, Tryz.ntmps84
  go_wp2_with fail
  obtain ⟨w0, hw0⟩ : ∃ w0, w0 = w.alloc (.cells #[.int .i64 id, .bool ans, .bool cut, .int .i64 code, .string name, .int .i64 typ, .slice pa n cap] 38) := ⟨_, rfl⟩
  rw [← hw0]
  have hg0 : w0.heap[w.heap.size]? = some (.cells #[.int .i64 id, .bool ans, .bool cut, .int .i64 code, .string name, .int .i64 typ, .slice pa n cap] 38 (0, 0)) := by rw [hw0]; exact heap_alloc_new w _
  have HK0 : Hid (Kp B b w w0) := (show Kp B b w w0 by rw [hw0]; exact Kp.alloc _ hBw)
  have HI0 : Hid (IsW B b bs w0) := (show IsW B b bs w0 by rw [hw0]; exact HI.out.alloc _)
  have HM0 : Hid (ML w0) := (show ML w0 from hm.kp HK0.out hB0)
  have HG : Hid (∀ W, Kp B b w0 W → W.cell? ⟨w.heap.size, 0, none⟩ = some (.int .i64 id) ∧ W.cell? ⟨w.heap.size, 1, none⟩ = some (.bool ans) ∧ W.cell? ⟨w.heap.size, 2, none⟩ = some (.bool cut) ∧ W.cell? ⟨w.heap.size, 3, none⟩ = some (.int .i64 code) ∧ W.cell? ⟨w.heap.size, 4, none⟩ = some (.string name) ∧ W.cell? ⟨w.heap.size, 5, none⟩ = some (.int .i64 typ) ∧ W.cell? ⟨w.heap.size, 6, none⟩ = some (.slice pa n cap)) := fun W hW => by
    have hg : W.heap[w.heap.size]? = some (.cells #[.int .i64 id, .bool ans, .bool cut, .int .i64 code, .string name, .int .i64 typ, .slice pa n cap] 38 (0, 0)) := hW.oth _ _ hg0 (by simp; omega) (by simp)
    exact ⟨cellsAt hg 0, cellsAt hg 1, cellsAt hg 2, cellsAt hg 3, cellsAt hg 4, cellsAt hg 5, cellsAt hg 6⟩
  have hz0 : B ≤ w0.heap.size := Nat.le_trans hBw HK0.out.size
  clear hg0 hw0 hm
  refine (wnumber_any B b 2 id bs w0 HI0.out (by omega) (by omega) (Nat.le_trans hz0 (Kp.size (Kp.refl B b w0)))).mono ?_
  rintro e w1 ⟨rfl, h1, hb1⟩
  have HK1 : Hid (Kp B b w0 w1) := Kp.trans (Kp.refl B b w0) hb1
  have l1 : (bs ++ nbs id 2).length ≤ 1002 := by rw [List.length_append, nbs_len]; omega
  obtain ⟨D1, hD1⟩ : ∃ D, D = bs ++ nbs id 2 := ⟨_, rfl⟩
  rw [← hD1] at h1 l1
  have HD1 : Hid (D1 = bs ++ nbs id 2) := hD1
  have HI1 : Hid (IsW B b D1 w1) := h1
  clear hD1 h1 hb1
  obtain ⟨c0, c1, c2, c3, c4, c5, c6⟩ := HG.out w1 HK1.out
  go_wp2_with fail
  refine (flagsR_any id code typ ans cut name _ _).mono ?_
  rintro e wf ⟨rfl, o, hwf⟩
  have HIf : Hid (IsW B b D1 wf) := (show IsW B b D1 wf by rw [hwf]; exact IsW.alloc HI1.out _)
  have HKf : Hid (Kp B b w0 wf) := (show Kp B b w0 wf by rw [hwf]; exact Kp.trans HK1.out (Kp.alloc _ (Nat.le_trans hz0 (Kp.size HK1.out))))
  clear hwf
  obtain ⟨x0, x1, x2, x3, x4, x5, x6⟩ := HG.out wf HKf.out
  clear c0 c1 c2 c3 c4 c5 c6
  have c0 := x0
  have c1 := x1
  have c2 := x2
  have c3 := x3
  have c4 := x4
  have c5 := x5
  have c6 := x6
  clear x0 x1 x2 x3 x4 x5 x6
  go_wp2_with fail
  refine (wnumber_any B b 1 (flg ans cut) D1 wf HIf.out (by omega) (by omega) (Nat.le_trans hz0 (Kp.size HKf.out))).mono ?_
  rintro e w2 ⟨rfl, h2, hb2⟩
  have HK2 : Hid (Kp B b w0 w2) := Kp.trans HKf.out hb2
  have l2 : (D1 ++ nbs (flg ans cut) 1).length ≤ 1003 := by rw [List.length_append, nbs_len]; omega
  obtain ⟨D2, hD2⟩ : ∃ D, D = D1 ++ nbs (flg ans cut) 1 := ⟨_, rfl⟩
  rw [← hD2] at h2 l2
  have HD2 : Hid (D2 = D1 ++ nbs (flg ans cut) 1) := hD2
  have HI2 : Hid (IsW B b D2 w2) := h2
  clear hD2 h2 hb2 c0 c1 c2 c3 c4 c5 c6
  obtain ⟨c0, c1, c2, c3, c4, c5, c6⟩ := HG.out w2 HK2.out
  go_wp2_with fail
  refine (wnumber_any B b 1 code D2 w2 HI2.out (by omega) (by omega) (Nat.le_trans hz0 (Kp.size HK2.out))).mono ?_
  rintro e w3 ⟨rfl, h3, hb3⟩
  have HK3 : Hid (Kp B b w0 w3) := Kp.trans HK2.out hb3
  have l3 : (D2 ++ nbs code 1).length ≤ 1004 := by rw [List.length_append, nbs_len]; omega
  obtain ⟨D3, hD3⟩ : ∃ D, D = D2 ++ nbs code 1 := ⟨_, rfl⟩
  rw [← hD3] at h3 l3
  have HD3 : Hid (D3 = D2 ++ nbs code 1) := hD3
  have HI3 : Hid (IsW B b D3 w3) := h3
  clear hD3 h3 hb3 c0 c1 c2 c3 c4 c5 c6
  obtain ⟨c0, c1, c2, c3, c4, c5, c6⟩ := HG.out w3 HK3.out
  go_wp2_with fail
  refine (wnumber_any B b 2 1 D3 w3 HI3.out (by omega) (by omega) (Nat.le_trans hz0 (Kp.size HK3.out))).mono ?_
  rintro e w4 ⟨rfl, h4, hb4⟩
  have HK4 : Hid (Kp B b w0 w4) := Kp.trans HK3.out hb4
  have l4 : (D3 ++ nbs 1 2).length ≤ 1006 := by rw [List.length_append, nbs_len]; omega
  obtain ⟨D4, hD4⟩ : ∃ D, D = D3 ++ nbs 1 2 := ⟨_, rfl⟩
  rw [← hD4] at h4 l4
  have HD4 : Hid (D4 = D3 ++ nbs 1 2) := hD4
  have HI4 : Hid (IsW B b D4 w4) := h4
  clear hD4 h4 hb4 c0 c1 c2 c3 c4 c5 c6
  obtain ⟨c0, c1, c2, c3, c4, c5, c6⟩ := HG.out w4 HK4.out
  go_wp2_with fail
  refine (wnumber_any B b 2 n D4 w4 HI4.out (by omega) (by omega) (Nat.le_trans hz0 (Kp.size HK4.out))).mono ?_
  rintro e w5 ⟨rfl, h5, hb5⟩
  have HK5 : Hid (Kp B b w0 w5) := Kp.trans HK4.out hb5
  have l5 : (D4 ++ nbs n 2).length ≤ 1008 := by rw [List.length_append, nbs_len]; omega
  obtain ⟨D5, hD5⟩ : ∃ D, D = D4 ++ nbs n 2 := ⟨_, rfl⟩
  rw [← hD5] at h5 l5
  have HD5 : Hid (D5 = D4 ++ nbs n 2) := hD5
  have HI5 : Hid (IsW B b D5 w5) := h5
  clear hD5 h5 hb5 c0 c1 c2 c3 c4 c5 c6
  obtain ⟨c0, c1, c2, c3, c4, c5, c6⟩ := HG.out w5 HK5.out
  go_wp2_with fail
  refine (wnumber_any B b 2 0 D5 w5 HI5.out (by omega) (by omega) (Nat.le_trans hz0 (Kp.size HK5.out))).mono ?_
  rintro e w6 ⟨rfl, h6, hb6⟩
  have HK6 : Hid (Kp B b w0 w6) := Kp.trans HK5.out hb6
  have l6 : (D5 ++ nbs 0 2).length ≤ 1010 := by rw [List.length_append, nbs_len]; omega
  obtain ⟨D6, hD6⟩ : ∃ D, D = D5 ++ nbs 0 2 := ⟨_, rfl⟩
  rw [← hD6] at h6 l6
  have HD6 : Hid (D6 = D5 ++ nbs 0 2) := hD6
  have HI6 : Hid (IsW B b D6 w6) := h6
  clear hD6 h6 hb6 c0 c1 c2 c3 c4 c5 c6
  obtain ⟨c0, c1, c2, c3, c4, c5, c6⟩ := HG.out w6 HK6.out
  go_wp2_with fail
  refine (wnumber_any B b 2 0 D6 w6 HI6.out (by omega) (by omega) (Nat.le_trans hz0 (Kp.size HK6.out))).mono ?_
  rintro e w7 ⟨rfl, h7, hb7⟩
  have HK7 : Hid (Kp B b w0 w7) := Kp.trans HK6.out hb7
  have l7 : (D6 ++ nbs 0 2).length ≤ 1012 := by rw [List.length_append, nbs_len]; omega
  obtain ⟨D7, hD7⟩ : ∃ D, D = D6 ++ nbs 0 2 := ⟨_, rfl⟩
  rw [← hD7] at h7 l7
  have HD7 : Hid (D7 = D6 ++ nbs 0 2) := hD7
  have HI7 : Hid (IsW B b D7 w7) := h7
  clear hD7 h7 hb7 c0 c1 c2 c3 c4 c5 c6
  obtain ⟨c0, c1, c2, c3, c4, c5, c6⟩ := HG.out w7 HK7.out
  go_wp2_with fail
  refine (wname_any B b D7 name w7 (ML.kp HM0.out HK7.out hB0) HI7.out (by omega) hn (Nat.le_trans hz0 (Kp.size HK7.out))).mono ?_
  rintro e w8 ⟨rfl, h8, hb8⟩
  have HK8 : Hid (Kp B b w0 w8) := Kp.trans HK7.out hb8
  have l8 : (D7 ++ wname name).length ≤ 1261 := by rw [List.length_append]; omega
  obtain ⟨D8, hD8⟩ : ∃ D, D = D7 ++ wname name := ⟨_, rfl⟩
  rw [← hD8] at h8 l8
  have HD8 : Hid (D8 = D7 ++ wname name) := hD8
  have HI8 : Hid (IsW B b D8 w8) := h8
  clear hD8 h8 hb8 c0 c1 c2 c3 c4 c5 c6
  obtain ⟨c0, c1, c2, c3, c4, c5, c6⟩ := HG.out w8 HK8.out
  go_wp2_with fail
  refine (wnumber_any B b 2 typ D8 w8 HI8.out (by omega) (by omega) (Nat.le_trans hz0 (Kp.size HK8.out))).mono ?_
  rintro e w9 ⟨rfl, h9, hb9⟩
  have HK9 : Hid (Kp B b w0 w9) := Kp.trans HK8.out hb9
  have l9 : (D8 ++ nbs typ 2).length ≤ 1263 := by rw [List.length_append, nbs_len]; omega
  obtain ⟨D9, hD9⟩ : ∃ D, D = D8 ++ nbs typ 2 := ⟨_, rfl⟩
  rw [← hD9] at h9 l9
  have HD9 : Hid (D9 = D8 ++ nbs typ 2) := hD9
  have HI9 : Hid (IsW B b D9 w9) := h9
  clear hD9 h9 hb9 c0 c1 c2 c3 c4 c5 c6
  obtain ⟨c0, c1, c2, c3, c4, c5, c6⟩ := HG.out w9 HK9.out
  go_wp2_with fail
  refine (wnumber_any B b 2 1 D9 w9 HI9.out (by omega) (by omega) (Nat.le_trans hz0 (Kp.size HK9.out))).mono ?_
  rintro e w10 ⟨rfl, h10, hb10⟩
  have HK10 : Hid (Kp B b w0 w10) := Kp.trans HK9.out hb10
  have l10 : (D9 ++ nbs 1 2).length ≤ 1265 := by rw [List.length_append, nbs_len]; omega
  obtain ⟨D10, hD10⟩ : ∃ D, D = D9 ++ nbs 1 2 := ⟨_, rfl⟩
  rw [← hD10] at h10 l10
  have HD10 : Hid (D10 = D9 ++ nbs 1 2) := hD10
  have HI10 : Hid (IsW B b D10 w10) := h10
  clear hD10 h10 hb10 c0 c1 c2 c3 c4 c5 c6
  obtain ⟨c0, c1, c2, c3, c4, c5, c6⟩ := HG.out w10 HK10.out
  go_wp2_with fail
  have HF : Hid (D10 = bs ++ whead id code typ ans cut name n) := (show _ = _ by rw [HD10.out, HD9.out, HD8.out, HD7.out, HD6.out, HD5.out, HD4.out, HD3.out, HD2.out, HD1.out]; simp [whead])
  have HIF : Hid (IsW B b (bs ++ whead id code typ ans cut name n) w10) := (show IsW _ _ _ _ by rw [← HF.out]; exact HI10.out)
  have HKF : Hid (Kp B b w w10) := HK0.out.trans HK10.out
  have hhl : (bs ++ whead id code typ ans cut name n).length ≤ 1265 := by rw [← HF.out]; exact l10
  have hz10 : B ≤ w10.heap.size := Nat.le_trans hBw HKF.out.size
  obtain ⟨H, hH⟩ : ∃ H, H = bs ++ whead id code typ ans cut name n := ⟨_, rfl⟩
  rw [← hH] at hhl HIF
  have HH : Hid (H = bs ++ whead id code typ ans cut name n) := hH
  clear hH
  clear HF HD1 HD2 HD3 HD4 HD5 HD6 HD7 HD8 HD9 HD10 HI1 HI2 HI3 HI4 HI5 HI6 HI7 HI8 HI9 HI10 HK1 HK2 HK3 HK4 HK5 HK6 HK7 HK8 HK9 HIf HKf l1 l2 l3 l4 l5 l6 l7 l8 l9 l10 c0 c1 c2 c3 c4 c5
  go_loopw [44] (fun i wr => ∃ k : Nat, k ≤ n ∧ i = .int .i64 k ∧ Hid (IsW B b (H ++ (rs.take k).flatMap wrec) wr) ∧ Hid (Kp B b w wr)) (fun i _ => n - (intOf i).toNat)
  case atStart => exact ⟨0, Nat.zero_le _, rfl, by simpa using HIF, HKF⟩
  case round =>
    obtain ⟨k, hk, rfl, HW, HKR⟩ := hrel
    have hBr : B ≤ wr.heap.size := Nat.le_trans hBw HKR.out.size
    have hfl := HFL.out k
    by_cases hlt : k < n
    · obtain ⟨bR, off, hpa, hbw, hr⟩ : ∃ b off, pa = some ⟨b, off, none⟩ ∧ b < wr.heap.size ∧ Rc.Row wr b off rs := by
        rcases HROW.out wr HKR.out.bel with h | h
        · have := HLN.out; rw [h] at this; simp at this; omega
        · exact h
      subst hpa
      obtain ⟨c0, c1, c2, c3, c4, c5, c7⟩ := hr k (by rw [HLN.out]; exact hlt)
      have HTK2 := HTK.out k hlt
      have HCK := HCS.out k hlt
      have HTK3 : Hid ((rs.take (k + 1)).flatMap wrec = (rs.take k).flatMap wrec ++ wrec (rs.getD k Rc.dm)) := HTK2
      have HCK2 : Hid (chkRec (rs.getD k Rc.dm) = 0) := HCK
      clear HTK2 HCK hr
      generalize rs.getD k Rc.dm = r at *
      have hd : decide ((k : Int) < (n : Int)) = true := by simp; omega
      have hi0 : (0 : Int) ≤ (k : Int) := by omega
      have hi1 : (k : Int) < (n : Int) := by omega
      have hi2 : ((k : Int)).toNat = k := by omega
      go_wp2_with fail
      obtain ⟨wx, hwx⟩ : ∃ wx, wx = wr.alloc (.cells #[.string r.name, .int .i64 r.typ, .int .i64 r.lasts, .int .i64 r.addr, .string r.text, .int .i64 r.port, .string r.target] 51) := ⟨_, rfl⟩
      rw [← hwx]
      have HIX : Hid (IsW B b (H ++ (rs.take k).flatMap wrec) wx) := (show IsW _ _ _ _ by rw [hwx]; exact HW.out.alloc _)
      have HKX : Hid (Kp B b w wx) := (show Kp _ _ _ _ by rw [hwx]; exact HKR.out.trans (Kp.alloc _ hBr))
      clear hwx c0 c1 c2 c3 c4 c5 c7
      refine (wrecord_any B b _ r wx (HMW.out.kp HKX.out hB0) HIX.out (by rw [List.length_append]; omega) HCK2.out (Nat.le_trans hBw HKX.out.size) hB0).mono ?_
      rintro e w12 ⟨rfl, h1, hb1⟩
      have HI12 : Hid (IsW B b (H ++ (rs.take (k + 1)).flatMap wrec) w12) := (show IsW _ _ _ _ by rw [HTK3.out, ← List.append_assoc]; exact h1)
      have HK12 : Hid (Kp B b w w12) := HKX.out.trans hb1
      clear h1 hb1
      go_wp2_with fail
      exact ⟨⟨k + 1, by omega, by go_num, HI12, HK12⟩, by simp [intOf]; omega⟩
    · have hkn : k = n := by omega
      have HIZ : Hid (IsW B b (bs ++ (whead id code typ ans cut name n ++ rs.flatMap wrec)) wr) := (show IsW _ _ _ _ by
        have h := HW.out
        rw [hkn, HALL.out, HH.out, List.append_assoc] at h
        exact h)
      have hd : decide ((k : Int) < (n : Int)) = false := by simp; omega
      clear hkn
      go_wp2_with fail
      simp [bodyPost, results, Tryz.results84]
      exact ⟨HIZ.out, HKR.out⟩

end Go.Proofs.YtigffgjkakalfaaGreatDoor

/- A message is checked. -/
namespace Go.Proofs.YtigffgjkakalfaaGreatDoor
open Go.RowKit

def chkRs : List Rc.Rec → Int
  | [] => 0
  | r :: t => if chkRec r = 0 then chkRs t else chkRec r
/-- What CheckMessage says. -/
def chkMsg (id code typ : Int) (name : ByteArray) (rs : List Rc.Rec) : Int :=
  if (within id 0 65535 && within code 0 15) = false then 3
  else if 20 < rs.length then 2
  else if chkN name ≠ 0 then chkN name
  else if typB typ = false then 7
  else chkRs rs

theorem chkRs_step {rs : List Rc.Rec} {k : Nat} (h : k < rs.length) (he : chkRs rs = chkRs (rs.drop k)) : chkRs rs = if chkRec (rs.getD k Rc.dm) = 0 then chkRs (rs.drop (k + 1)) else chkRec (rs.getD k Rc.dm) := by
  rw [he, List.drop_eq_getElem_cons h, chkRs, show rs.getD k Rc.dm = rs[k] by simp [List.getD, List.getElem?_eq_getElem h]]

set_option maxHeartbeats 1600000 in
set_option maxRecDepth 100000 in
theorem dcheck_any (id code typ : Int) (ans cut : Bool) (name : ByteArray) (rs : List Rc.Rec) (v : Value) (w : World) (hs : name.size ≤ maxLen) (hv : Rc.Sl w v rs) :
    Calls Tryz.prog 33 #[.agg #[.int .i64 id, .bool ans, .bool cut, .int .i64 code, .string name, .int .i64 typ, v]] w fun e w' => e = outE (chkMsg id code typ name rs) ∧ Below w.heap.size w w' := by
  have HN : Hid (∀ W, Calls Tryz.prog 68 #[.string name] W fun e w' => e = outE (chkN name) ∧ Below W.heap.size W w') := fun W => checkName_any _ _ hs
  obtain ⟨pa, cap, rfl, hok, hrow⟩ := hv
  have HOK : Hid (∀ j, (rs.getD j Rc.dm).ok) := hok
  have HROW : Hid (rs = [] ∨ ∃ b off, pa = some ⟨b, off, none⟩ ∧ b < w.heap.size ∧ Rc.Row w b off rs) := hrow
  clear hok hrow hs
  generalize hE : chkMsg id code typ name rs = E
  unfold chkMsg at hE
  go_enter Tryz.func33, Tryz.ntmps33
  go_wp2_with fail
  have hg0 : (w.alloc (.cells #[.int .i64 id, .bool ans, .bool cut, .int .i64 code, .string name, .int .i64 typ, .slice pa rs.length cap] 38)).heap[w.heap.size]? = some (.cells #[.int .i64 id, .bool ans, .bool cut, .int .i64 code, .string name, .int .i64 typ, .slice pa rs.length cap] 38 (0, 0)) := heap_alloc_new w _
  obtain ⟨w0, hw0⟩ : ∃ w0, w0 = w.alloc (.cells #[.int .i64 id, .bool ans, .bool cut, .int .i64 code, .string name, .int .i64 typ, .slice pa rs.length cap] 38) := ⟨_, rfl⟩
  have HB0 : Hid (Below w.heap.size w w0) := (show Below _ _ _ by rw [hw0]; exact (Below.refl _ _).alloc (Nat.le_refl _) _)
  rw [← hw0] at hg0 ⊢
  clear hw0
  have f3 : w0.cell? ⟨w.heap.size, 3, none⟩ = some (.int .i64 code) := cellsAt hg0 3
  have f4 : w0.cell? ⟨w.heap.size, 4, none⟩ = some (.string name) := cellsAt hg0 4
  have f6 : w0.cell? ⟨w.heap.size, 6, none⟩ = some (.slice pa rs.length cap) := cellsAt hg0 6
  refine (within_any _ _ _ _).mono ?_
  rintro e w1 ⟨rfl, hw1⟩
  subst hw1
  by_cases h1 : within id 0 65535 = false
  · rw [if_pos (by rw [h1]; rfl)] at hE
    subst hE
    rw [h1]
    go_wp2_with fail
    refine (need_no _ _).mono ?_
    rintro e w9 ⟨rfl, rfl⟩
    exact ⟨rfl, rfl, HB0.out⟩
  have h1t : within id 0 65535 = true := by simpa using h1
  rw [h1t] at hE ⊢
  rw [Bool.true_and] at hE
  go_wp2_with fail
  refine (within_any _ _ _ _).mono ?_
  rintro e w2 ⟨rfl, hw2⟩
  subst hw2
  by_cases h2 : within code 0 15 = false
  · rw [if_pos h2] at hE
    subst hE
    rw [h2]
    go_wp2_with fail
    refine (need_no _ _).mono ?_
    rintro e w9 ⟨rfl, rfl⟩
    exact ⟨rfl, rfl, HB0.out⟩
  rw [if_neg h2] at hE
  rw [show within code 0 15 = true by simpa using h2]
  go_wp2_with fail
  refine (need_ok _ _).mono ?_
  rintro e w3 ⟨rfl, hw3⟩
  subst hw3
  by_cases h3 : 20 < rs.length
  · rw [if_pos h3] at hE
    subst hE
    have h8 : decide ((rs.length : Int) ≤ 20) = false := by simp; omega
    go_wp2_with fail
    refine (need_no _ _).mono ?_
    rintro e wb ⟨rfl, rfl⟩
    exact ⟨rfl, rfl, HB0.out⟩
  rw [if_neg h3] at hE
  have h8 : decide ((rs.length : Int) ≤ 20) = true := by simp; omega
  go_wp2_with fail
  refine (need_ok _ _).mono ?_
  rintro e w4 ⟨rfl, hw4⟩
  subst hw4
  go_wp2_with fail
  refine (HN.out _).mono ?_
  rintro e w5 ⟨rfl, hb5⟩
  have hg5 := (hb5.block w.heap.size (Array.getElem?_eq_some_iff.1 hg0).1).trans hg0
  have HB5 : Hid (Below w.heap.size w w5) := HB0.out.trans (hb5.mono HB0.out.size)
  clear hg0 hb5 f3 f4 f6 h8
  by_cases h4 : chkN name = 0
  · rw [h4, outE_0]
    rw [if_neg (by simpa using h4)] at hE
    have f5 : w5.cell? ⟨w.heap.size, 5, none⟩ = some (.int .i64 typ) := cellsAt hg5 5
    have f6 : w5.cell? ⟨w.heap.size, 6, none⟩ = some (.slice pa rs.length cap) := cellsAt hg5 6
    go_wp2_with fail
    refine (rtype_any _ _).mono ?_
    rintro e w6 ⟨rfl, hw6⟩
    subst hw6
    rw [show (decide (typ = 1) || decide (typ = 16) || decide (typ = 33)) = typB typ from rfl]
    by_cases h5 : typB typ = false
    · rw [if_pos h5] at hE
      subst hE
      rw [h5]
      go_wp2_with fail
      refine (need_no _ _).mono ?_
      rintro e w7 ⟨rfl, rfl⟩
      exact ⟨rfl, rfl, HB5.out⟩
    rw [if_neg h5] at hE
    rw [show typB typ = true by simpa using h5]
    go_wp2_with fail
    refine (need_ok _ _).mono ?_
    rintro e w7 ⟨rfl, hw7⟩
    subst hw7
    have HEE : Hid (chkRs rs = E) := hE
    have hn20 : rs.length ≤ 20 := by omega
    clear hE h1 h1t h2 h3 h4 h5 hg5
    generalize hnn : rs.length = n at *
    have HNN : Hid (rs.length = n) := hnn
    clear hnn
    go_wp2_with fail
    go_loopw [30] (fun i wr => ∃ k : Nat, k ≤ n ∧ i = .int .i64 k ∧ Hid (Below w.heap.size w wr) ∧ Hid (chkRs rs = chkRs (rs.drop k))) (fun i _ => n - (intOf i).toNat)
    case atStart => exact ⟨0, Nat.zero_le _, rfl, HB5, rfl⟩
    case round =>
      obtain ⟨k, hk, rfl, HBR, HZ⟩ := hrel
      have hsz := HBR.out.size
      by_cases hlt : k < n
      · obtain ⟨b, off, hpa, hbw, hr⟩ : ∃ b off, pa = some ⟨b, off, none⟩ ∧ b < w.heap.size ∧ Rc.Row w b off rs := by
          rcases HROW.out with h | h
          · have := HNN.out; rw [h] at this; simp at this; omega
          · exact h
        subst hpa
        obtain ⟨g0, g1, g2, g3, g4, g5, g6⟩ := hr k (by rw [HNN.out]; exact hlt)
        have c0 := (HBR.out.cell (p := ⟨b, off + k * 7, none⟩) hbw).trans g0
        have c1 := (HBR.out.cell (p := ⟨b, off + k * 7 + 1, none⟩) hbw).trans g1
        have c2 := (HBR.out.cell (p := ⟨b, off + k * 7 + 2, none⟩) hbw).trans g2
        have c3 := (HBR.out.cell (p := ⟨b, off + k * 7 + 3, none⟩) hbw).trans g3
        have c4 := (HBR.out.cell (p := ⟨b, off + k * 7 + 4, none⟩) hbw).trans g4
        have c5 := (HBR.out.cell (p := ⟨b, off + k * 7 + 5, none⟩) hbw).trans g5
        have c6 := (HBR.out.cell (p := ⟨b, off + k * 7 + 6, none⟩) hbw).trans g6
        clear g0 g1 g2 g3 g4 g5 g6 hr
        have HST : Hid (chkRs rs = if chkRec (rs.getD k Rc.dm) = 0 then chkRs (rs.drop (k + 1)) else chkRec (rs.getD k Rc.dm)) := chkRs_step (by rw [HNN.out]; exact hlt) HZ.out
        have HRE : Hid (∀ W, Calls Tryz.prog 70 #[recV (rs.getD k Rc.dm)] W fun e w' => e = outE (chkRec (rs.getD k Rc.dm)) ∧ Below W.heap.size W w') := fun W => checkRecord_any _ W (HOK.out k)
        generalize rs.getD k Rc.dm = r at *
        have hd : decide ((k : Int) < (n : Int)) = true := by simp; omega
        have hi0 : (0 : Int) ≤ (k : Int) := by omega
        have hi1 : (k : Int) < (n : Int) := by omega
        have hi2 : ((k : Int)).toNat = k := by omega
        go_wp2_with fail
        refine (HRE.out _).mono ?_
        rintro e w9 ⟨rfl, hb9⟩
        have HB9 : Hid (Below w.heap.size w w9) := (HBR.out.alloc hsz _).trans (hb9.mono (by simp; omega))
        clear hb9 c0 c1 c2 c3 c4 c5 c6
        by_cases h9 : chkRec r = 0
        · rw [h9, outE_0]
          have HZ2 : Hid (chkRs rs = chkRs (rs.drop (k + 1))) := (show _ = _ by rw [HST.out, if_pos h9])
          clear HST h9
          go_wp2_with fail
          exact ⟨⟨k + 1, by omega, by go_num, HB9, HZ2⟩, by simp [intOf]; omega⟩
        · have HF : Hid (E = chkRec r) := (show _ = _ by rw [← HEE.out, HST.out, if_neg h9])
          rw [outE_ne h9]
          exact ⟨rfl, by rw [HF.out]; exact (outE_ne h9).symm, HB9.out⟩
      · have HF : Hid (E = 0) := (show E = 0 by rw [← HEE.out, HZ.out, List.drop_of_length_le (by rw [HNN.out]; omega)]; rfl)
        have hd : decide ((k : Int) < (n : Int)) = false := by simp; omega
        go_wp2_with fail
        simp [bodyPost, results, Tryz.results33]
        exact ⟨by rw [HF.out]; rfl, HBR.out⟩
  · rw [if_pos h4] at hE
    subst hE
    rw [outE_ne h4]
    exact ⟨rfl, (outE_ne h4).symm, HB5.out⟩

end Go.Proofs.YtigffgjkakalfaaGreatDoor

/- Write, of a message without records. -/
namespace Go.Proofs.YtigffgjkakalfaaGreatDoor
open Go.RowKit

set_option maxHeartbeats 800000 in
set_option maxRecDepth 100000 in
theorem write1_ok (g : Nat) (id code typ : Int) (ans cut : Bool) (name : ByteArray) (w : World) (hg : w.heap[g]? = some (.cells #[.int .i64 id, .bool ans, .bool cut, .int .i64 code, .string name, .int .i64 typ, .slice none 0 0] 38 (0, 0))) (h1 : within id 0 65535 = true) (h2 : within code 0 15 = true) (hs : name.size ≤ maxLen) (hn : chkN name = 0) (ht : (decide (typ = 1) || decide (typ = 16) || decide (typ = 33)) = true) :
    Calls Tryz.prog 52 #[.pointer (some ⟨g, 0, none⟩)] w fun r w' => r = .returned (.tuple #[]) ∧ Below w.heap.size w w' := by
  have HC : Hid (Calls Tryz.prog 33 #[.agg #[.int .i64 id, .bool ans, .bool cut, .int .i64 code, .string name, .int .i64 typ, .slice none 0 0]] w fun r w' => r = .returned (.tuple #[]) ∧ Below w.heap.size w w') := dcheck_none id code typ ans cut name w h1 h2 hs hn ht
  have c0 : w.cell? ⟨g, 0, none⟩ = some (.int .i64 id) := cellsAt hg 0
  have c1 : w.cell? ⟨g, 1, none⟩ = some (.bool ans) := cellsAt hg 1
  have c2 : w.cell? ⟨g, 2, none⟩ = some (.bool cut) := cellsAt hg 2
  have c3 : w.cell? ⟨g, 3, none⟩ = some (.int .i64 code) := cellsAt hg 3
  have c4 : w.cell? ⟨g, 4, none⟩ = some (.string name) := cellsAt hg 4
  have c5 : w.cell? ⟨g, 5, none⟩ = some (.int .i64 typ) := cellsAt hg 5
  have c6 : w.cell? ⟨g, 6, none⟩ = some (.slice none 0 0) := cellsAt hg 6
  clear h1 h2 hs hn ht hg
  go_enter Tryz.func52, Tryz.ntmps52
  go_wp2_with fail
  refine HC.out.mono ?_
  rintro e w1 ⟨rfl, hb1⟩
  have HB1 : Hid (Below w.heap.size w w1) := hb1
  clear hb1
  go_wp2_with fail
  simp [bodyPost, results, Tryz.results52]
  exact HB1.out

set_option maxHeartbeats 1600000 in
set_option maxRecDepth 100000 in
theorem write_none (id code typ : Int) (ans cut : Bool) (name : ByteArray) (w : World) (hm : ML w) (h1 : within id 0 65535 = true) (h2 : within code 0 15 = true) (hs : name.size ≤ maxLen) (hn : chkN name = 0) (ht : (decide (typ = 1) || decide (typ = 16) || decide (typ = 33)) = true) (hl : (wmsgL id code typ ans cut name).length ≤ 512) :
    Calls Tryz.prog 21 #[msgV id code typ ans cut name] w fun e w' => e = .returned (.tuple #[.string ⟨(wmsgL id code typ ans cut name).toArray⟩, .int .i64 0]) ∧ Below w.heap.size w w' := by
  have HWR : Hid (∀ W, Below w.heap.size w W → Calls Tryz.prog 53 #[msgV id code typ ans cut name] W fun e w' => e = .returned (.string ⟨(wmsgL id code typ ans cut name).toArray⟩) ∧ Below W.heap.size W w') := fun W hW => written_none id code typ ans cut name W (hm.below hW) hn
  have HW1 : Hid (∀ (g : Nat) (W : World), W.heap[g]? = some (.cells #[.int .i64 id, .bool ans, .bool cut, .int .i64 code, .string name, .int .i64 typ, .slice none 0 0] 38 (0, 0)) → Calls Tryz.prog 52 #[.pointer (some ⟨g, 0, none⟩)] W fun r w' => r = .returned (.tuple #[]) ∧ Below W.heap.size W w') := fun g W hg => write1_ok g id code typ ans cut name W hg h1 h2 hs hn ht
  have ef : ∀ args W, (callFunc 52 args).run Tryz.prog W = .ok (.enter 52 args) W := enters_of Tryz.func52 (by kernel_rfl) rfl
  have hlen : ((⟨(wmsgL id code typ ans cut name).toArray⟩ : ByteArray).size : Int) ≤ 512 := by
    have : (⟨(wmsgL id code typ ans cut name).toArray⟩ : ByteArray).size = (wmsgL id code typ ans cut name).length := by simp [ByteArray.size]
    omega
  generalize (⟨(wmsgL id code typ ans cut name).toArray⟩ : ByteArray) = T at *
  clear h1 h2 hs hn ht hl hm
  go_enter Tryz.func21, Tryz.ntmps21
  go_wp2_with fail
  obtain ⟨w0, hw0⟩ : ∃ w0, w0 = w.alloc (.cells #[.int .i64 id, .bool ans, .bool cut, .int .i64 code, .string name, .int .i64 typ, .slice none 0 0] 38) := ⟨_, rfl⟩
  rw [← hw0]
  have hg0 : w0.heap[w.heap.size]? = some (.cells #[.int .i64 id, .bool ans, .bool cut, .int .i64 code, .string name, .int .i64 typ, .slice none 0 0] 38 (0, 0)) := by rw [hw0]; exact heap_alloc_new w _
  have HB0 : Hid (Below w.heap.size w w0) := (show Below _ _ _ by rw [hw0]; exact (Below.refl _ _).alloc (Nat.le_refl _) _)
  have hl0 : w.heap.size < w0.heap.size := (Array.getElem?_eq_some_iff.1 hg0).1
  clear hw0
  have hge : (w0.alloc (.cells #[.int .i64 0] 27)).heap[w0.heap.size]? = some (.cells #[.int .i64 0] 27 (0, 0)) := heap_alloc_new w0 _
  have hgm : (w0.alloc (.cells #[.int .i64 0] 27)).heap[w.heap.size]? = some (.cells #[.int .i64 id, .bool ans, .bool cut, .int .i64 code, .string name, .int .i64 typ, .slice none 0 0] 38 (0, 0)) := (Lib.alloc_old w0 _ _ hl0).trans hg0
  have hsa : (w0.alloc (.cells #[.int .i64 0] 27)).heap.size = w0.heap.size + 1 := by simp
  have HAT : Hid (Calls Tryz.prog 34 #[.func (.func 52) #[] #[.pointer (some ⟨w.heap.size, 0, none⟩)]] w0 fun r w' => r = .returned (.int .i64 0) ∧ Below w0.heap.size w0 w') := (show Calls _ _ _ _ _ by
    refine (attempt_ok 52 #[.pointer (some ⟨w.heap.size, 0, none⟩)] w0 (fun W => Below (w0.heap.size + 1) (w0.alloc (.cells #[.int .i64 0] 27)) W) ef ?_).mono ?_
    · refine (HW1.out w.heap.size _ hgm).mono ?_
      rintro r w' ⟨rfl, hb⟩
      rw [hsa] at hb
      have hk : w'.heap[w0.heap.size]? = some (.cells #[.int .i64 0] 27 (0, 0)) := (hb.block _ (by omega)).trans hge
      exact ⟨rfl, hb, cellsAt hk 0, by simp [World.frozen?, hk], (Array.getElem?_eq_some_iff.1 hk).1⟩
    · rintro r w' ⟨rfl, w1, hR, _, rfl⟩
      exact ⟨rfl, (((Below.refl _ _).alloc (Nat.le_refl _) _).trans (hR.mono (by omega))).setCell (p := ⟨w0.heap.size, 0, none⟩) (Nat.le_refl _) _⟩)
  have HC : Hid (∀ W, Below w0.heap.size w0 W → W.heap[w.heap.size]? = some (.cells #[.int .i64 id, .bool ans, .bool cut, .int .i64 code, .string name, .int .i64 typ, .slice none 0 0] 38 (0, 0))) := fun W hW => (hW.block _ hl0).trans hg0
  clear hge hgm hsa hg0 HW1 ef
  refine HAT.out.mono ?_
  rintro e w1 ⟨rfl, hb1⟩
  have HB1 : Hid (Below w.heap.size w w1) := HB0.out.trans (hb1.mono (Nat.le_of_lt hl0))
  have hg1 := HC.out w1 hb1
  have c0 : w1.cell? ⟨w.heap.size, 0, none⟩ = some (.int .i64 id) := cellsAt hg1 0
  have c1 : w1.cell? ⟨w.heap.size, 1, none⟩ = some (.bool ans) := cellsAt hg1 1
  have c2 : w1.cell? ⟨w.heap.size, 2, none⟩ = some (.bool cut) := cellsAt hg1 2
  have c3 : w1.cell? ⟨w.heap.size, 3, none⟩ = some (.int .i64 code) := cellsAt hg1 3
  have c4 : w1.cell? ⟨w.heap.size, 4, none⟩ = some (.string name) := cellsAt hg1 4
  have c5 : w1.cell? ⟨w.heap.size, 5, none⟩ = some (.int .i64 typ) := cellsAt hg1 5
  have c6 : w1.cell? ⟨w.heap.size, 6, none⟩ = some (.slice none 0 0) := cellsAt hg1 6
  clear hb1 hg1 HAT HC
  go_wp2_with fail
  refine (HWR.out _ HB1.out).mono ?_
  rintro e w2 ⟨rfl, hb2⟩
  have HB2 : Hid (Below w.heap.size w w2) := HB1.out.trans (hb2.mono HB1.out.size)
  have hcmp : decide (512 < (T.size : Int)) = false := by simp; omega
  clear hb2
  go_wp2_with fail
  go_ret2
  exact ⟨rfl, HB2.out⟩

end Go.Proofs.YtigffgjkakalfaaGreatDoor

