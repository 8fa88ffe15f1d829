/- DK1, FM, GU, GV, ShelfC, SP -/
import Derived.Test.YtogmkdhljifbpaaDoorY1
import Derived.Test.YtogmkdhljifbpaaDoorY2
import Derived.Deep.RegionHeld3
import Derived.StillTactics
import Derived.Shelf.Strings.Builder1
import Derived.Shelf.Strings.Builder2
import Derived.Shelf.Strings.OnBuilder
import Derived.Shelf.LaysM
import Derived.Shelf.Strconv.Clone
import Derived.Shelf.Strings.Search1
import Derived.Shelf.Strings.Search2
import Derived.Shelf.Strings.Search3
import Derived.Shelf.Strings.Cut
import Derived.Shelf.Strings.Count
import Derived.Shelf.Strings.Shaped
import Derived.Shelf.Strings.Split
import Derived.Shelf.Strings.SplitShaped
import Derived.Shelf.Unicode.DecodeSlow
import Derived.Test.YtogmkdhljifbpaaDoorProg
import Derived.Lib.SplitLaws
import Derived.Lib.IndexBytes
import Derived.Below
/- Lists of records in memory. -/
namespace Go.Proofs.YtogmkdhljifbpaaDoor
namespace Rc
open Go.RowKit

structure Rec where
  name : ByteArray
  typ : Int
  lasts : Int
  addr : Int
  text : ByteArray
  port : Int
  target : ByteArray

def dm : Rec := ⟨ByteArray.empty, 0, 0, 0, ByteArray.empty, 0, ByteArray.empty⟩
/-- Its texts are no longer than texts may be. -/
def Rec.ok (m : Rec) : Prop := m.name.size ≤ maxLen ∧ m.text.size ≤ maxLen ∧ m.target.size ≤ maxLen
theorem dm_ok : dm.ok := by simp [Rec.ok, dm]

def Row (w : World) (b off : Nat) (ms : List Rec) : Prop := ∀ j, j < ms.length →
  w.cell? ⟨b, off + j * 7, none⟩ = some (.string (ms.getD j dm).name) ∧ w.cell? ⟨b, off + j * 7 + 1, none⟩ = some (.int .i64 (ms.getD j dm).typ) ∧ w.cell? ⟨b, off + j * 7 + 2, none⟩ = some (.int .i64 (ms.getD j dm).lasts) ∧ w.cell? ⟨b, off + j * 7 + 3, none⟩ = some (.int .i64 (ms.getD j dm).addr) ∧ w.cell? ⟨b, off + j * 7 + 4, none⟩ = some (.string (ms.getD j dm).text) ∧ w.cell? ⟨b, off + j * 7 + 5, none⟩ = some (.int .i64 (ms.getD j dm).port) ∧ w.cell? ⟨b, off + j * 7 + 6, none⟩ = some (.string (ms.getD j dm).target)

/-- A slice's value, and what it holds in a world. -/
def Sl (w : World) (v : Value) (ms : List Rec) : Prop :=
  ∃ (a : Option Addr) (cap : Nat), v = .slice a ms.length cap ∧ (∀ j, (ms.getD j dm).ok) ∧
    (ms = [] ∨ ∃ b off, a = some ⟨b, off, none⟩ ∧ b < w.heap.size ∧ Row w b off ms)

def Rec.cs (m : Rec) : List Value := [.string m.name, .int .i64 m.typ, .int .i64 m.lasts, .int .i64 m.addr, .string m.text, .int .i64 m.port, .string m.target]
def fl (ms : List Rec) : List Value := ms.flatMap Rec.cs

theorem cs_len (m : Rec) : m.cs.length = 7 := rfl
theorem fl_cons (m : Rec) (r : List Rec) : fl (m :: r) = m.cs ++ fl r := by simp [fl]
theorem fl_append (a b : List Rec) : fl (a ++ b) = fl a ++ fl b := by simp [fl]
theorem fl_len : ∀ ms : List Rec, (fl ms).length = ms.length * 7
  | [] => rfl
  | m :: r => by rw [fl_cons, List.length_append, fl_len r, cs_len, List.length_cons]; omega
theorem fl_take : ∀ (ms : List Rec) (i : Nat), (fl ms).take (i * 7) = fl (ms.take i)
  | [], i => by simp [fl]
  | m :: r, 0 => by simp [fl]
  | m :: r, i + 1 => by
    rw [fl_cons, List.take_succ_cons, fl_cons, show (i + 1) * 7 = m.cs.length + i * 7 by rw [cs_len]; omega, List.take_length_add_append, fl_take r i]
theorem fl_drop : ∀ (ms : List Rec) (i : Nat), (fl ms).drop (i * 7) = fl (ms.drop i)
  | [], i => by simp [fl]
  | m :: r, 0 => by simp
  | m :: r, i + 1 => by
    rw [fl_cons, List.drop_succ_cons, show (i + 1) * 7 = m.cs.length + i * 7 by rw [cs_len]; omega, List.drop_length_add_append, fl_drop r i]
theorem cs_one (m : Rec) : ∀ v ∈ m.cs, v.oneCell' = true := by
  intro v hv; simp [Rec.cs] at hv; rcases hv with rfl | rfl | rfl | rfl | rfl | rfl | rfl <;> rfl
theorem fl_one (ms : List Rec) : ∀ v ∈ fl ms, v.oneCell' = true := by
  intro v hv
  obtain ⟨m, _, h⟩ := List.mem_flatMap.1 hv
  exact cs_one m v h
theorem fl_get (ms : List Rec) (j : Nat) (hj : j < ms.length) (t : Nat) (ht : t < 7) : (fl ms)[j * 7 + t]? = (ms.getD j dm).cs[t]? := by
  induction ms generalizing j with
  | nil => simp at hj
  | cons m r ih =>
    rw [fl_cons]
    cases j with
    | zero => rw [List.getElem?_append_left (by rw [cs_len]; omega)]; simp
    | succ j =>
      rw [List.getElem?_append_right (by rw [cs_len]; omega), cs_len, show (j + 1) * 7 + t - 7 = j * 7 + t by omega, ih j (by simpa using hj)]
      simp
theorem fl_set (ms : List Rec) (p : Nat) (hp : p < ms.length) (m : Rec) : ((((((((fl ms).set (p * 7) (.string m.name)).set (p * 7 + 1) (.int .i64 m.typ)).set (p * 7 + 2) (.int .i64 m.lasts)).set (p * 7 + 3) (.int .i64 m.addr)).set (p * 7 + 4) (.string m.text)).set (p * 7 + 5) (.int .i64 m.port)).set (p * 7 + 6) (.string m.target)) = fl (ms.set p m) := by
  induction ms generalizing p with
  | nil => simp at hp
  | cons x r ih =>
    cases p with
    | zero => simp [fl, Rec.cs]
    | succ p =>
      have ih' := ih p (by simpa using hp)
      rw [List.set_cons_succ, fl_cons, fl_cons, ← ih']
      simp only [Nat.add_mul, Nat.one_mul]
      have e : ∀ (l : List Value) (k : Nat) (v : Value), (x.cs ++ l).set (k + 7) v = x.cs ++ l.set k v := fun l k v => by
        rw [List.set_append, if_neg (by rw [cs_len]; omega), cs_len, Nat.add_sub_cancel]
      have c : ∀ i : Nat, p * 7 + 7 + i = (p * 7 + i) + 7 := fun i => by omega
      simp only [c]
      rw [e, e, e, e, e, e, e]

abbrev Own (base : Nat) (w : World) (v : Value) (ms : List Rec) : Prop := w.ownsRow base 54 7 v ms.length (fl ms)

theorem own_of {base g G : Nat} {w : World} {cur : Array Value} {ms : List Rec} (hb : base ≤ g) (hg : w.heap[g]? = some (.cells cur 54 (0, 0))) (hs : cur.size = G * 7) (hn : ms.length ≤ G) (hG : G ≤ maxLen) (ht : cur.toList.take (ms.length * 7) = fl ms) :
    Own base w (.slice (some ⟨g, 0, none⟩) ms.length G) ms := ⟨fl_len ms, .inr ⟨g, G, cur, rfl, hb, hg, hn, hG, hs, ht⟩⟩

/-- What a call owns is a slice as any. -/
theorem Own.sl {base : Nat} {w : World} {v : Value} {ms : List Rec} (h : Own base w v ms) (hs : ∀ j, (ms.getD j dm).ok) : Sl w v ms := by
  rcases h.2 with ⟨rfl, h0⟩ | ⟨g, c, cur, rfl, hbg, hg, hnc, hcm, hcs, htake⟩
  · exact ⟨none, 0, by rw [h0], hs, .inl (List.eq_nil_of_length_eq_zero h0)⟩
  · refine ⟨_, c, rfl, hs, .inr ⟨g, 0, rfl, (Array.getElem?_eq_some_iff.1 hg).1, fun j hj => ?_⟩⟩
    have hc : ∀ t, t < 7 → w.cell? ⟨g, 0 + j * 7 + t, none⟩ = (ms.getD j dm).cs[t]? := fun t ht => by
      rw [cellsAt hg, ← fl_get ms j hj t ht, ← htake, List.getElem?_take_of_lt (by omega)]; simp
    exact ⟨hc 0 (by omega), hc 1 (by omega), hc 2 (by omega), hc 3 (by omega), hc 4 (by omega), hc 5 (by omega), hc 6 (by omega)⟩

theorem Own.below {base : Nat} {w w' : World} {v : Value} {ms : List Rec} (h : Own base w v ms) (hb : Below w.heap.size w w') : Own base w' v ms := by
  rcases h.2 with ⟨rfl, h0⟩ | ⟨g, c, cur, rfl, hbg, hg, hnc, hcm, hcs, htake⟩
  · exact ⟨h.1, .inl ⟨rfl, h0⟩⟩
  · have hlt : g < w.heap.size := (Array.getElem?_eq_some_iff.1 hg).1
    exact ⟨h.1, .inr ⟨g, c, cur, rfl, hbg, (hb.block g hlt).trans hg, hnc, hcm, hcs, htake⟩⟩

theorem Own.lt {base : Nat} {w : World} {v : Value} {ms : List Rec} (h : Own base w v ms) (k : Nat) (hk : v.ownBlock = some k) : base ≤ k ∧ k < w.heap.size := World.ownsRow.lt h k hk

theorem below_grown {base : Nat} {w w1 w2 : World} {v : Value} {ms : List Rec} (hb : Below base w w1) (h : Own base w1 v ms) (hg : w1.grownBy w2 v.ownBlock) (hbase : base ≤ w1.heap.size) : Below base w w2 :=
  hb.grown hg hbase (fun k hk => (h.lt k hk).1)

theorem own_cells {base g c : Nat} {w : World} {ms : List Rec} (h : Own base w (.slice (some ⟨g, 0, none⟩) ms.length c) ms) (j : Nat) (hj : j < ms.length) :
    w.cell? ⟨g, j * 7, none⟩ = some (.string (ms.getD j dm).name) ∧ w.cell? ⟨g, j * 7 + 1, none⟩ = some (.int .i64 (ms.getD j dm).typ) ∧ w.cell? ⟨g, j * 7 + 2, none⟩ = some (.int .i64 (ms.getD j dm).lasts) ∧ w.cell? ⟨g, j * 7 + 3, none⟩ = some (.int .i64 (ms.getD j dm).addr) ∧ w.cell? ⟨g, j * 7 + 4, none⟩ = some (.string (ms.getD j dm).text) ∧ w.cell? ⟨g, j * 7 + 5, none⟩ = some (.int .i64 (ms.getD j dm).port) ∧ w.cell? ⟨g, j * 7 + 6, none⟩ = some (.string (ms.getD j dm).target) := by
  rcases h.2 with ⟨h1, _⟩ | ⟨g', c', cur, h1, hbg, hg, hnc, hcm, hcs, htake⟩
  · cases h1
  · simp only [Value.slice.injEq, Option.some.injEq, Addr.mk.injEq] at h1
    obtain ⟨⟨rfl, _, _⟩, _, _⟩ := h1
    have hc : ∀ t, t < 7 → w.cell? ⟨g, j * 7 + t, none⟩ = (ms.getD j dm).cs[t]? := fun t ht => by
      rw [cellsAt hg, ← fl_get ms j hj t ht, ← htake, List.getElem?_take_of_lt (by omega)]; simp
    exact ⟨hc 0 (by omega), hc 1 (by omega), hc 2 (by omega), hc 3 (by omega), hc 4 (by omega), hc 5 (by omega), hc 6 (by omega)⟩

theorem own_form {base : Nat} {w : World} {v : Value} {ms : List Rec} (h : Own base w v ms) (p : Nat) (hp : p < ms.length) : ∃ g c, v = .slice (some ⟨g, 0, none⟩) ms.length c := by
  rcases h.2 with ⟨_, h0⟩ | ⟨g, c, cur, h1, _⟩
  · omega
  · exact ⟨g, c, h1⟩

theorem own_set {base g c p : Nat} {W : World} {ms : List Rec} (h : Own base W (.slice (some ⟨g, 0, none⟩) ms.length c) ms) (hp : p < ms.length) (m : Rec) :
    Own base (((((((W.setCell ⟨g, p * 7, none⟩ (.string m.name)).setCell ⟨g, p * 7 + 1, none⟩ (.int .i64 m.typ)).setCell ⟨g, p * 7 + 2, none⟩ (.int .i64 m.lasts)).setCell ⟨g, p * 7 + 3, none⟩ (.int .i64 m.addr)).setCell ⟨g, p * 7 + 4, none⟩ (.string m.text)).setCell ⟨g, p * 7 + 5, none⟩ (.int .i64 m.port)).setCell ⟨g, p * 7 + 6, none⟩ (.string m.target)) (.slice (some ⟨g, 0, none⟩) ms.length c) (ms.set p m) := by
  have h1 := World.ownsRow.stored h (p * 7) (.string m.name)
  have h2 := World.ownsRow.stored h1.1 (p * 7 + 1) (.int .i64 m.typ)
  have h3 := World.ownsRow.stored h2.1 (p * 7 + 2) (.int .i64 m.lasts)
  have h4 := World.ownsRow.stored h3.1 (p * 7 + 3) (.int .i64 m.addr)
  have h5 := World.ownsRow.stored h4.1 (p * 7 + 4) (.string m.text)
  have h6 := World.ownsRow.stored h5.1 (p * 7 + 5) (.int .i64 m.port)
  have h7 := World.ownsRow.stored h6.1 (p * 7 + 6) (.string m.target)
  have e := h7.1
  rw [fl_set ms p hp m] at e
  show World.ownsRow _ _ _ _ _ (ms.set p m).length _
  rw [List.length_set]
  exact e

theorem Sl.below {w w' : World} {v : Value} {ms : List Rec} (h : Sl w v ms) (hb : Below w.heap.size w w') : Sl w' v ms := by
  obtain ⟨a, cap, rfl, hs, h⟩ := h
  refine ⟨a, cap, rfl, hs, ?_⟩
  rcases h with h | ⟨b, off, rfl, hlt, hr⟩
  · exact .inl h
  · refine .inr ⟨b, off, rfl, Nat.lt_of_lt_of_le hlt hb.size, fun j hj => ?_⟩
    obtain ⟨hc, _⟩ := bcell hb
    obtain ⟨c0, c1, c2, c3, c4, c5, c6⟩ := hr j hj
    exact ⟨(hc _ _ hlt).trans c0, (hc _ _ hlt).trans c1, (hc _ _ hlt).trans c2, (hc _ _ hlt).trans c3, (hc _ _ hlt).trans c4, (hc _ _ hlt).trans c5, (hc _ _ hlt).trans c6⟩

theorem Row.later {w w' : World} {b off : Nat} {ms : List Rec} (hr : Row w b off ms) (hb : Below w.heap.size w w') (hlt : b < w.heap.size) : Row w' b off ms := fun j hj => by
  obtain ⟨hc, _⟩ := bcell hb
  obtain ⟨c0, c1, c2, c3, c4, c5, c6⟩ := hr j hj
  exact ⟨(hc _ _ hlt).trans c0, (hc _ _ hlt).trans c1, (hc _ _ hlt).trans c2, (hc _ _ hlt).trans c3, (hc _ _ hlt).trans c4, (hc _ _ hlt).trans c5, (hc _ _ hlt).trans c6⟩

theorem Own.mono {base base' : Nat} {w : World} {v : Value} {ms : List Rec} (h : Own base w v ms) (hb : base' ≤ base) : Own base' w v ms := by
  rcases h.2 with ⟨rfl, h0⟩ | ⟨g, c, cur, rfl, hbg, hg, hnc, hcm, hcs, htake⟩
  · exact ⟨h.1, .inl ⟨rfl, h0⟩⟩
  · exact ⟨h.1, .inr ⟨g, c, cur, rfl, Nat.le_trans hb hbg, hg, hnc, hcm, hcs, htake⟩⟩

theorem own_nil (base : Nat) (w : World) : Own base w (.slice none 0 0) [] := World.ownsRow_nil w base 54 7

theorem ns_mem {ms : List Rec} (h : ∀ j, (ms.getD j dm).ok) : ∀ m ∈ ms, (m).ok := by
  intro m hm
  obtain ⟨j, hj, rfl⟩ := List.getElem_of_mem hm
  have := h j
  simpa [List.getD, List.getElem?_eq_getElem hj] using this
theorem ns_get {ms : List Rec} (h : ∀ m ∈ ms, (m).ok) : ∀ j, (ms.getD j dm).ok := by
  intro j
  by_cases hj : j < ms.length
  · have := h ms[j] (List.getElem_mem hj)
    simpa [List.getD, List.getElem?_eq_getElem hj] using this
  · rw [List.getD, List.getElem?_eq_none (Nat.le_of_not_lt hj)]; exact dm_ok

theorem own_names {base : Nat} {w : World} {v : Value} {ms : List Rec} (h : Own base w v ms) (hs : ∀ m ∈ ms, (m).ok) : Sl w v ms := h.sl (ns_get hs)

theorem sl_one (w : World) (b cap : Nat) (m : Rec) (hm : (m).ok) (hg : w.heap[b]? = some (.cells #[.string m.name, .int .i64 m.typ, .int .i64 m.lasts, .int .i64 m.addr, .string m.text, .int .i64 m.port, .string m.target] 54 (0, 0))) : Sl w (.slice (some ⟨b, 0, none⟩) 1 cap) [m] := by
  refine ⟨_, cap, rfl, ns_get (fun x hx => by simp at hx; subst hx; exact hm), .inr ⟨b, 0, rfl, (Array.getElem?_eq_some_iff.1 hg).1, fun j hj => ?_⟩⟩
  have : j = 0 := by simpa using hj
  subst this
  exact ⟨cellsAt hg (0 + 0 * 7), cellsAt hg (0 + 0 * 7 + 1), cellsAt hg (0 + 0 * 7 + 2), cellsAt hg (0 + 0 * 7 + 3), cellsAt hg (0 + 0 * 7 + 4), cellsAt hg (0 + 0 * 7 + 5), cellsAt hg (0 + 0 * 7 + 6)⟩

theorem own_snoc {base : Nat} {w : World} {v : Value} {L : List Rec} {m : Rec} (h : w.ownsRow base 54 7 v (L.length + 1) (fl L ++ m.cs)) : Own base w v (L ++ [m]) := by
  have e : fl (L ++ [m]) = fl L ++ m.cs := by rw [fl_append, fl_cons]; simp [fl]
  show w.ownsRow base 54 7 v (L ++ [m]).length (fl (L ++ [m]))
  rw [e, List.length_append]
  exact h

end Rc
end Go.Proofs.YtogmkdhljifbpaaDoor

/- dns.check, both ways: what a call gives up with. -/
namespace Go.Proofs.YtogmkdhljifbpaaDoor
open Go.RowKit

/-- How a check ends: it returns, or gives up by e. -/
def outE (e : Int) : Ending := if e = 0 then .returned (.tuple #[]) else .panicked [{ v := .iface 71 (.agg #[.int .i64 e]), recovered := false }]
theorem outE_0 : outE 0 = .returned (.tuple #[]) := rfl
theorem outE_ne {e : Int} (h : e ≠ 0) : outE e = .panicked [{ v := .iface 71 (.agg #[.int .i64 e]), recovered := false }] := if_neg h

set_option maxHeartbeats 800000 in
theorem checkName_any (s : ByteArray) (w : World) (hs : s.size ≤ maxLen) :
    Calls Tryd.prog 50 #[.string s] w fun r w' => r = outE (chkN s) ∧ Below w.heap.size w w' := by
  by_cases h : chkN s = 0
  · rw [h]
    exact checkName_ok s w hs h
  · have HC : Hid (Calls Tryd.prog 10 #[.string s] w fun e w' => e = .returned (.int .i64 (chkN s)) ∧ Below w.heap.size w w') := dnsCheck_any s w hs
    rw [outE_ne h]
    generalize chkN s = E at *
    have h2 : (E == 0) = false := by simpa using h
    go_enter Tryd.func50, Tryd.ntmps50
    go_wp2_with fail
    refine HC.out.mono ?_
    rintro e w1 ⟨rfl, hb1⟩
    have HB1 : Hid (Below w.heap.size w w1) := hb1
    clear hb1
    go_wp2_with fail
    refine (need_no _ _).mono ?_
    rintro e w2 ⟨rfl, rfl⟩
    exact ⟨rfl, rfl, HB1.out⟩

def typB (n : Int) : Bool := decide (n = 1) || decide (n = 16) || decide (n = 33)
/-- The record without what its type does not name. -/
def ownF (r : Rc.Rec) : Rc.Rec := if r.typ = 1 then ⟨r.name, r.typ, r.lasts, r.addr, ⟨#[]⟩, 0, ⟨#[]⟩⟩ else if r.typ = 16 then ⟨r.name, r.typ, r.lasts, 0, r.text, 0, ⟨#[]⟩⟩ else if r.typ = 33 then ⟨r.name, r.typ, r.lasts, 0, ⟨#[]⟩, r.port, r.target⟩ else ⟨r.name, r.typ, r.lasts, 0, ⟨#[]⟩, 0, ⟨#[]⟩⟩
abbrev recV (r : Rc.Rec) : Value := .agg #[.string r.name, .int .i64 r.typ, .int .i64 r.lasts, .int .i64 r.addr, .string r.text, .int .i64 r.port, .string r.target]

set_option maxHeartbeats 1600000 in
set_option maxRecDepth 100000 in
theorem ownFields_any (r : Rc.Rec) (w : World) :
    Calls Tryd.prog 64 #[recV r] w fun e w' => e = .returned (recV (ownF r)) ∧ Below w.heap.size w w' := by
  obtain ⟨name, typ, lasts, addr, text, port, target⟩ := r
  unfold ownF
  simp only
  by_cases h1 : typ = 1
  · subst h1
    go_enter Tryd.func64, Tryd.ntmps64
    go_wp2_with fail
    refine bodyPost_ret (v := .agg #[.string name, .int .i64 1, .int .i64 lasts, .int .i64 addr, .string ⟨#[]⟩, .int .i64 0, .string ⟨#[]⟩]) ?_ rfl ⟨rfl, ?_⟩
    · simp [results, Tryd.results64, go_sem]
    · first | exact (((Below.refl _ _).alloc (Nat.le_refl _) _).alloc (by simp) _).alloc (by simp; omega) _ | exact ((((Below.refl _ _).alloc (Nat.le_refl _) _).alloc (by simp) _).alloc (by simp; omega) _).drew
  rw [if_neg h1]
  have e1 : (typ == 1) = false := by simpa using h1
  by_cases h2 : typ = 16
  · subst h2
    clear e1
    go_enter Tryd.func64, Tryd.ntmps64
    go_wp2_with fail
    refine bodyPost_ret (v := .agg #[.string name, .int .i64 16, .int .i64 lasts, .int .i64 0, .string text, .int .i64 0, .string ⟨#[]⟩]) ?_ rfl ⟨rfl, ?_⟩
    · simp [results, Tryd.results64, go_sem]
    · first | exact (((Below.refl _ _).alloc (Nat.le_refl _) _).alloc (by simp) _).alloc (by simp; omega) _ | exact ((((Below.refl _ _).alloc (Nat.le_refl _) _).alloc (by simp) _).alloc (by simp; omega) _).drew
  rw [if_neg h2]
  have e2 : (typ == 16) = false := by simpa using h2
  by_cases h3 : typ = 33
  · subst h3
    clear e1 e2
    go_enter Tryd.func64, Tryd.ntmps64
    go_wp2_with fail
    go_region
    go_wp2_with fail
    refine bodyPost_ret (v := .agg #[.string name, .int .i64 33, .int .i64 lasts, .int .i64 0, .string ⟨#[]⟩, .int .i64 port, .string target]) ?_ rfl ⟨rfl, ?_⟩
    · simp [results, Tryd.results64, go_sem]
    · first | exact (((Below.refl _ _).alloc (Nat.le_refl _) _).alloc (by simp) _).alloc (by simp; omega) _ | exact ((((Below.refl _ _).alloc (Nat.le_refl _) _).alloc (by simp) _).alloc (by simp; omega) _).drew
  rw [if_neg h3]
  have e3 : (typ == 33) = false := by simpa using h3
  · clear h1 h2 h3
    go_enter Tryd.func64, Tryd.ntmps64
    go_wp2_with fail
    refine bodyPost_ret (v := .agg #[.string name, .int .i64 typ, .int .i64 lasts, .int .i64 0, .string ⟨#[]⟩, .int .i64 0, .string ⟨#[]⟩]) ?_ rfl ⟨rfl, ?_⟩
    · simp [results, Tryd.results64, go_sem]
    · first | exact (((Below.refl _ _).alloc (Nat.le_refl _) _).alloc (by simp) _).alloc (by simp; omega) _ | exact ((((Below.refl _ _).alloc (Nat.le_refl _) _).alloc (by simp) _).alloc (by simp; omega) _).drew

end Go.Proofs.YtogmkdhljifbpaaDoor

/- The reader's moves, where the text is at its end: it gives up. -/
namespace Go.Proofs.YtogmkdhljifbpaaDoor
open Go.RowKit

set_option maxHeartbeats 1600000 in
set_option maxRecDepth 100000 in
theorem take_no (g a n : Nat) (t : ByteArray) (w : World) (c0 : w.cell? ⟨g, 0, none⟩ = some (.string t)) (c1 : w.cell? ⟨g, 1, none⟩ = some (.int .i64 a)) (hs : t.size ≤ 1000) (ha : a ≤ t.size) (han : ¬ a + n ≤ t.size) :
    Calls Tryd.prog 69 #[.pointer (some ⟨g, 0, none⟩), .int .i64 n] w fun e w' => e = outE 1 ∧ ∃ m, w' = w.drewN m := by
  have h1 : IntKind.i64.wrap ((t.size : Int) - (a : Int)) = (t.size : Int) - (a : Int) := by rw [IntKind.wrap_i64]; omega
  have h2 : decide ((n : Int) ≤ (t.size : Int) - (a : Int)) = false := by simp; omega
  go_enter Tryd.func69, Tryd.ntmps69
  go_wp2_with fail
  refine wp_region_held_drew (S := fun W => W.cell? ⟨g, 0, none⟩ = some (.string t) ∧ W.cell? ⟨g, 1, none⟩ = some (.int .i64 a)) (by kernel_rfl) ⟨c0, c1⟩ (fun hHeld => ?_)
  refine wpAnyH_take (i := 0) (v := ?v0) rfl (by kernel_rfl) (by kernel_rfl) (by kernel_rfl) (fun _ _ _ h => h) (Or.inl ⟨by rfl, ?hy0⟩) (by assumption) ?_
  case hy0 => (intro W hSw; obtain ⟨d0, d1⟩ := hSw; go_simp; try with_reducible rfl)
  refine wpAnyH_take (i := 1) (v := ?v1) rfl (by kernel_rfl) (by kernel_rfl) (by kernel_rfl) (fun _ _ _ h => h) (Or.inl ⟨by rfl, ?hy1⟩) (by assumption) ?_
  case hy1 => (intro W hSw; obtain ⟨d0, d1⟩ := hSw; go_simp; try with_reducible rfl)
  refine wpAnyH_take (i := 2) (v := ?v2) rfl (by kernel_rfl) (by kernel_rfl) (by kernel_rfl) (fun _ _ _ h => h) (Or.inl ⟨by rfl, ?hy2⟩) (by assumption) ?_
  case hy2 => (intro W hSw; obtain ⟨d0, d1⟩ := hSw; go_simp; try with_reducible rfl)
  refine wpAnyH_take (i := 3) (v := ?v3) rfl (by kernel_rfl) (by kernel_rfl) (by kernel_rfl) (fun _ _ _ h => h) (Or.inl ⟨by rfl, ?hy3⟩) (by assumption) ?_
  case hy3 => (intro W hSw; obtain ⟨d0, d1⟩ := hSw; go_simp; try with_reducible rfl)
  refine wpAnyH_take (i := 4) (v := ?v4) rfl (by kernel_rfl) (by kernel_rfl) (by kernel_rfl) (fun _ _ _ h => h) (Or.inl ⟨by rfl, ?hy4⟩) (by assumption) ?_
  case hy4 => (intro W hSw; obtain ⟨d0, d1⟩ := hSw; go_simp; try with_reducible rfl)
  refine wpAnyH_take (i := 5) (v := ?v5) rfl (by kernel_rfl) (by kernel_rfl) (by kernel_rfl) (fun _ _ _ h => h) (Or.inl ⟨by rfl, ?hy5⟩) (by assumption) ?_
  case hy5 => (intro W hSw; obtain ⟨d0, d1⟩ := hSw; go_simp; try with_reducible rfl)
  refine wpAnyH_take (i := 6) (v := ?v6) rfl (by kernel_rfl) (by kernel_rfl) (by kernel_rfl) (fun _ _ _ h => h) (Or.inl ⟨by rfl, ?hy6⟩) (by assumption) ?_
  case hy6 => (intro W hSw; obtain ⟨d0, d1⟩ := hSw; go_simp; try with_reducible rfl)
  refine wpAnyH_take (i := 7) (v := ?v7) rfl (by kernel_rfl) (by kernel_rfl) (by kernel_rfl) (fun _ _ _ h => h) (Or.inl ⟨by rfl, ?hy7⟩) (by assumption) ?_
  case hy7 => (intro W hSw; obtain ⟨d0, d1⟩ := hSw; go_simp; try with_reducible rfl)
  refine wpAnyH_take (i := 8) (v := ?v8) rfl (by kernel_rfl) (by kernel_rfl) (by kernel_rfl) (fun _ _ _ h => h) (Or.inl ⟨by rfl, ?hy8⟩) (by assumption) ?_
  case hy8 => (intro W hSw; obtain ⟨d0, d1⟩ := hSw; go_simp; try with_reducible rfl)
  refine wpAnyH_take (i := 9) (v := ?v9) rfl (by kernel_rfl) (by kernel_rfl) (by kernel_rfl) (fun _ _ _ h => h) (Or.inl ⟨by rfl, ?hy9⟩) (by assumption) ?_
  case hy9 => (intro W hSw; obtain ⟨d0, d1⟩ := hSw; go_simp; try with_reducible rfl)
  refine wpAnyH_take (i := 10) (v := ?v10) rfl (by kernel_rfl) (by kernel_rfl) (by kernel_rfl) (fun _ _ _ h => h) (Or.inl ⟨by rfl, ?hy10⟩) (by assumption) ?_
  case hy10 => (intro W hSw; obtain ⟨d0, d1⟩ := hSw; go_simp; try with_reducible rfl)
  refine wpAnyH_take (i := 11) (v := ?v11) rfl (by kernel_rfl) (by kernel_rfl) (by kernel_rfl) (fun _ _ _ h => h) (Or.inl ⟨by rfl, ?hy11⟩) (by assumption) ?_
  case hy11 => (intro W hSw; obtain ⟨d0, d1⟩ := hSw; go_simp; try with_reducible rfl)
  refine wpAnyH_ready (rs := [12]) (by kernel_rfl) (by simp) ?_
  refine AllReadyH.cons rfl (fun K hK => ?_) AllReadyH.nil
  go_simp
  refine (need_no _ _).mono ?_
  rintro e w5 ⟨rfl, rfl⟩
  exact ⟨rfl, rfl, 1, rfl⟩

set_option maxHeartbeats 1600000 in
set_option maxRecDepth 100000 in
theorem peek_no (g a : Nat) (t : ByteArray) (w : World) (c0 : w.cell? ⟨g, 0, none⟩ = some (.string t)) (c1 : w.cell? ⟨g, 1, none⟩ = some (.int .i64 a)) (ha : ¬ a < t.size) :
    Calls Tryd.prog 70 #[.pointer (some ⟨g, 0, none⟩)] w fun e w' => e = outE 1 ∧ ∃ m, w' = w.drewN m := by
  have h2 : decide ((a : Int) < (t.size : Int)) = false := by simp; omega
  go_enter Tryd.func70, Tryd.ntmps70
  go_wp2_with fail
  refine wp_region_held_drew (S := fun W => W.cell? ⟨g, 0, none⟩ = some (.string t) ∧ W.cell? ⟨g, 1, none⟩ = some (.int .i64 a)) (by kernel_rfl) ⟨c0, c1⟩ (fun hHeld => ?_)
  refine wpAnyH_take (i := 0) (v := ?v0) rfl (by kernel_rfl) (by kernel_rfl) (by kernel_rfl) (fun _ _ _ h => h) (Or.inl ⟨by rfl, ?hy0⟩) (by assumption) ?_
  case hy0 => (intro W hSw; obtain ⟨d0, d1⟩ := hSw; go_simp; try with_reducible rfl)
  refine wpAnyH_take (i := 1) (v := ?v1) rfl (by kernel_rfl) (by kernel_rfl) (by kernel_rfl) (fun _ _ _ h => h) (Or.inl ⟨by rfl, ?hy1⟩) (by assumption) ?_
  case hy1 => (intro W hSw; obtain ⟨d0, d1⟩ := hSw; go_simp; try with_reducible rfl)
  refine wpAnyH_take (i := 2) (v := ?v2) rfl (by kernel_rfl) (by kernel_rfl) (by kernel_rfl) (fun _ _ _ h => h) (Or.inl ⟨by rfl, ?hy2⟩) (by assumption) ?_
  case hy2 => (intro W hSw; obtain ⟨d0, d1⟩ := hSw; go_simp; try with_reducible rfl)
  refine wpAnyH_take (i := 3) (v := ?v3) rfl (by kernel_rfl) (by kernel_rfl) (by kernel_rfl) (fun _ _ _ h => h) (Or.inl ⟨by rfl, ?hy3⟩) (by assumption) ?_
  case hy3 => (intro W hSw; obtain ⟨d0, d1⟩ := hSw; go_simp; try with_reducible rfl)
  refine wpAnyH_take (i := 4) (v := ?v4) rfl (by kernel_rfl) (by kernel_rfl) (by kernel_rfl) (fun _ _ _ h => h) (Or.inl ⟨by rfl, ?hy4⟩) (by assumption) ?_
  case hy4 => (intro W hSw; obtain ⟨d0, d1⟩ := hSw; go_simp; try with_reducible rfl)
  refine wpAnyH_take (i := 5) (v := ?v5) rfl (by kernel_rfl) (by kernel_rfl) (by kernel_rfl) (fun _ _ _ h => h) (Or.inl ⟨by rfl, ?hy5⟩) (by assumption) ?_
  case hy5 => (intro W hSw; obtain ⟨d0, d1⟩ := hSw; go_simp; try with_reducible rfl)
  refine wpAnyH_take (i := 6) (v := ?v6) rfl (by kernel_rfl) (by kernel_rfl) (by kernel_rfl) (fun _ _ _ h => h) (Or.inl ⟨by rfl, ?hy6⟩) (by assumption) ?_
  case hy6 => (intro W hSw; obtain ⟨d0, d1⟩ := hSw; go_simp; try with_reducible rfl)
  refine wpAnyH_take (i := 7) (v := ?v7) rfl (by kernel_rfl) (by kernel_rfl) (by kernel_rfl) (fun _ _ _ h => h) (Or.inl ⟨by rfl, ?hy7⟩) (by assumption) ?_
  case hy7 => (intro W hSw; obtain ⟨d0, d1⟩ := hSw; go_simp; try with_reducible rfl)
  refine wpAnyH_take (i := 8) (v := ?v8) rfl (by kernel_rfl) (by kernel_rfl) (by kernel_rfl) (fun _ _ _ h => h) (Or.inl ⟨by rfl, ?hy8⟩) (by assumption) ?_
  case hy8 => (intro W hSw; obtain ⟨d0, d1⟩ := hSw; go_simp; try with_reducible rfl)
  refine wpAnyH_take (i := 9) (v := ?v9) rfl (by kernel_rfl) (by kernel_rfl) (by kernel_rfl) (fun _ _ _ h => h) (Or.inl ⟨by rfl, ?hy9⟩) (by assumption) ?_
  case hy9 => (intro W hSw; obtain ⟨d0, d1⟩ := hSw; go_simp; try with_reducible rfl)
  refine wpAnyH_ready (rs := [10]) (by kernel_rfl) (by simp) ?_
  refine AllReadyH.cons rfl (fun K hK => ?_) AllReadyH.nil
  go_simp
  refine (need_no _ _).mono ?_
  rintro e w5 ⟨rfl, rfl⟩
  exact ⟨rfl, rfl, 1, rfl⟩

theorem rd_drewN (g : Nat) (w : World) (m : Nat) : Rd g w (w.drewN m) := Rd.ext ⟨rfl, rfl, rfl, Nat.le_refl _, fun _ _ => rfl, fun _ _ => rfl, fun _ _ => rfl⟩

set_option maxHeartbeats 800000 in
theorem number_no (g a n : Nat) (t : ByteArray) (w : World) (h : IsR g t a w) (hs : t.size ≤ 1000) (ha : a ≤ t.size) (han : ¬ a + n ≤ t.size) :
    Calls Tryd.prog 56 #[.pointer (some ⟨g, 0, none⟩), .int .i64 n] w fun e w' => e = outE 1 ∧ Hid (Rd g w w') := by
  have HT : Hid (Calls Tryd.prog 69 #[.pointer (some ⟨g, 0, none⟩), .int .i64 n] w fun e w' => e = outE 1 ∧ ∃ m, w' = w.drewN m) := take_no g a n t w h.c0 h.c1 hs ha han
  clear h
  go_enter Tryd.func56, Tryd.ntmps56
  go_wp2_with fail
  refine HT.out.mono ?_
  rintro e w1 ⟨rfl, m, rfl⟩
  exact ⟨rfl, rfl, rd_drewN g w m⟩

/-- A number is read, or there is none. -/
theorem number_b (g a n : Nat) (t : ByteArray) (w : World) (h : IsR g t a w) (hs : t.size ≤ 1000) (ha : a ≤ t.size) (hn : n ≤ 4) :
    Calls Tryd.prog 56 #[.pointer (some ⟨g, 0, none⟩), .int .i64 n] w fun e w' => Hid (Rd g w w') ∧ ((a + n ≤ t.size ∧ e = .returned (.int .i64 (rnum t a n)) ∧ Hid (IsR g t (a + n) w')) ∨ (¬ a + n ≤ t.size ∧ e = outE 1)) := by
  by_cases han : a + n ≤ t.size
  · refine (number_r g a n t w h hs han hn).mono ?_
    rintro e w' ⟨rfl, h1, h2⟩
    exact ⟨h2, .inl ⟨han, rfl, h1⟩⟩
  · refine (number_no g a n t w h hs ha han).mono ?_
    rintro e w' ⟨rfl, h2⟩
    exact ⟨h2, .inr ⟨han, rfl⟩⟩

theorem peek_b (g a : Nat) (t : ByteArray) (w : World) (h : IsR g t a w) :
    Calls Tryd.prog 70 #[.pointer (some ⟨g, 0, none⟩)] w fun e w' => Hid (Rd g w w') ∧ ((a < t.size ∧ e = .returned (.int .u8 (rnum t a 1 : Nat)) ∧ Hid (IsR g t a w')) ∨ (¬ a < t.size ∧ e = outE 1)) := by
  by_cases han : a < t.size
  · refine (peek_r g a t w h han).mono ?_
    rintro e w' ⟨rfl, h1, h2⟩
    exact ⟨h2, .inl ⟨han, rfl, h1⟩⟩
  · refine (peek_no g a t w h.c0 h.c1 han).mono ?_
    rintro e w' ⟨rfl, m, rfl⟩
    exact ⟨rd_drewN g w m, .inr ⟨han, rfl⟩⟩

set_option maxHeartbeats 800000 in
theorem expect_b (g a n : Nat) (x : Int) (t : ByteArray) (w : World) (h : IsR g t a w) (hs : t.size ≤ 1000) (ha : a ≤ t.size) (hn : n ≤ 4) :
    Calls Tryd.prog 58 #[.pointer (some ⟨g, 0, none⟩), .int .i64 n, .int .i64 x] w fun e w' => Hid (Rd g w w') ∧ (((a + n ≤ t.size ∧ (rnum t a n : Int) = x) ∧ e = .returned (.tuple #[]) ∧ Hid (IsR g t (a + n) w')) ∨ (¬ (a + n ≤ t.size ∧ (rnum t a n : Int) = x) ∧ e = outE 1)) := by
  have HT : Hid (Calls Tryd.prog 56 #[.pointer (some ⟨g, 0, none⟩), .int .i64 n] w fun e w' => Hid (Rd g w w') ∧ ((a + n ≤ t.size ∧ e = .returned (.int .i64 (rnum t a n)) ∧ Hid (IsR g t (a + n) w')) ∨ (¬ a + n ≤ t.size ∧ e = outE 1))) := number_b g a n t w h hs ha hn
  clear h
  go_enter Tryd.func58, Tryd.ntmps58
  go_wp2_with fail
  refine HT.out.mono ?_
  rintro e w1 ⟨HD, ⟨han, rfl, HI⟩ | ⟨han, rfl⟩⟩
  · by_cases hx : (rnum t a n : Int) = x
    · have hb : ((rnum t a n : Int) == x) = true := by simpa using hx
      have HX : Hid ((rnum t a n : Int) = x) := hx
      clear hx
      go_wp2_with fail
      refine (need_ok _ _).mono ?_
      rintro e w5 ⟨rfl, rfl⟩
      go_wp2_with fail
      simp [bodyPost, results, Tryd.results58]
      exact ⟨HD, .inl ⟨⟨han, HX.out⟩, HI⟩⟩
    · have hb : ((rnum t a n : Int) == x) = false := by simpa using hx
      have HX : Hid (¬ (rnum t a n : Int) = x) := hx
      clear hx
      go_wp2_with fail
      refine (need_no _ _).mono ?_
      rintro e w5 ⟨rfl, rfl⟩
      exact ⟨rfl, HD, .inr ⟨fun h => HX.out h.2, rfl⟩⟩
  · exact ⟨rfl, HD, .inr ⟨fun h => han h.1, rfl⟩⟩

set_option maxHeartbeats 800000 in
theorem counted_no (g a : Nat) (t : ByteArray) (w : World) (h : IsR g t a w) (hs : t.size ≤ 1000) (ha : a ≤ t.size) (han : ¬ a + 1 + rnum t a 1 ≤ t.size) :
    Calls Tryd.prog 73 #[.pointer (some ⟨g, 0, none⟩)] w fun e w' => e = outE 1 ∧ Hid (Rd g w w') := by
  have HT : Hid (Calls Tryd.prog 56 #[.pointer (some ⟨g, 0, none⟩), .int .i64 1] w fun e w' => Hid (Rd g w w') ∧ ((a + 1 ≤ t.size ∧ e = .returned (.int .i64 (rnum t a 1)) ∧ Hid (IsR g t (a + 1) w')) ∨ (¬ a + 1 ≤ t.size ∧ e = outE 1))) := number_b g a 1 t w h hs ha (by omega)
  clear h
  go_enter Tryd.func73, Tryd.ntmps73
  go_wp2_with fail
  refine HT.out.mono ?_
  rintro e w1 ⟨HD, ⟨h1, rfl, HI⟩ | ⟨h1, rfl⟩⟩
  · have HT2 : Hid (Calls Tryd.prog 69 #[.pointer (some ⟨g, 0, none⟩), .int .i64 (rnum t a 1 : Nat)] w1 fun e w' => e = outE 1 ∧ ∃ m, w' = w1.drewN m) := take_no g (a + 1) (rnum t a 1) t w1 HI.out.c0 HI.out.c1 hs h1 han
    go_wp2_with fail
    refine HT2.out.mono ?_
    rintro e w2 ⟨rfl, m, rfl⟩
    exact ⟨rfl, rfl, HD.out.trans (rd_drewN g w1 m)⟩
  · exact ⟨rfl, rfl, HD⟩

/-- A text with its length ahead is read, or there is none. -/
theorem counted_b (g a : Nat) (t : ByteArray) (w : World) (h : IsR g t a w) (hs : t.size ≤ 1000) (ha : a ≤ t.size) :
    Calls Tryd.prog 73 #[.pointer (some ⟨g, 0, none⟩)] w fun e w' => Hid (Rd g w w') ∧ ((a + 1 + rnum t a 1 ≤ t.size ∧ e = .returned (.string (t.extract (a + 1) (a + 1 + rnum t a 1))) ∧ Hid (IsR g t (a + 1 + rnum t a 1) w')) ∨ (¬ a + 1 + rnum t a 1 ≤ t.size ∧ e = outE 1)) := by
  by_cases han : a + 1 + rnum t a 1 ≤ t.size
  · refine (counted_r g a _ t _ w h hs rfl han rfl).mono ?_
    rintro e w' ⟨rfl, h1, h2⟩
    exact ⟨h2, .inl ⟨han, rfl, h1⟩⟩
  · refine (counted_no g a t w h hs ha han).mono ?_
    rintro e w' ⟨rfl, h2⟩
    exact ⟨h2, .inr ⟨han, rfl⟩⟩

end Go.Proofs.YtogmkdhljifbpaaDoor

/- dns.small, of whatever text. -/
namespace Go.Proofs.YtogmkdhljifbpaaDoor
open Go.RowKit

/-- A capital's small letter; any other byte is as it was. -/
def lwb (c : UInt8) : UInt8 := if 65 ≤ c.toNat ∧ c.toNat ≤ 90 then (c.toNat + 32).toUInt8 else c
def lwS (s : ByteArray) : ByteArray := mk (s.data.toList.map lwb)
theorem lwS_size (s : ByteArray) : (lwS s).size = s.size := by unfold lwS; rw [mk_size]; simp
/-- The row while it is made small: k bytes are. -/
def lwAt (s : ByteArray) (k j : Nat) : Nat := if j < k then (lwb (s.data.toList.getD j 0)).toNat else (s.data.toList.getD j 0).toNat
theorem lwAt_end (s : ByteArray) (j : Nat) (hj : j < s.size) : lwAt s s.size j = ((lwS s).data.toList.getD j 0).toNat := by
  have hj2 : j < s.data.toList.length := by simpa using hj
  unfold lwAt lwS
  rw [if_pos hj, data_mk]
  simp only [List.getD_eq_getElem?_getD, List.getElem?_map, List.getElem?_eq_getElem hj2]
  rfl
theorem lwAt_keep (s : ByteArray) (k j : Nat) (hl : ¬ (65 ≤ (s.data.toList.getD k 0).toNat ∧ (s.data.toList.getD k 0).toNat ≤ 90)) : lwAt s (k + 1) j = lwAt s k j := by
  unfold lwAt
  by_cases h1 : j < k
  · rw [if_pos h1, if_pos (by omega)]
  · by_cases h2 : j = k
    · subst h2
      rw [if_pos (by omega), if_neg (by omega)]
      unfold lwb
      rw [if_neg hl]
    · rw [if_neg h1, if_neg (by omega)]
theorem lwAt_turn (s : ByteArray) (k : Nat) (hl : 65 ≤ (s.data.toList.getD k 0).toNat ∧ (s.data.toList.getD k 0).toNat ≤ 90) : lwAt s (k + 1) k = (s.data.toList.getD k 0).toNat + 32 := by
  unfold lwAt lwb
  rw [if_pos (by omega), if_pos hl]
  show ((s.data.toList.getD k 0).toNat + 32) % 256 = _
  omega
theorem lwAt_else (s : ByteArray) (k j : Nat) (h : j ≠ k) : lwAt s (k + 1) j = lwAt s k j := by
  unfold lwAt
  by_cases h1 : j < k
  · rw [if_pos h1, if_pos (by omega)]
  · rw [if_neg h1, if_neg (by omega)]

set_option maxHeartbeats 1600000 in
set_option maxRecDepth 100000 in
theorem small_any (s : ByteArray) (w : World) (hs : s.size ≤ 1000) :
    Calls Tryd.prog 72 #[.string s] w fun e w' => e = .returned (.string (lwS s)) ∧ Below w.heap.size w w' := by
  have hcv := fun w s => Lib.run_convert_string_bytes (P := Tryd.prog) w 9 77 5 s (u := .string) Tryd.underlying9 Tryd.underlying77 Tryd.underlying5
  have HB0 : Hid (∀ j, j < s.size → (Lib.bytesWorld w 5 s).cell? ⟨w.heap.size, j, none⟩ = some (.int .u8 (lwAt s 0 j : Nat))) := fun j hj => Lib.bytesWorld_cell w 5 s j hj
  have HF0 : Hid (∀ j, j < s.size → (Lib.bytesWorld w 5 s).frozen? ⟨w.heap.size, j, none⟩ = false) := fun j hj => by
    have h := Lib.bytesWorld_at_new w 5 s
    have h2 : s.size ≤ (Lib.bytesCells w 5 s).size := by simp [Lib.bytesCells]
    simp only [World.frozen?, h]
    simp
    omega
  have hX : Below w.heap.size w (Lib.bytesWorld w 5 s) := by
    rw [← run_bytesW w s]
    exact ((Below.refl _ _).drew).alloc (Nat.le_refl _) _
  have HX0 : Hid (Below w.heap.size w (Lib.bytesWorld w 5 s)) := hX
  clear hX
  obtain ⟨W1, hW1⟩ : ∃ W1, W1 = Lib.bytesWorld w 5 s := ⟨_, rfl⟩
  go_enter Tryd.func72, Tryd.ntmps72
  go_wp2_with fail
  rw [← hW1] at HB0 HX0 HF0 ⊢
  clear hcv hW1
  have hsz2 : (lwS s).data.toList.length = s.size := by have := lwS_size s; simpa using this
  have HBK : Hid (∀ cap W, (∀ j, j < s.size → W.cell? ⟨w.heap.size, j, none⟩ = some (.int .u8 (lwAt s s.size j : Nat))) → (convert 77 9 (.slice (some ⟨w.heap.size, 0, none⟩) s.size cap)).run Tryd.prog W = .ok (.string (lwS s)) W) := fun cap W hW => by
    have h := run_convert_bytes_back (P := Tryd.prog) W 77 9 5 ⟨w.heap.size, 0, none⟩ cap (lwS s).data.toList Tryd.underlying77 Tryd.underlying5 Tryd.underlying9 (fun j hj => by
      have h2 := hW j (by omega)
      rw [lwAt_end s j (by omega), List.getD_eq_getElem?_getD, List.getElem?_eq_getElem hj] at h2
      have ha : (⟨w.heap.size, 0, none⟩ : Addr).add j = ⟨w.heap.size, j, none⟩ := by
        by_cases hj0 : j = 0 <;> simp [Addr.add, hj0]
      rw [ha]
      simpa using h2)
    rw [hsz2] at h
    exact h
  clear hsz2
  go_loopw [10] (fun vi wr => ∃ (k : Nat), vi = .int .i64 k ∧ k ≤ s.size ∧ Hid (∀ j, j < s.size → wr.cell? ⟨w.heap.size, j, none⟩ = some (.int .u8 (lwAt s k j : Nat))) ∧ Hid (∀ j, j < s.size → wr.frozen? ⟨w.heap.size, j, none⟩ = false) ∧ Hid (Below w.heap.size w wr))
    (fun vi _ => s.size - (intOf vi).toNat)
  case atStart => exact ⟨0, rfl, by omega, HB0, HF0, HX0⟩
  case round =>
    obtain ⟨k, rfl, hk, HB, HF, HX⟩ := hrel
    by_cases hkn : k < s.size
    · have hc : decide ((k : Int) < (s.size : Int)) = true := by simp; omega
      have hcell := HB.out k hkn
      have hfz := HF.out k hkn
      have hi0 : (0 : Int) ≤ (k : Int) := by omega
      have hi1 : (k : Int) < (s.size : Int) := by omega
      have hi2 : ((k : Int)).toNat = k := by omega
      have HV : Hid (lwAt s k k = (s.data.toList.getD k 0).toNat) := (show _ = _ by unfold lwAt; rw [if_neg (by omega)])
      rw [HV.out] at hcell
      have hb256 := (s.data.toList.getD k 0).toNat_lt
      by_cases hl : 65 ≤ (s.data.toList.getD k 0).toNat ∧ (s.data.toList.getD k 0).toNat ≤ 90
      · have HT : Hid (lwAt s (k + 1) k = (s.data.toList.getD k 0).toNat + 32) := lwAt_turn s k hl
        generalize hb : (s.data.toList.getD k 0).toNat = b at *
        clear hb
        have hd1 : decide ((65 : Int) ≤ (b : Int)) = true := by simp; omega
        have hd2 : decide ((b : Int) ≤ 90) = true := by simp; omega
        have hw1 : IntKind.u8.wrap ((b : Int) - 65) = (b : Int) - 65 := by rw [IntKind.wrap_u8]; omega
        have hw2 : IntKind.u8.wrap ((b : Int) - 65 + 97) = ((b + 32 : Nat) : Int) := by rw [IntKind.wrap_u8]; omega
        go_wp2_with fail
        refine ⟨⟨k + 1, by simp, by omega, ?_, ?_, ?_⟩, by simp [intOf]; omega⟩
        · show ∀ _, _
          intro j hj
          by_cases hjk : j = k
          · subst hjk
            rw [World.cell?_setCell_same _ _ _ hcell, HT.out]
            simp
          · refine (World.cell?_setCell_other _ _ _ _ (fun e => by injection e with e1 e2; exact hjk e2.symm)).trans ?_
            rw [lwAt_else s k j hjk]
            exact HB.out j hj
        · show ∀ _, _
          intro j hj
          simpa using HF.out j hj
        · exact HX.out.setCell (p := ⟨w.heap.size, k, none⟩) (Nat.le_refl _) _
      · have HT : Hid (∀ j, lwAt s (k + 1) j = lwAt s k j) := fun j => lwAt_keep s k j hl
        generalize hb : (s.data.toList.getD k 0).toNat = b at *
        clear hb
        have HB1 : Hid (∀ j, j < s.size → wr.cell? ⟨w.heap.size, j, none⟩ = some (.int .u8 (lwAt s (k + 1) j : Nat))) := fun j hj => by rw [HT.out j]; exact HB.out j hj
        by_cases h65 : 65 ≤ b
        · have hd1 : decide ((65 : Int) ≤ (b : Int)) = true := by simp; omega
          have hd2 : decide ((b : Int) ≤ 90) = false := by simp; omega
          go_wp2_with fail
          refine ⟨⟨k + 1, by simp, by omega, HB1, HF, HX⟩, by simp [intOf]; omega⟩
        · have hd1 : decide ((65 : Int) ≤ (b : Int)) = false := by simp; omega
          go_wp2_with fail
          refine ⟨⟨k + 1, by simp, by omega, HB1, HF, HX⟩, by simp [intOf]; omega⟩
    · have hc : decide ((k : Int) < (s.size : Int)) = false := by simp; omega
      have hkn2 : k = s.size := by omega
      subst hkn2
      have hbk := fun cap => HBK.out cap wr HB.out
      go_wp2_with fail
      simp [bodyPost, results, Tryd.results72]
      exact HX.out

end Go.Proofs.YtogmkdhljifbpaaDoor

/- Contracts of the library, laid at this program. -/
namespace Go.Proofs
open Go.Shelf
def Tryd.lays156_ren : Go.Shelf.Ren := ⟨fun | 156 => 71 | 165 => 85 | 166 => 84 | 169 => 54 | 240 => 89 | 241 => 91 | 276 => 93 | 277 => 95 | n => n, fun | 31 => 46 | 9 => 9 | 3 => 3 | 4 => 4 | 0 => 0 | 20 => 20 | 72 => 79 | 76 => 101 | 70 => 76 | 37 => 77 | 75 => 97 | 127 => 89 | 164 => 108 | 5 => 5 | 80 => 64 | n => n, fun | n => n⟩
theorem Tryd.lays156 : Go.Proofs.Lays.n156 Tryd.prog Tryd.lays156_ren := {
  mixed := by kernel_rfl
  f156 := Tryd.func71.trans (congrArg some (by kernel_rfl))
  f165 := Tryd.func85.trans (congrArg some (by kernel_rfl))
  f166 := Tryd.func84.trans (congrArg some (by kernel_rfl))
  f169 := Tryd.func54.trans (congrArg some (by kernel_rfl))
  f240 := Tryd.func89.trans (congrArg some (by kernel_rfl))
  f241 := Tryd.func91.trans (congrArg some (by kernel_rfl))
  f276 := Tryd.func93.trans (congrArg some (by kernel_rfl))
  f277 := Tryd.func95.trans (congrArg some (by kernel_rfl))
  t0 := Tryd.underlying0
  a0 := Tryd.isAgg0
  z0 := Tryd.sizeOf0
  v0 := Tryd.zeroValue0
  t3 := Tryd.underlying3
  a3 := Tryd.isAgg3
  z3 := Tryd.sizeOf3
  v3 := Tryd.zeroValue3
  t4 := Tryd.underlying4
  a4 := Tryd.isAgg4
  z4 := Tryd.sizeOf4
  v4 := Tryd.zeroValue4
  t9 := Tryd.underlying9
  a9 := Tryd.isAgg9
  z9 := Tryd.sizeOf9
  v9 := Tryd.zeroValue9
  t20 := Tryd.underlying20
  a20 := Tryd.isAgg20
  z20 := Tryd.sizeOf20
  v20 := Tryd.zeroValue20
  t31 := Tryd.underlying46
  a31 := Tryd.isAgg46
  z31 := Tryd.sizeOf46
  v31 := Tryd.zeroValue46
  t37 := Tryd.underlying77
  a37 := Tryd.isAgg77
  z37 := Tryd.sizeOf77
  v37 := Tryd.zeroValue77
  t70 := Tryd.underlying76
  a70 := Tryd.isAgg76
  z70 := Tryd.sizeOf76
  v70 := Tryd.zeroValue76
  t72 := Tryd.underlying79
  a72 := Tryd.isAgg79
  z72 := Tryd.sizeOf79
  v72 := Tryd.zeroValue79
  t75 := Tryd.underlying97
  a75 := Tryd.isAgg97
  z75 := Tryd.sizeOf97
  v75 := Tryd.zeroValue97
  t76 := Tryd.underlying101
  a76 := Tryd.isAgg101
  z76 := Tryd.sizeOf101
  v76 := Tryd.zeroValue101
  t127 := Tryd.underlying89
  a127 := Tryd.isAgg89
  z127 := Tryd.sizeOf89
  v127 := Tryd.zeroValue89
  t164 := Tryd.underlying108
  a164 := Tryd.isAgg108
  z164 := Tryd.sizeOf108
  v164 := Tryd.zeroValue108 }
theorem Tryd.Builder_Extra_156 : Builder.Extra Tryd.prog Tryd.lays156_ren := {
  sizeBuilder := by kernel_rfl
  liesBuilder := by kernel_rfl
  t5 := Tryd.underlying5
  a5 := Tryd.isAgg5
  z5 := Tryd.sizeOf5
  v5 := Tryd.zeroValue5
  infoByte := by kernel_rfl
  cellsByte := by kernel_rfl
  sizeByte := by kernel_rfl
  neB5 := by decide }
open Go.RowKit in
theorem Tryd.strings_Join (bk o c : Nat) (xs : List ByteArray) (sep : ByteArray) (w : World) (hcells : ∀ (j : Nat) x, xs[j]? = some x → w.cell? ⟨bk, o + j, none⟩ = some (.string x)) (hbk : bk < w.heap.size) (hN : xs.length ≤ 140737488355328) (hcap : xs.length ≤ c) (hlen : (Lib.join (xs.map (·.data.toList)) sep.data.toList).length ≤ 140737488355328) :
    Calls Tryd.prog 71 #[.slice (some ⟨bk, o, none⟩) xs.length c, .string sep] w fun e w' => e = .returned (.string ⟨(Lib.join (xs.map (·.data.toList)) sep.data.toList).toArray⟩) ∧ Below w.heap.size w w' := Any.strings_Join Tryd.lays156 Tryd.Builder_Extra_156 bk o c xs sep w hcells hbk hN hcap hlen
def Tryd.lays146_ren : Go.Shelf.Ren := ⟨fun | 146 => 80 | 221 => 90 | 268 => 94 | 138 => 25 | 143 => 47 | 195 => 45 | 197 => 96 | 218 => 46 | 219 => 63 | 260 => 97 | 217 => 75 | 225 => 76 | 224 => 77 | 267 => 78 | 266 => 87 | 314 => 88 | n => n, fun | 9 => 9 | 31 => 46 | 3 => 3 | 4 => 4 | 0 => 0 | 105 => 112 | 21 => 21 | 5 => 5 | 46 => 91 | 119 => 114 | 139 => 117 | 138 => 116 | 146 => 105 | 51 => 104 | n => n, fun | 1 => 0 | 3 => 1 | 4 => 2 | n => n⟩
theorem Tryd.lays146 : Go.Proofs.Lays.n146 Tryd.prog Tryd.lays146_ren := {
  mixed := by kernel_rfl
  f138 := Tryd.func25.trans (congrArg some (by kernel_rfl))
  f143 := Tryd.func47.trans (congrArg some (by kernel_rfl))
  f146 := Tryd.func80.trans (congrArg some (by kernel_rfl))
  f195 := Tryd.func45.trans (congrArg some (by kernel_rfl))
  f197 := Tryd.func96.trans (congrArg some (by kernel_rfl))
  f217 := Tryd.func75.trans (congrArg some (by kernel_rfl))
  f218 := Tryd.func46.trans (congrArg some (by kernel_rfl))
  f219 := Tryd.func63.trans (congrArg some (by kernel_rfl))
  f221 := Tryd.func90.trans (congrArg some (by kernel_rfl))
  f224 := Tryd.func77.trans (congrArg some (by kernel_rfl))
  f225 := Tryd.func76.trans (congrArg some (by kernel_rfl))
  f260 := Tryd.func97.trans (congrArg some (by kernel_rfl))
  f266 := Tryd.func87.trans (congrArg some (by kernel_rfl))
  f267 := Tryd.func78.trans (congrArg some (by kernel_rfl))
  f268 := Tryd.func94.trans (congrArg some (by kernel_rfl))
  f314 := Tryd.func88.trans (congrArg some (by kernel_rfl))
  t0 := Tryd.underlying0
  a0 := Tryd.isAgg0
  z0 := Tryd.sizeOf0
  v0 := Tryd.zeroValue0
  t3 := Tryd.underlying3
  a3 := Tryd.isAgg3
  z3 := Tryd.sizeOf3
  v3 := Tryd.zeroValue3
  t4 := Tryd.underlying4
  a4 := Tryd.isAgg4
  z4 := Tryd.sizeOf4
  v4 := Tryd.zeroValue4
  t5 := Tryd.underlying5
  a5 := Tryd.isAgg5
  z5 := Tryd.sizeOf5
  v5 := Tryd.zeroValue5
  t9 := Tryd.underlying9
  a9 := Tryd.isAgg9
  z9 := Tryd.sizeOf9
  v9 := Tryd.zeroValue9
  t21 := Tryd.underlying21
  a21 := Tryd.isAgg21
  z21 := Tryd.sizeOf21
  v21 := Tryd.zeroValue21
  t31 := Tryd.underlying46
  a31 := Tryd.isAgg46
  z31 := Tryd.sizeOf46
  v31 := Tryd.zeroValue46
  t46 := Tryd.underlying91
  a46 := Tryd.isAgg91
  z46 := Tryd.sizeOf91
  v46 := Tryd.zeroValue91
  t51 := Tryd.underlying104
  a51 := Tryd.isAgg104
  z51 := Tryd.sizeOf104
  v51 := Tryd.zeroValue104
  t105 := Tryd.underlying112
  a105 := Tryd.isAgg112
  z105 := Tryd.sizeOf112
  v105 := Tryd.zeroValue112
  t119 := Tryd.underlying114
  a119 := Tryd.isAgg114
  z119 := Tryd.sizeOf114
  t138 := Tryd.underlying116
  a138 := Tryd.isAgg116
  z138 := Tryd.sizeOf116
  v138 := Tryd.zeroValue116
  t139 := Tryd.underlying117
  a139 := Tryd.isAgg117
  z139 := Tryd.sizeOf117
  v139 := Tryd.zeroValue117
  t146 := Tryd.underlying105
  a146 := Tryd.isAgg105
  z146 := Tryd.sizeOf105
  v146 := Tryd.zeroValue105
  g1 := by kernel_rfl
  g3 := by kernel_rfl
  g4 := by kernel_rfl }
open Go.RowKit Go.Lib in
theorem Tryd.strings_Split (s sep : ByteArray) (m : Int) (w : World) (hs : s.size < 4294967281) (hm : w.cell? ⟨0, 0, none⟩ = some (.int .i64 m)) (h1 : 1 ≤ sep.size) :
    Calls Tryd.prog 80 #[.string s, .string sep] w fun e w' =>
      e = .returned (.slice (some ⟨w.heap.size, 0, none⟩) (Lib.countB s sep + 1) (Lib.countB s sep + 1)) ∧ w' = w.alloc (.cells ((Lib.splitB sep 0 (Lib.countB s sep) s).map Value.string).toArray 9) := Any.strings_Split Tryd.lays146 (by kernel_rfl) s sep m w hs hm h1
end Go.Proofs

/- strings.Split at dots. -/
namespace Go.Proofs.YtogmkdhljifbpaaDoor
open Go.RowKit Go.Shelf Go.Lib

theorem splitK_spl : ∀ (k : Nat) (l : List UInt8), l.count 46 ≤ k → Lib.splitK [46] 0 k l = spl l
  | 0, l, h => by
    have : 46 ∉ l := fun hm => by have := List.count_pos_iff.2 hm; omega
    rw [spl_none l this]; rfl
  | k + 1, l, h => by
    have hge := Lib.indexByte_ge l 46
    unfold Lib.splitK
    rw [Lib.index_one]
    by_cases hi : Lib.indexByte l 46 = -1
    · rw [if_pos (by rw [hi]; rfl), spl_none l (ix_none hi)]
    · obtain ⟨i, hi2⟩ : ∃ i : Nat, Lib.indexByte l 46 = (i : Int) := ⟨(Lib.indexByte l 46).toNat, by omega⟩
      obtain ⟨h1, h2, h3⟩ := ix_some hi2
      rw [if_neg (by rw [hi2]; simp), hi2]
      have e : ((i : Int)).toNat = i := by omega
      rw [e]
      have hc : (l.drop (i + 1)).count 46 ≤ k := by
        have h4 := congrArg (List.count 46) h2
        rw [List.count_append, List.count_cons_self] at h4
        omega
      show l.take (i + 0) :: Lib.splitK [46] 0 k (l.drop (i + 1)) = spl l
      rw [splitK_spl k _ hc, Nat.add_zero]
      conv => rhs; rw [h2]
      rw [spl_app _ _ h3]
theorem splitB_spl (s : ByteArray) : Lib.splitB ⟨#[46]⟩ 0 (Lib.countB s ⟨#[46]⟩) s = (spl s.data.toList).map mk := by
  have h := Lib.splitB_data ⟨#[46]⟩ 0 (Lib.countB s ⟨#[46]⟩) s
  have hc : Lib.countB s ⟨#[46]⟩ = s.data.toList.count 46 := Lib.count_one 46 s.data.toList
  rw [show (ByteArray.mk #[46]).data.toList = [46] from rfl, splitK_spl _ _ (by rw [hc]; exact Nat.le_refl _)] at h
  rw [← h, List.map_map]
  have e : (mk ∘ fun x : ByteArray => x.data.toList) = id := by funext x; exact mk_data x
  rw [e, List.map_id]

/-- The cell of a variable of the library's, of which nothing but its kind is known. -/
def ML (w : World) : Prop := 0 < w.heap.size ∧ ∃ m, w.cell? ⟨0, 0, none⟩ = some (.int .i64 m)
theorem ML.below {w w' : World} (h : ML w) (hb : RowKit.Below w.heap.size w w') : ML w' := by
  obtain ⟨h1, m, h2⟩ := h
  exact ⟨Nat.lt_of_lt_of_le h1 hb.size, m, (hb.cell (p := ⟨0, 0, none⟩) h1).trans h2⟩
theorem split_any (s : ByteArray) (w : World) (hm : ML w) (hs : s.size ≤ 1000) :
    Calls Tryd.prog 80 #[.string s, .string ⟨#[46]⟩] w fun e w' => e = .returned (.slice (some ⟨w.heap.size, 0, none⟩) (spl s.data.toList).length (spl s.data.toList).length) ∧ w' = w.alloc (.cells (((spl s.data.toList).map mk).map Value.string).toArray 9) := by
  obtain ⟨_, m, h2⟩ := hm
  have h := Tryd.strings_Split s ⟨#[46]⟩ m w (by omega) h2 (by decide)
  rw [splitB_spl] at h
  have hc : Lib.countB s ⟨#[46]⟩ + 1 = (spl s.data.toList).length := by
    rw [spl_len]
    show Lib.count s.data.toList [46] + 1 = _
    rw [Lib.count_one]
  rw [hc] at h
  exact h

end Go.Proofs.YtogmkdhljifbpaaDoor

