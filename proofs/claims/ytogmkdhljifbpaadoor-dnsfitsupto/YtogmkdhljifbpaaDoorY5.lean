/- DK1, FM, DKE, FN -/
import Derived.Test.YtogmkdhljifbpaaDoorY1
import Derived.Test.YtogmkdhljifbpaaDoorY4
import Derived.Laws.StructEq
import Derived.Deep.Slices
import Derived.Deep.RegionHeld3
import Derived.Deep.RegionWith
import Derived.StillTactics
/- Lists of records in memory. -/
namespace Go.Proofs.YtogmkdhljifbpaaDoor
namespace Rc
open Go.RowKit

structure Rec where
  name : ByteArray
  typ : Int
  lasts : Int
  addr : Int
  text : ByteArray
  port : Int
  target : ByteArray

def dm : Rec := ⟨ByteArray.empty, 0, 0, 0, ByteArray.empty, 0, ByteArray.empty⟩
/-- Its texts are no longer than texts may be. -/
def Rec.ok (m : Rec) : Prop := m.name.size ≤ maxLen ∧ m.text.size ≤ maxLen ∧ m.target.size ≤ maxLen
theorem dm_ok : dm.ok := by simp [Rec.ok, dm]

def Row (w : World) (b off : Nat) (ms : List Rec) : Prop := ∀ j, j < ms.length →
  w.cell? ⟨b, off + j * 7, none⟩ = some (.string (ms.getD j dm).name) ∧ w.cell? ⟨b, off + j * 7 + 1, none⟩ = some (.int .i64 (ms.getD j dm).typ) ∧ w.cell? ⟨b, off + j * 7 + 2, none⟩ = some (.int .i64 (ms.getD j dm).lasts) ∧ w.cell? ⟨b, off + j * 7 + 3, none⟩ = some (.int .i64 (ms.getD j dm).addr) ∧ w.cell? ⟨b, off + j * 7 + 4, none⟩ = some (.string (ms.getD j dm).text) ∧ w.cell? ⟨b, off + j * 7 + 5, none⟩ = some (.int .i64 (ms.getD j dm).port) ∧ w.cell? ⟨b, off + j * 7 + 6, none⟩ = some (.string (ms.getD j dm).target)

/-- A slice's value, and what it holds in a world. -/
def Sl (w : World) (v : Value) (ms : List Rec) : Prop :=
  ∃ (a : Option Addr) (cap : Nat), v = .slice a ms.length cap ∧ (∀ j, (ms.getD j dm).ok) ∧
    (ms = [] ∨ ∃ b off, a = some ⟨b, off, none⟩ ∧ b < w.heap.size ∧ Row w b off ms)

def Rec.cs (m : Rec) : List Value := [.string m.name, .int .i64 m.typ, .int .i64 m.lasts, .int .i64 m.addr, .string m.text, .int .i64 m.port, .string m.target]
def fl (ms : List Rec) : List Value := ms.flatMap Rec.cs

theorem cs_len (m : Rec) : m.cs.length = 7 := rfl
theorem fl_cons (m : Rec) (r : List Rec) : fl (m :: r) = m.cs ++ fl r := by simp [fl]
theorem fl_append (a b : List Rec) : fl (a ++ b) = fl a ++ fl b := by simp [fl]
theorem fl_len : ∀ ms : List Rec, (fl ms).length = ms.length * 7
  | [] => rfl
  | m :: r => by rw [fl_cons, List.length_append, fl_len r, cs_len, List.length_cons]; omega
theorem fl_take : ∀ (ms : List Rec) (i : Nat), (fl ms).take (i * 7) = fl (ms.take i)
  | [], i => by simp [fl]
  | m :: r, 0 => by simp [fl]
  | m :: r, i + 1 => by
    rw [fl_cons, List.take_succ_cons, fl_cons, show (i + 1) * 7 = m.cs.length + i * 7 by rw [cs_len]; omega, List.take_length_add_append, fl_take r i]
theorem fl_drop : ∀ (ms : List Rec) (i : Nat), (fl ms).drop (i * 7) = fl (ms.drop i)
  | [], i => by simp [fl]
  | m :: r, 0 => by simp
  | m :: r, i + 1 => by
    rw [fl_cons, List.drop_succ_cons, show (i + 1) * 7 = m.cs.length + i * 7 by rw [cs_len]; omega, List.drop_length_add_append, fl_drop r i]
theorem cs_one (m : Rec) : ∀ v ∈ m.cs, v.oneCell' = true := by
  intro v hv; simp [Rec.cs] at hv; rcases hv with rfl | rfl | rfl | rfl | rfl | rfl | rfl <;> rfl
theorem fl_one (ms : List Rec) : ∀ v ∈ fl ms, v.oneCell' = true := by
  intro v hv
  obtain ⟨m, _, h⟩ := List.mem_flatMap.1 hv
  exact cs_one m v h
theorem fl_get (ms : List Rec) (j : Nat) (hj : j < ms.length) (t : Nat) (ht : t < 7) : (fl ms)[j * 7 + t]? = (ms.getD j dm).cs[t]? := by
  induction ms generalizing j with
  | nil => simp at hj
  | cons m r ih =>
    rw [fl_cons]
    cases j with
    | zero => rw [List.getElem?_append_left (by rw [cs_len]; omega)]; simp
    | succ j =>
      rw [List.getElem?_append_right (by rw [cs_len]; omega), cs_len, show (j + 1) * 7 + t - 7 = j * 7 + t by omega, ih j (by simpa using hj)]
      simp
theorem fl_set (ms : List Rec) (p : Nat) (hp : p < ms.length) (m : Rec) : ((((((((fl ms).set (p * 7) (.string m.name)).set (p * 7 + 1) (.int .i64 m.typ)).set (p * 7 + 2) (.int .i64 m.lasts)).set (p * 7 + 3) (.int .i64 m.addr)).set (p * 7 + 4) (.string m.text)).set (p * 7 + 5) (.int .i64 m.port)).set (p * 7 + 6) (.string m.target)) = fl (ms.set p m) := by
  induction ms generalizing p with
  | nil => simp at hp
  | cons x r ih =>
    cases p with
    | zero => simp [fl, Rec.cs]
    | succ p =>
      have ih' := ih p (by simpa using hp)
      rw [List.set_cons_succ, fl_cons, fl_cons, ← ih']
      simp only [Nat.add_mul, Nat.one_mul]
      have e : ∀ (l : List Value) (k : Nat) (v : Value), (x.cs ++ l).set (k + 7) v = x.cs ++ l.set k v := fun l k v => by
        rw [List.set_append, if_neg (by rw [cs_len]; omega), cs_len, Nat.add_sub_cancel]
      have c : ∀ i : Nat, p * 7 + 7 + i = (p * 7 + i) + 7 := fun i => by omega
      simp only [c]
      rw [e, e, e, e, e, e, e]

abbrev Own (base : Nat) (w : World) (v : Value) (ms : List Rec) : Prop := w.ownsRow base 54 7 v ms.length (fl ms)

theorem own_of {base g G : Nat} {w : World} {cur : Array Value} {ms : List Rec} (hb : base ≤ g) (hg : w.heap[g]? = some (.cells cur 54 (0, 0))) (hs : cur.size = G * 7) (hn : ms.length ≤ G) (hG : G ≤ maxLen) (ht : cur.toList.take (ms.length * 7) = fl ms) :
    Own base w (.slice (some ⟨g, 0, none⟩) ms.length G) ms := ⟨fl_len ms, .inr ⟨g, G, cur, rfl, hb, hg, hn, hG, hs, ht⟩⟩

/-- What a call owns is a slice as any. -/
theorem Own.sl {base : Nat} {w : World} {v : Value} {ms : List Rec} (h : Own base w v ms) (hs : ∀ j, (ms.getD j dm).ok) : Sl w v ms := by
  rcases h.2 with ⟨rfl, h0⟩ | ⟨g, c, cur, rfl, hbg, hg, hnc, hcm, hcs, htake⟩
  · exact ⟨none, 0, by rw [h0], hs, .inl (List.eq_nil_of_length_eq_zero h0)⟩
  · refine ⟨_, c, rfl, hs, .inr ⟨g, 0, rfl, (Array.getElem?_eq_some_iff.1 hg).1, fun j hj => ?_⟩⟩
    have hc : ∀ t, t < 7 → w.cell? ⟨g, 0 + j * 7 + t, none⟩ = (ms.getD j dm).cs[t]? := fun t ht => by
      rw [cellsAt hg, ← fl_get ms j hj t ht, ← htake, List.getElem?_take_of_lt (by omega)]; simp
    exact ⟨hc 0 (by omega), hc 1 (by omega), hc 2 (by omega), hc 3 (by omega), hc 4 (by omega), hc 5 (by omega), hc 6 (by omega)⟩

theorem Own.below {base : Nat} {w w' : World} {v : Value} {ms : List Rec} (h : Own base w v ms) (hb : Below w.heap.size w w') : Own base w' v ms := by
  rcases h.2 with ⟨rfl, h0⟩ | ⟨g, c, cur, rfl, hbg, hg, hnc, hcm, hcs, htake⟩
  · exact ⟨h.1, .inl ⟨rfl, h0⟩⟩
  · have hlt : g < w.heap.size := (Array.getElem?_eq_some_iff.1 hg).1
    exact ⟨h.1, .inr ⟨g, c, cur, rfl, hbg, (hb.block g hlt).trans hg, hnc, hcm, hcs, htake⟩⟩

theorem Own.lt {base : Nat} {w : World} {v : Value} {ms : List Rec} (h : Own base w v ms) (k : Nat) (hk : v.ownBlock = some k) : base ≤ k ∧ k < w.heap.size := World.ownsRow.lt h k hk

theorem below_grown {base : Nat} {w w1 w2 : World} {v : Value} {ms : List Rec} (hb : Below base w w1) (h : Own base w1 v ms) (hg : w1.grownBy w2 v.ownBlock) (hbase : base ≤ w1.heap.size) : Below base w w2 :=
  hb.grown hg hbase (fun k hk => (h.lt k hk).1)

theorem own_cells {base g c : Nat} {w : World} {ms : List Rec} (h : Own base w (.slice (some ⟨g, 0, none⟩) ms.length c) ms) (j : Nat) (hj : j < ms.length) :
    w.cell? ⟨g, j * 7, none⟩ = some (.string (ms.getD j dm).name) ∧ w.cell? ⟨g, j * 7 + 1, none⟩ = some (.int .i64 (ms.getD j dm).typ) ∧ w.cell? ⟨g, j * 7 + 2, none⟩ = some (.int .i64 (ms.getD j dm).lasts) ∧ w.cell? ⟨g, j * 7 + 3, none⟩ = some (.int .i64 (ms.getD j dm).addr) ∧ w.cell? ⟨g, j * 7 + 4, none⟩ = some (.string (ms.getD j dm).text) ∧ w.cell? ⟨g, j * 7 + 5, none⟩ = some (.int .i64 (ms.getD j dm).port) ∧ w.cell? ⟨g, j * 7 + 6, none⟩ = some (.string (ms.getD j dm).target) := by
  rcases h.2 with ⟨h1, _⟩ | ⟨g', c', cur, h1, hbg, hg, hnc, hcm, hcs, htake⟩
  · cases h1
  · simp only [Value.slice.injEq, Option.some.injEq, Addr.mk.injEq] at h1
    obtain ⟨⟨rfl, _, _⟩, _, _⟩ := h1
    have hc : ∀ t, t < 7 → w.cell? ⟨g, j * 7 + t, none⟩ = (ms.getD j dm).cs[t]? := fun t ht => by
      rw [cellsAt hg, ← fl_get ms j hj t ht, ← htake, List.getElem?_take_of_lt (by omega)]; simp
    exact ⟨hc 0 (by omega), hc 1 (by omega), hc 2 (by omega), hc 3 (by omega), hc 4 (by omega), hc 5 (by omega), hc 6 (by omega)⟩

theorem own_form {base : Nat} {w : World} {v : Value} {ms : List Rec} (h : Own base w v ms) (p : Nat) (hp : p < ms.length) : ∃ g c, v = .slice (some ⟨g, 0, none⟩) ms.length c := by
  rcases h.2 with ⟨_, h0⟩ | ⟨g, c, cur, h1, _⟩
  · omega
  · exact ⟨g, c, h1⟩

theorem own_set {base g c p : Nat} {W : World} {ms : List Rec} (h : Own base W (.slice (some ⟨g, 0, none⟩) ms.length c) ms) (hp : p < ms.length) (m : Rec) :
    Own base (((((((W.setCell ⟨g, p * 7, none⟩ (.string m.name)).setCell ⟨g, p * 7 + 1, none⟩ (.int .i64 m.typ)).setCell ⟨g, p * 7 + 2, none⟩ (.int .i64 m.lasts)).setCell ⟨g, p * 7 + 3, none⟩ (.int .i64 m.addr)).setCell ⟨g, p * 7 + 4, none⟩ (.string m.text)).setCell ⟨g, p * 7 + 5, none⟩ (.int .i64 m.port)).setCell ⟨g, p * 7 + 6, none⟩ (.string m.target)) (.slice (some ⟨g, 0, none⟩) ms.length c) (ms.set p m) := by
  have h1 := World.ownsRow.stored h (p * 7) (.string m.name)
  have h2 := World.ownsRow.stored h1.1 (p * 7 + 1) (.int .i64 m.typ)
  have h3 := World.ownsRow.stored h2.1 (p * 7 + 2) (.int .i64 m.lasts)
  have h4 := World.ownsRow.stored h3.1 (p * 7 + 3) (.int .i64 m.addr)
  have h5 := World.ownsRow.stored h4.1 (p * 7 + 4) (.string m.text)
  have h6 := World.ownsRow.stored h5.1 (p * 7 + 5) (.int .i64 m.port)
  have h7 := World.ownsRow.stored h6.1 (p * 7 + 6) (.string m.target)
  have e := h7.1
  rw [fl_set ms p hp m] at e
  show World.ownsRow _ _ _ _ _ (ms.set p m).length _
  rw [List.length_set]
  exact e

theorem Sl.below {w w' : World} {v : Value} {ms : List Rec} (h : Sl w v ms) (hb : Below w.heap.size w w') : Sl w' v ms := by
  obtain ⟨a, cap, rfl, hs, h⟩ := h
  refine ⟨a, cap, rfl, hs, ?_⟩
  rcases h with h | ⟨b, off, rfl, hlt, hr⟩
  · exact .inl h
  · refine .inr ⟨b, off, rfl, Nat.lt_of_lt_of_le hlt hb.size, fun j hj => ?_⟩
    obtain ⟨hc, _⟩ := bcell hb
    obtain ⟨c0, c1, c2, c3, c4, c5, c6⟩ := hr j hj
    exact ⟨(hc _ _ hlt).trans c0, (hc _ _ hlt).trans c1, (hc _ _ hlt).trans c2, (hc _ _ hlt).trans c3, (hc _ _ hlt).trans c4, (hc _ _ hlt).trans c5, (hc _ _ hlt).trans c6⟩

theorem Row.later {w w' : World} {b off : Nat} {ms : List Rec} (hr : Row w b off ms) (hb : Below w.heap.size w w') (hlt : b < w.heap.size) : Row w' b off ms := fun j hj => by
  obtain ⟨hc, _⟩ := bcell hb
  obtain ⟨c0, c1, c2, c3, c4, c5, c6⟩ := hr j hj
  exact ⟨(hc _ _ hlt).trans c0, (hc _ _ hlt).trans c1, (hc _ _ hlt).trans c2, (hc _ _ hlt).trans c3, (hc _ _ hlt).trans c4, (hc _ _ hlt).trans c5, (hc _ _ hlt).trans c6⟩

theorem Own.mono {base base' : Nat} {w : World} {v : Value} {ms : List Rec} (h : Own base w v ms) (hb : base' ≤ base) : Own base' w v ms := by
  rcases h.2 with ⟨rfl, h0⟩ | ⟨g, c, cur, rfl, hbg, hg, hnc, hcm, hcs, htake⟩
  · exact ⟨h.1, .inl ⟨rfl, h0⟩⟩
  · exact ⟨h.1, .inr ⟨g, c, cur, rfl, Nat.le_trans hb hbg, hg, hnc, hcm, hcs, htake⟩⟩

theorem own_nil (base : Nat) (w : World) : Own base w (.slice none 0 0) [] := World.ownsRow_nil w base 54 7

theorem ns_mem {ms : List Rec} (h : ∀ j, (ms.getD j dm).ok) : ∀ m ∈ ms, (m).ok := by
  intro m hm
  obtain ⟨j, hj, rfl⟩ := List.getElem_of_mem hm
  have := h j
  simpa [List.getD, List.getElem?_eq_getElem hj] using this
theorem ns_get {ms : List Rec} (h : ∀ m ∈ ms, (m).ok) : ∀ j, (ms.getD j dm).ok := by
  intro j
  by_cases hj : j < ms.length
  · have := h ms[j] (List.getElem_mem hj)
    simpa [List.getD, List.getElem?_eq_getElem hj] using this
  · rw [List.getD, List.getElem?_eq_none (Nat.le_of_not_lt hj)]; exact dm_ok

theorem own_names {base : Nat} {w : World} {v : Value} {ms : List Rec} (h : Own base w v ms) (hs : ∀ m ∈ ms, (m).ok) : Sl w v ms := h.sl (ns_get hs)

theorem sl_one (w : World) (b cap : Nat) (m : Rec) (hm : (m).ok) (hg : w.heap[b]? = some (.cells #[.string m.name, .int .i64 m.typ, .int .i64 m.lasts, .int .i64 m.addr, .string m.text, .int .i64 m.port, .string m.target] 54 (0, 0))) : Sl w (.slice (some ⟨b, 0, none⟩) 1 cap) [m] := by
  refine ⟨_, cap, rfl, ns_get (fun x hx => by simp at hx; subst hx; exact hm), .inr ⟨b, 0, rfl, (Array.getElem?_eq_some_iff.1 hg).1, fun j hj => ?_⟩⟩
  have : j = 0 := by simpa using hj
  subst this
  exact ⟨cellsAt hg (0 + 0 * 7), cellsAt hg (0 + 0 * 7 + 1), cellsAt hg (0 + 0 * 7 + 2), cellsAt hg (0 + 0 * 7 + 3), cellsAt hg (0 + 0 * 7 + 4), cellsAt hg (0 + 0 * 7 + 5), cellsAt hg (0 + 0 * 7 + 6)⟩

theorem own_snoc {base : Nat} {w : World} {v : Value} {L : List Rec} {m : Rec} (h : w.ownsRow base 54 7 v (L.length + 1) (fl L ++ m.cs)) : Own base w v (L ++ [m]) := by
  have e : fl (L ++ [m]) = fl L ++ m.cs := by rw [fl_append, fl_cons]; simp [fl]
  show w.ownsRow base 54 7 v (L ++ [m]).length (fl (L ++ [m]))
  rw [e, List.length_append]
  exact h

end Rc
end Go.Proofs.YtogmkdhljifbpaaDoor

/- dns.check, both ways: what a call gives up with. -/
namespace Go.Proofs.YtogmkdhljifbpaaDoor
open Go.RowKit

/-- How a check ends: it returns, or gives up by e. -/
def outE (e : Int) : Ending := if e = 0 then .returned (.tuple #[]) else .panicked [{ v := .iface 71 (.agg #[.int .i64 e]), recovered := false }]
theorem outE_0 : outE 0 = .returned (.tuple #[]) := rfl
theorem outE_ne {e : Int} (h : e ≠ 0) : outE e = .panicked [{ v := .iface 71 (.agg #[.int .i64 e]), recovered := false }] := if_neg h

set_option maxHeartbeats 800000 in
theorem checkName_any (s : ByteArray) (w : World) (hs : s.size ≤ maxLen) :
    Calls Tryd.prog 50 #[.string s] w fun r w' => r = outE (chkN s) ∧ Below w.heap.size w w' := by
  by_cases h : chkN s = 0
  · rw [h]
    exact checkName_ok s w hs h
  · have HC : Hid (Calls Tryd.prog 10 #[.string s] w fun e w' => e = .returned (.int .i64 (chkN s)) ∧ Below w.heap.size w w') := dnsCheck_any s w hs
    rw [outE_ne h]
    generalize chkN s = E at *
    have h2 : (E == 0) = false := by simpa using h
    go_enter Tryd.func50, Tryd.ntmps50
    go_wp2_with fail
    refine HC.out.mono ?_
    rintro e w1 ⟨rfl, hb1⟩
    have HB1 : Hid (Below w.heap.size w w1) := hb1
    clear hb1
    go_wp2_with fail
    refine (need_no _ _).mono ?_
    rintro e w2 ⟨rfl, rfl⟩
    exact ⟨rfl, rfl, HB1.out⟩

def typB (n : Int) : Bool := decide (n = 1) || decide (n = 16) || decide (n = 33)
/-- The record without what its type does not name. -/
def ownF (r : Rc.Rec) : Rc.Rec := if r.typ = 1 then ⟨r.name, r.typ, r.lasts, r.addr, ⟨#[]⟩, 0, ⟨#[]⟩⟩ else if r.typ = 16 then ⟨r.name, r.typ, r.lasts, 0, r.text, 0, ⟨#[]⟩⟩ else if r.typ = 33 then ⟨r.name, r.typ, r.lasts, 0, ⟨#[]⟩, r.port, r.target⟩ else ⟨r.name, r.typ, r.lasts, 0, ⟨#[]⟩, 0, ⟨#[]⟩⟩
abbrev recV (r : Rc.Rec) : Value := .agg #[.string r.name, .int .i64 r.typ, .int .i64 r.lasts, .int .i64 r.addr, .string r.text, .int .i64 r.port, .string r.target]

set_option maxHeartbeats 1600000 in
set_option maxRecDepth 100000 in
theorem ownFields_any (r : Rc.Rec) (w : World) :
    Calls Tryd.prog 64 #[recV r] w fun e w' => e = .returned (recV (ownF r)) ∧ Below w.heap.size w w' := by
  obtain ⟨name, typ, lasts, addr, text, port, target⟩ := r
  unfold ownF
  simp only
  by_cases h1 : typ = 1
  · subst h1
    go_enter Tryd.func64, Tryd.ntmps64
    go_wp2_with fail
    refine bodyPost_ret (v := .agg #[.string name, .int .i64 1, .int .i64 lasts, .int .i64 addr, .string ⟨#[]⟩, .int .i64 0, .string ⟨#[]⟩]) ?_ rfl ⟨rfl, ?_⟩
    · simp [results, Tryd.results64, go_sem]
    · first | exact (((Below.refl _ _).alloc (Nat.le_refl _) _).alloc (by simp) _).alloc (by simp; omega) _ | exact ((((Below.refl _ _).alloc (Nat.le_refl _) _).alloc (by simp) _).alloc (by simp; omega) _).drew
  rw [if_neg h1]
  have e1 : (typ == 1) = false := by simpa using h1
  by_cases h2 : typ = 16
  · subst h2
    clear e1
    go_enter Tryd.func64, Tryd.ntmps64
    go_wp2_with fail
    refine bodyPost_ret (v := .agg #[.string name, .int .i64 16, .int .i64 lasts, .int .i64 0, .string text, .int .i64 0, .string ⟨#[]⟩]) ?_ rfl ⟨rfl, ?_⟩
    · simp [results, Tryd.results64, go_sem]
    · first | exact (((Below.refl _ _).alloc (Nat.le_refl _) _).alloc (by simp) _).alloc (by simp; omega) _ | exact ((((Below.refl _ _).alloc (Nat.le_refl _) _).alloc (by simp) _).alloc (by simp; omega) _).drew
  rw [if_neg h2]
  have e2 : (typ == 16) = false := by simpa using h2
  by_cases h3 : typ = 33
  · subst h3
    clear e1 e2
    go_enter Tryd.func64, Tryd.ntmps64
    go_wp2_with fail
    go_region
    go_wp2_with fail
    refine bodyPost_ret (v := .agg #[.string name, .int .i64 33, .int .i64 lasts, .int .i64 0, .string ⟨#[]⟩, .int .i64 port, .string target]) ?_ rfl ⟨rfl, ?_⟩
    · simp [results, Tryd.results64, go_sem]
    · first | exact (((Below.refl _ _).alloc (Nat.le_refl _) _).alloc (by simp) _).alloc (by simp; omega) _ | exact ((((Below.refl _ _).alloc (Nat.le_refl _) _).alloc (by simp) _).alloc (by simp; omega) _).drew
  rw [if_neg h3]
  have e3 : (typ == 33) = false := by simpa using h3
  · clear h1 h2 h3
    go_enter Tryd.func64, Tryd.ntmps64
    go_wp2_with fail
    refine bodyPost_ret (v := .agg #[.string name, .int .i64 typ, .int .i64 lasts, .int .i64 0, .string ⟨#[]⟩, .int .i64 0, .string ⟨#[]⟩]) ?_ rfl ⟨rfl, ?_⟩
    · simp [results, Tryd.results64, go_sem]
    · first | exact (((Below.refl _ _).alloc (Nat.le_refl _) _).alloc (by simp) _).alloc (by simp; omega) _ | exact ((((Below.refl _ _).alloc (Nat.le_refl _) _).alloc (by simp) _).alloc (by simp; omega) _).drew

end Go.Proofs.YtogmkdhljifbpaaDoor

/- records: are two the same? -/
namespace Go.Proofs.YtogmkdhljifbpaaDoor
namespace Rc
open Go.RowKit

def sameM (x y : Rec) : Bool := x.name.toList == y.name.toList && (x.typ == y.typ && (x.lasts == y.lasts && (x.addr == y.addr && (x.text.toList == y.text.toList && (x.port == y.port && (x.target.toList == y.target.toList))))))

theorem sameM_iff (x y : Rec) : sameM x y = true ↔ x = y := by
  obtain ⟨x_name, x_typ, x_lasts, x_addr, x_text, x_port, x_target⟩ := x
  obtain ⟨y_name, y_typ, y_lasts, y_addr, y_text, y_port, y_target⟩ := y
  simp only [sameM, Bool.and_eq_true, beq_iff_eq, Rec.mk.injEq, Lib.toList_data]
  constructor
  · rintro ⟨h0, h1, h2, h3, h4, h5, h6⟩; exact ⟨ba_ext h0, h1, h2, h3, ba_ext h4, h5, ba_ext h6⟩
  · rintro ⟨h0, h1, h2, h3, h4, h5, h6⟩; exact ⟨by rw [h0], h1, h2, h3, by rw [h4], h5, by rw [h6]⟩

theorem eqInE (m1 m2 : Rec) (w : World) : (Op.equalIn 10000 54 (.agg #[.string m1.name, .int .i64 m1.typ, .int .i64 m1.lasts, .int .i64 m1.addr, .string m1.text, .int .i64 m1.port, .string m1.target]) (.agg #[.string m2.name, .int .i64 m2.typ, .int .i64 m2.lasts, .int .i64 m2.addr, .string m2.text, .int .i64 m2.port, .string m2.target])).run Tryd.prog w = .ok (sameM m1 m2) w := by
  have u3 := Tryd.underlying3
  have u9 := Tryd.underlying9
  have a3 := Tryd.isAgg3
  have z3 := Tryd.sizeOf3
  have a9 := Tryd.isAgg9
  have z9 := Tryd.sizeOf9
  have hS : Tryd.prog.underlying 54 = some (.struct (Tryd.prog.fieldsOf 54)) := by kernel_rfl
  have hp : Tryd.prog.stoodInHeld 54 = false := by kernel_rfl
  rw [show (10000 : Nat) = 9999 + 1 from rfl, run_equalIn_agg w 9999 54 _ _ hS hp]
  simp only [Program.fieldsOf, Tryd.underlying54]
  go_simp
  unfold sameM
  by_cases h0 : m1.name.toList = m2.name.toList
  case neg => simp [h0]
  by_cases h1 : m1.typ = m2.typ
  case neg => simp [h0, h1]
  by_cases h2 : m1.lasts = m2.lasts
  case neg => simp [h0, h1, h2]
  by_cases h3 : m1.addr = m2.addr
  case neg => simp [h0, h1, h2, h3]
  by_cases h4 : m1.text.toList = m2.text.toList
  case neg => simp [h0, h1, h2, h3, h4]
  by_cases h5 : m1.port = m2.port
  case neg => simp [h0, h1, h2, h3, h4, h5]
  by_cases h6 : m1.target.toList = m2.target.toList
  case neg => simp [h0, h1, h2, h3, h4, h5, h6]
  simp [h0, h1, h2, h3, h4, h5, h6]

theorem neqE (m1 m2 : Rec) (w : World) : Sem.run Tryd.prog (binOp .neq 54 (.agg #[.string m1.name, .int .i64 m1.typ, .int .i64 m1.lasts, .int .i64 m1.addr, .string m1.text, .int .i64 m1.port, .string m1.target]) (.agg #[.string m2.name, .int .i64 m2.typ, .int .i64 m2.lasts, .int .i64 m2.addr, .string m2.text, .int .i64 m2.port, .string m2.target])) w = .ok (.bool (!sameM m1 m2)) w := by
  rw [run_neq_struct, eqInE]
  rfl

theorem eqE (m1 m2 : Rec) (w : World) : Sem.run Tryd.prog (binOp .eql 54 (.agg #[.string m1.name, .int .i64 m1.typ, .int .i64 m1.lasts, .int .i64 m1.addr, .string m1.text, .int .i64 m1.port, .string m1.target]) (.agg #[.string m2.name, .int .i64 m2.typ, .int .i64 m2.lasts, .int .i64 m2.addr, .string m2.text, .int .i64 m2.port, .string m2.target])) w = .ok (.bool (sameM m1 m2)) w := by
  rw [run_eql_struct, eqInE]
  rfl

end Rc
end Go.Proofs.YtogmkdhljifbpaaDoor

/- Records are checked. -/
namespace Go.Proofs.YtogmkdhljifbpaaDoor
open Go.RowKit

def ownB (r : Rc.Rec) : Bool := (decide (r.typ = 1) || decide (r.addr = 0)) && ((decide (r.typ = 16) || decide (r.text.size = 0)) && (decide (r.typ = 33) || (decide (r.port = 0) && decide (r.target.size = 0))))
/-- What CheckRecord says. -/
def chkRec (r : Rc.Rec) : Int :=
  if chkN r.name ≠ 0 then chkN r.name
  else if typB r.typ = false then 7
  else if within r.lasts 0 2147483647 = false then 3
  else if ownB r = false then 1
  else if (within r.addr 0 4294967295 && within r.port 0 65535) = false then 3
  else if 200 < r.text.size then 2
  else chkN r.target

theorem ownF_name (r : Rc.Rec) : (ownF r).name = r.name := by unfold ownF; split; rfl; split; rfl; split <;> rfl
theorem ownF_typ (r : Rc.Rec) : (ownF r).typ = r.typ := by unfold ownF; split; rfl; split; rfl; split <;> rfl
theorem ownF_lasts (r : Rc.Rec) : (ownF r).lasts = r.lasts := by unfold ownF; split; rfl; split; rfl; split <;> rfl

theorem emp_iff (s : ByteArray) : s = ⟨#[]⟩ ↔ s.size = 0 := ⟨fun h => by rw [h]; rfl, isempty⟩
theorem own_same (r : Rc.Rec) : Rc.sameM r (ownF r) = ownB r := by
  rw [Bool.eq_iff_iff, Rc.sameM_iff]
  obtain ⟨name, typ, lasts, addr, text, port, target⟩ := r
  unfold ownF ownB
  simp only
  by_cases h1 : typ = 1
  · subst h1; simp [emp_iff]
  rw [if_neg h1]
  by_cases h2 : typ = 16
  · subst h2; simp [emp_iff]
  rw [if_neg h2]
  by_cases h3 : typ = 33
  · subst h3; simp [emp_iff]
  rw [if_neg h3]
  simp [h1, h2, h3, emp_iff]

set_option maxHeartbeats 1600000 in
set_option maxRecDepth 100000 in
theorem checkRecord_any (r : Rc.Rec) (w : World) (hr : r.ok) :
    Calls Tryd.prog 52 #[recV r] w fun e w' => e = outE (chkRec r) ∧ Below w.heap.size w w' := by
  have HN : Hid (∀ W, Calls Tryd.prog 50 #[.string r.name] W fun e w' => e = outE (chkN r.name) ∧ Below W.heap.size W w') := fun W => checkName_any _ _ hr.1
  have HT : Hid (∀ W, Calls Tryd.prog 50 #[.string r.target] W fun e w' => e = outE (chkN r.target) ∧ Below W.heap.size W w') := fun W => checkName_any _ _ hr.2.2
  have HO : Hid (∀ W, Calls Tryd.prog 64 #[recV r] W fun e w' => e = .returned (.agg #[.string r.name, .int .i64 r.typ, .int .i64 r.lasts, .int .i64 (ownF r).addr, .string (ownF r).text, .int .i64 (ownF r).port, .string (ownF r).target]) ∧ Below W.heap.size W w') := fun W => by
    have h := ownFields_any r W
    unfold recV at h
    rw [ownF_name, ownF_typ, ownF_lasts] at h
    exact h
  generalize hE : chkRec r = E
  unfold chkRec at hE
  go_enter Tryd.func52, Tryd.ntmps52
  go_wp2_with fail
  have hg0 : (w.alloc (.cells #[.string r.name, .int .i64 r.typ, .int .i64 r.lasts, .int .i64 r.addr, .string r.text, .int .i64 r.port, .string r.target] 54)).heap[w.heap.size]? = some (.cells #[.string r.name, .int .i64 r.typ, .int .i64 r.lasts, .int .i64 r.addr, .string r.text, .int .i64 r.port, .string r.target] 54 (0, 0)) := heap_alloc_new w _
  refine (HN.out _).mono ?_
  rintro e w1 ⟨rfl, hb1⟩
  have hg1 := (hb1.block w.heap.size (by simp)).trans hg0
  have HB1 : Hid (Below w.heap.size w w1) := ((Below.refl _ _).alloc (Nat.le_refl _) _).trans (hb1.mono (by simp))
  clear hg0 hb1
  by_cases h1 : chkN r.name = 0
  · rw [h1, outE_0]
    rw [if_neg (by simpa using h1)] at hE
    have f1 : w1.cell? ⟨w.heap.size, 1, none⟩ = some (.int .i64 r.typ) := cellsAt hg1 1
    have f2 : w1.cell? ⟨w.heap.size, 2, none⟩ = some (.int .i64 r.lasts) := cellsAt hg1 2
    go_wp2_with fail
    refine (rtype_any _ _).mono ?_
    rintro e w2 ⟨rfl, hw2⟩
    subst hw2
    rw [show (decide (r.typ = 1) || decide (r.typ = 16) || decide (r.typ = 33)) = typB r.typ from rfl]
    by_cases h2 : typB r.typ = false
    · rw [if_pos h2] at hE
      subst hE
      rw [h2]
      go_wp2_with fail
      refine (need_no _ _).mono ?_
      rintro e w3 ⟨rfl, rfl⟩
      exact ⟨rfl, rfl, HB1.out⟩
    rw [if_neg h2] at hE
    rw [show typB r.typ = true by simpa using h2]
    go_wp2_with fail
    refine (need_ok _ _).mono ?_
    rintro e w3 ⟨rfl, hw3⟩
    subst hw3
    go_wp2_with fail
    refine (within_any _ _ _ _).mono ?_
    rintro e w4 ⟨rfl, hw4⟩
    subst hw4
    by_cases h3 : within r.lasts 0 2147483647 = false
    · rw [if_pos h3] at hE
      subst hE
      rw [h3]
      go_wp2_with fail
      refine (need_no _ _).mono ?_
      rintro e w5 ⟨rfl, rfl⟩
      exact ⟨rfl, rfl, HB1.out⟩
    rw [if_neg h3] at hE
    rw [show within r.lasts 0 2147483647 = true by simpa using h3]
    go_wp2_with fail
    refine (need_ok _ _).mono ?_
    rintro e w5 ⟨rfl, hw5⟩
    subst hw5
    have f0 : w5.cell? ⟨w.heap.size, 0, none⟩ = some (.string r.name) := cellsAt hg1 0
    have f3 : w5.cell? ⟨w.heap.size, 3, none⟩ = some (.int .i64 r.addr) := cellsAt hg1 3
    have f4 : w5.cell? ⟨w.heap.size, 4, none⟩ = some (.string r.text) := cellsAt hg1 4
    have f5 : w5.cell? ⟨w.heap.size, 5, none⟩ = some (.int .i64 r.port) := cellsAt hg1 5
    have f6 : w5.cell? ⟨w.heap.size, 6, none⟩ = some (.string r.target) := cellsAt hg1 6
    have heq : ∀ W, Sem.run Tryd.prog (binOp .eql 54 (.agg #[.string r.name, .int .i64 r.typ, .int .i64 r.lasts, .int .i64 r.addr, .string r.text, .int .i64 r.port, .string r.target]) (.agg #[.string r.name, .int .i64 r.typ, .int .i64 r.lasts, .int .i64 (ownF r).addr, .string (ownF r).text, .int .i64 (ownF r).port, .string (ownF r).target])) W = .ok (.bool (ownB r)) W := fun W => by
      have h := Rc.eqE r (ownF r) W
      rw [ownF_name, ownF_typ, ownF_lasts, own_same] at h
      exact h
    have hl5 : w.heap.size < w5.drew.heap.size := (Array.getElem?_eq_some_iff.1 hg1).1
    generalize (ownF r).addr = a' at *
    generalize (ownF r).text = t' at *
    generalize (ownF r).port = p' at *
    generalize (ownF r).target = g' at *
    go_wp2_with fail
    refine wp_region_held_drew (S := fun W => W.heap[w.heap.size]? = some (.cells #[.string r.name, .int .i64 r.typ, .int .i64 r.lasts, .int .i64 r.addr, .string r.text, .int .i64 r.port, .string r.target] 54 (0, 0))) (by kernel_rfl) hg1 (fun hHeld => ?_)
    refine wpAnyH_take (i := 0) (v := recV r) rfl (by kernel_rfl) (by kernel_rfl) (by kernel_rfl) (fun _ _ _ h => h) (Or.inl ⟨by rfl, ?_⟩) (by assumption) ?_
    · intro W hSw
      have d0 : W.cell? ⟨w.heap.size, 0, none⟩ = some (.string r.name) := cellsAt hSw 0
      have d1 : W.cell? ⟨w.heap.size, 1, none⟩ = some (.int .i64 r.typ) := cellsAt hSw 1
      have d2 : W.cell? ⟨w.heap.size, 2, none⟩ = some (.int .i64 r.lasts) := cellsAt hSw 2
      have d3 : W.cell? ⟨w.heap.size, 3, none⟩ = some (.int .i64 r.addr) := cellsAt hSw 3
      have d4 : W.cell? ⟨w.heap.size, 4, none⟩ = some (.string r.text) := cellsAt hSw 4
      have d5 : W.cell? ⟨w.heap.size, 5, none⟩ = some (.int .i64 r.port) := cellsAt hSw 5
      have d6 : W.cell? ⟨w.heap.size, 6, none⟩ = some (.string r.target) := cellsAt hSw 6
      go_simp
    refine wpAnyH_take (i := 1) (v := recV r) rfl (by kernel_rfl) (by kernel_rfl) (by kernel_rfl) (fun _ _ _ h => h) (Or.inl ⟨by rfl, ?_⟩) (by assumption) ?_
    · intro W hSw
      have d0 : W.cell? ⟨w.heap.size, 0, none⟩ = some (.string r.name) := cellsAt hSw 0
      have d1 : W.cell? ⟨w.heap.size, 1, none⟩ = some (.int .i64 r.typ) := cellsAt hSw 1
      have d2 : W.cell? ⟨w.heap.size, 2, none⟩ = some (.int .i64 r.lasts) := cellsAt hSw 2
      have d3 : W.cell? ⟨w.heap.size, 3, none⟩ = some (.int .i64 r.addr) := cellsAt hSw 3
      have d4 : W.cell? ⟨w.heap.size, 4, none⟩ = some (.string r.text) := cellsAt hSw 4
      have d5 : W.cell? ⟨w.heap.size, 5, none⟩ = some (.int .i64 r.port) := cellsAt hSw 5
      have d6 : W.cell? ⟨w.heap.size, 6, none⟩ = some (.string r.target) := cellsAt hSw 6
      go_simp
    refine wpAnyH_ready (rs := [2]) (by kernel_rfl) (by simp) ?_
    refine AllReadyH.cons rfl (fun K hK => ?_) AllReadyH.nil
    go_simp
    refine (HO.out _).mono ?_
    rintro e w6 ⟨rfl, hb6⟩
    have HB6 : Hid (Below w.heap.size w w6) := HB1.out.trans (Below.trans (Below.drew (Below.refl _ _)) (hb6.mono HB1.out.size))
    have hg6 := (hb6.block w.heap.size hl5).trans hHeld
    clear hb6 HB1
    refine hK.out _ _ hg6 (fun _ => ?_)
    clear hK K
    refine wpAnyH_ready (rs := [3]) (by kernel_rfl) (by simp) ?_
    refine AllReadyH.cons rfl (fun K hK => ?_) AllReadyH.nil
    go_simp
    refine hK.out _ _ hg6 (fun _ => ?_)
    clear hK K
    refine wpAnyH_ready (rs := [4]) (by kernel_rfl) (by simp) ?_
    refine AllReadyH.cons rfl (fun K hK => ?_) AllReadyH.nil
    go_simp
    by_cases h4 : ownB r = false
    · rw [if_pos h4] at hE
      subst hE
      rw [h4]
      refine (need_no _ _).mono ?_
      rintro e w7 ⟨rfl, rfl⟩
      exact ⟨rfl, rfl, HB6.out⟩
    rw [if_neg h4] at hE
    rw [show ownB r = true by simpa using h4]
    refine (need_ok _ _).mono ?_
    rintro e w7 ⟨rfl, hw7⟩
    subst hw7
    refine hK.out _ _ hg6 (fun _ => ?_)
    clear hK K
    refine wpAnyH_done (by kernel_rfl) ?_ _
    clear heq HO f0 f1 f2 f3 f4 f5 f6
    have f3 : w7.cell? ⟨w.heap.size, 3, none⟩ = some (.int .i64 r.addr) := cellsAt hg6 3
    have f4 : w7.cell? ⟨w.heap.size, 4, none⟩ = some (.string r.text) := cellsAt hg6 4
    have f5 : w7.cell? ⟨w.heap.size, 5, none⟩ = some (.int .i64 r.port) := cellsAt hg6 5
    have f6 : w7.cell? ⟨w.heap.size, 6, none⟩ = some (.string r.target) := cellsAt hg6 6
    go_wp2_with fail
    refine (address_any _ _).mono ?_
    rintro e w8 ⟨rfl, hw8⟩
    subst hw8
    by_cases h5 : within r.addr 0 4294967295 = false
    · rw [if_pos (by rw [h5]; rfl)] at hE
      subst hE
      rw [h5]
      go_wp2_with fail
      refine (need_no _ _).mono ?_
      rintro e w9 ⟨rfl, rfl⟩
      exact ⟨rfl, rfl, HB6.out⟩
    have h5t : within r.addr 0 4294967295 = true := by simpa using h5
    rw [h5t] at hE ⊢
    rw [Bool.true_and] at hE
    go_wp2_with fail
    refine (within_any _ _ _ _).mono ?_
    rintro e w9 ⟨rfl, hw9⟩
    subst hw9
    by_cases h6 : within r.port 0 65535 = false
    · rw [if_pos h6] at hE
      subst hE
      rw [h6]
      go_wp2_with fail
      refine (need_no _ _).mono ?_
      rintro e wa ⟨rfl, rfl⟩
      exact ⟨rfl, rfl, HB6.out⟩
    rw [if_neg h6] at hE
    rw [show within r.port 0 65535 = true by simpa using h6]
    go_wp2_with fail
    refine (need_ok _ _).mono ?_
    rintro e wa ⟨rfl, hwa⟩
    subst hwa
    by_cases h7 : 200 < r.text.size
    · rw [if_pos h7] at hE
      subst hE
      have h8 : decide ((r.text.size : Int) ≤ 200) = false := by simp; omega
      go_wp2_with fail
      refine (need_no _ _).mono ?_
      rintro e wb ⟨rfl, rfl⟩
      exact ⟨rfl, rfl, HB6.out⟩
    rw [if_neg h7] at hE
    have h8 : decide ((r.text.size : Int) ≤ 200) = true := by simp; omega
    go_wp2_with fail
    refine (need_ok _ _).mono ?_
    rintro e wb ⟨rfl, hwb⟩
    subst hwb
    go_wp2_with fail
    refine (HT.out _).mono ?_
    rintro e wc ⟨rfl, hbc⟩
    have HBC : Hid (Below w.heap.size w wc) := HB6.out.trans (hbc.mono HB6.out.size)
    clear hbc
    subst hE
    by_cases h9 : chkN r.target = 0
    · rw [h9, outE_0]
      go_wp2_with fail
      simp [bodyPost, results, Tryd.results52]
      exact ⟨by rw [h9]; rfl, HBC.out⟩
    · rw [outE_ne h9]
      exact ⟨rfl, (outE_ne h9).symm, HBC.out⟩
  · rw [if_pos h1] at hE
    subst hE
    rw [outE_ne h1]
    exact ⟨rfl, (outE_ne h1).symm, HB1.out⟩

end Go.Proofs.YtogmkdhljifbpaaDoor

