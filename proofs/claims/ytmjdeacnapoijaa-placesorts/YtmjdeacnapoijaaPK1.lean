
/- Lists of places in memory. -/
import Derived.Test.YtmjdeacnapoijaaLV
import Derived.Test.YtmjdeacnapoijaaRL
namespace Go.Proofs.Ytmjdeacnapoijaa
namespace Pc
open Go.RowKit

structure Ple where
  x : Int
  y : Int
  z : Int
  h : Int
  s : Int

def dm : Ple := ⟨0, 0, 0, 0, 0⟩
/-- Its texts are no longer than texts may be. -/
def Ple.ok (_m : Ple) : Prop := True
theorem dm_ok : dm.ok := trivial

def Row (w : World) (b off : Nat) (ms : List Ple) : Prop := ∀ j, j < ms.length →
  w.cell? ⟨b, off + j * 5, none⟩ = some (.int .i64 (ms.getD j dm).x) ∧ w.cell? ⟨b, off + j * 5 + 1, none⟩ = some (.int .i64 (ms.getD j dm).y) ∧ w.cell? ⟨b, off + j * 5 + 2, none⟩ = some (.int .i64 (ms.getD j dm).z) ∧ w.cell? ⟨b, off + j * 5 + 3, none⟩ = some (.int .i64 (ms.getD j dm).h) ∧ w.cell? ⟨b, off + j * 5 + 4, none⟩ = some (.int .i64 (ms.getD j dm).s)

/-- A slice's value, and what it holds in a world. -/
def Sl (w : World) (v : Value) (ms : List Ple) : Prop :=
  ∃ (a : Option Addr) (cap : Nat), v = .slice a ms.length cap ∧ (∀ j, (ms.getD j dm).ok) ∧
    (ms = [] ∨ ∃ b off, a = some ⟨b, off, none⟩ ∧ b < w.heap.size ∧ Row w b off ms)

def Ple.cs (m : Ple) : List Value := [.int .i64 m.x, .int .i64 m.y, .int .i64 m.z, .int .i64 m.h, .int .i64 m.s]
def fl (ms : List Ple) : List Value := ms.flatMap Ple.cs

theorem cs_len (m : Ple) : m.cs.length = 5 := rfl
theorem fl_cons (m : Ple) (r : List Ple) : fl (m :: r) = m.cs ++ fl r := by simp [fl]
theorem fl_append (a b : List Ple) : fl (a ++ b) = fl a ++ fl b := by simp [fl]
theorem fl_len : ∀ ms : List Ple, (fl ms).length = ms.length * 5
  | [] => rfl
  | m :: r => by rw [fl_cons, List.length_append, fl_len r, cs_len, List.length_cons]; omega
theorem fl_take : ∀ (ms : List Ple) (i : Nat), (fl ms).take (i * 5) = fl (ms.take i)
  | [], i => by simp [fl]
  | m :: r, 0 => by simp [fl]
  | m :: r, i + 1 => by
    rw [fl_cons, List.take_succ_cons, fl_cons, show (i + 1) * 5 = m.cs.length + i * 5 by rw [cs_len]; omega, List.take_length_add_append, fl_take r i]
theorem fl_drop : ∀ (ms : List Ple) (i : Nat), (fl ms).drop (i * 5) = fl (ms.drop i)
  | [], i => by simp [fl]
  | m :: r, 0 => by simp
  | m :: r, i + 1 => by
    rw [fl_cons, List.drop_succ_cons, show (i + 1) * 5 = m.cs.length + i * 5 by rw [cs_len]; omega, List.drop_length_add_append, fl_drop r i]
theorem cs_one (m : Ple) : ∀ v ∈ m.cs, v.oneCell' = true := by
  intro v hv; simp [Ple.cs] at hv; rcases hv with rfl | rfl | rfl | rfl | rfl <;> rfl
theorem fl_one (ms : List Ple) : ∀ v ∈ fl ms, v.oneCell' = true := by
  intro v hv
  obtain ⟨m, _, h⟩ := List.mem_flatMap.1 hv
  exact cs_one m v h
theorem fl_get (ms : List Ple) (j : Nat) (hj : j < ms.length) (t : Nat) (ht : t < 5) : (fl ms)[j * 5 + t]? = (ms.getD j dm).cs[t]? := by
  induction ms generalizing j with
  | nil => simp at hj
  | cons m r ih =>
    rw [fl_cons]
    cases j with
    | zero => rw [List.getElem?_append_left (by rw [cs_len]; omega)]; simp
    | succ j =>
      rw [List.getElem?_append_right (by rw [cs_len]; omega), cs_len, show (j + 1) * 5 + t - 5 = j * 5 + t by omega, ih j (by simpa using hj)]
      simp
theorem fl_set (ms : List Ple) (p : Nat) (hp : p < ms.length) (m : Ple) : ((((((fl ms).set (p * 5) (.int .i64 m.x)).set (p * 5 + 1) (.int .i64 m.y)).set (p * 5 + 2) (.int .i64 m.z)).set (p * 5 + 3) (.int .i64 m.h)).set (p * 5 + 4) (.int .i64 m.s)) = fl (ms.set p m) := by
  induction ms generalizing p with
  | nil => simp at hp
  | cons x r ih =>
    cases p with
    | zero => simp [fl, Ple.cs]
    | succ p =>
      have ih' := ih p (by simpa using hp)
      rw [List.set_cons_succ, fl_cons, fl_cons, ← ih']
      simp only [Nat.add_mul, Nat.one_mul]
      have e : ∀ (l : List Value) (k : Nat) (v : Value), (x.cs ++ l).set (k + 5) v = x.cs ++ l.set k v := fun l k v => by
        rw [List.set_append, if_neg (by rw [cs_len]; omega), cs_len, Nat.add_sub_cancel]
      have c : ∀ i : Nat, p * 5 + 5 + i = (p * 5 + i) + 5 := fun i => by omega
      simp only [c]
      rw [e, e, e, e, e]

abbrev Own (base : Nat) (w : World) (v : Value) (ms : List Ple) : Prop := w.ownsRow base 29 5 v ms.length (fl ms)

theorem own_of {base g G : Nat} {w : World} {cur : Array Value} {ms : List Ple} (hb : base ≤ g) (hg : w.heap[g]? = some (.cells cur 29 (0, 0))) (hs : cur.size = G * 5) (hn : ms.length ≤ G) (hG : G ≤ maxLen) (ht : cur.toList.take (ms.length * 5) = fl ms) :
    Own base w (.slice (some ⟨g, 0, none⟩) ms.length G) ms := ⟨fl_len ms, .inr ⟨g, G, cur, rfl, hb, hg, hn, hG, hs, ht⟩⟩

/-- What a call owns is a slice as any. -/
theorem Own.sl {base : Nat} {w : World} {v : Value} {ms : List Ple} (h : Own base w v ms) (hs : ∀ j, (ms.getD j dm).ok) : Sl w v ms := by
  rcases h.2 with ⟨rfl, h0⟩ | ⟨g, c, cur, rfl, hbg, hg, hnc, hcm, hcs, htake⟩
  · exact ⟨none, 0, by rw [h0], hs, .inl (List.eq_nil_of_length_eq_zero h0)⟩
  · refine ⟨_, c, rfl, hs, .inr ⟨g, 0, rfl, (Array.getElem?_eq_some_iff.1 hg).1, fun j hj => ?_⟩⟩
    have hc : ∀ t, t < 5 → w.cell? ⟨g, 0 + j * 5 + t, none⟩ = (ms.getD j dm).cs[t]? := fun t ht => by
      rw [cellsAt hg, ← fl_get ms j hj t ht, ← htake, List.getElem?_take_of_lt (by omega)]; simp
    exact ⟨hc 0 (by omega), hc 1 (by omega), hc 2 (by omega), hc 3 (by omega), hc 4 (by omega)⟩

theorem Own.below {base : Nat} {w w' : World} {v : Value} {ms : List Ple} (h : Own base w v ms) (hb : Below w.heap.size w w') : Own base w' v ms := by
  rcases h.2 with ⟨rfl, h0⟩ | ⟨g, c, cur, rfl, hbg, hg, hnc, hcm, hcs, htake⟩
  · exact ⟨h.1, .inl ⟨rfl, h0⟩⟩
  · have hlt : g < w.heap.size := (Array.getElem?_eq_some_iff.1 hg).1
    exact ⟨h.1, .inr ⟨g, c, cur, rfl, hbg, (hb.block g hlt).trans hg, hnc, hcm, hcs, htake⟩⟩

theorem Own.lt {base : Nat} {w : World} {v : Value} {ms : List Ple} (h : Own base w v ms) (k : Nat) (hk : v.ownBlock = some k) : base ≤ k ∧ k < w.heap.size := World.ownsRow.lt h k hk

theorem below_grown {base : Nat} {w w1 w2 : World} {v : Value} {ms : List Ple} (hb : Below base w w1) (h : Own base w1 v ms) (hg : w1.grownBy w2 v.ownBlock) (hbase : base ≤ w1.heap.size) : Below base w w2 :=
  hb.grown hg hbase (fun k hk => (h.lt k hk).1)

theorem own_cells {base g c : Nat} {w : World} {ms : List Ple} (h : Own base w (.slice (some ⟨g, 0, none⟩) ms.length c) ms) (j : Nat) (hj : j < ms.length) :
    w.cell? ⟨g, j * 5, none⟩ = some (.int .i64 (ms.getD j dm).x) ∧ w.cell? ⟨g, j * 5 + 1, none⟩ = some (.int .i64 (ms.getD j dm).y) ∧ w.cell? ⟨g, j * 5 + 2, none⟩ = some (.int .i64 (ms.getD j dm).z) ∧ w.cell? ⟨g, j * 5 + 3, none⟩ = some (.int .i64 (ms.getD j dm).h) ∧ w.cell? ⟨g, j * 5 + 4, none⟩ = some (.int .i64 (ms.getD j dm).s) := by
  rcases h.2 with ⟨h1, _⟩ | ⟨g', c', cur, h1, hbg, hg, hnc, hcm, hcs, htake⟩
  · cases h1
  · simp only [Value.slice.injEq, Option.some.injEq, Addr.mk.injEq] at h1
    obtain ⟨⟨rfl, _, _⟩, _, _⟩ := h1
    have hc : ∀ t, t < 5 → w.cell? ⟨g, j * 5 + t, none⟩ = (ms.getD j dm).cs[t]? := fun t ht => by
      rw [cellsAt hg, ← fl_get ms j hj t ht, ← htake, List.getElem?_take_of_lt (by omega)]; simp
    exact ⟨hc 0 (by omega), hc 1 (by omega), hc 2 (by omega), hc 3 (by omega), hc 4 (by omega)⟩

theorem own_form {base : Nat} {w : World} {v : Value} {ms : List Ple} (h : Own base w v ms) (p : Nat) (hp : p < ms.length) : ∃ g c, v = .slice (some ⟨g, 0, none⟩) ms.length c := by
  rcases h.2 with ⟨_, h0⟩ | ⟨g, c, cur, h1, _⟩
  · omega
  · exact ⟨g, c, h1⟩

theorem own_set {base g c p : Nat} {W : World} {ms : List Ple} (h : Own base W (.slice (some ⟨g, 0, none⟩) ms.length c) ms) (hp : p < ms.length) (m : Ple) :
    Own base (((((W.setCell ⟨g, p * 5, none⟩ (.int .i64 m.x)).setCell ⟨g, p * 5 + 1, none⟩ (.int .i64 m.y)).setCell ⟨g, p * 5 + 2, none⟩ (.int .i64 m.z)).setCell ⟨g, p * 5 + 3, none⟩ (.int .i64 m.h)).setCell ⟨g, p * 5 + 4, none⟩ (.int .i64 m.s)) (.slice (some ⟨g, 0, none⟩) ms.length c) (ms.set p m) := by
  have h1 := World.ownsRow.stored h (p * 5) (.int .i64 m.x)
  have h2 := World.ownsRow.stored h1.1 (p * 5 + 1) (.int .i64 m.y)
  have h3 := World.ownsRow.stored h2.1 (p * 5 + 2) (.int .i64 m.z)
  have h4 := World.ownsRow.stored h3.1 (p * 5 + 3) (.int .i64 m.h)
  have h5 := World.ownsRow.stored h4.1 (p * 5 + 4) (.int .i64 m.s)
  have e := h5.1
  rw [fl_set ms p hp m] at e
  show World.ownsRow _ _ _ _ _ (ms.set p m).length _
  rw [List.length_set]
  exact e

theorem Sl.below {w w' : World} {v : Value} {ms : List Ple} (h : Sl w v ms) (hb : Below w.heap.size w w') : Sl w' v ms := by
  obtain ⟨a, cap, rfl, hs, h⟩ := h
  refine ⟨a, cap, rfl, hs, ?_⟩
  rcases h with h | ⟨b, off, rfl, hlt, hr⟩
  · exact .inl h
  · refine .inr ⟨b, off, rfl, Nat.lt_of_lt_of_le hlt hb.size, fun j hj => ?_⟩
    obtain ⟨hc, _⟩ := bcell hb
    obtain ⟨c0, c1, c2, c3, c4⟩ := hr j hj
    exact ⟨(hc _ _ hlt).trans c0, (hc _ _ hlt).trans c1, (hc _ _ hlt).trans c2, (hc _ _ hlt).trans c3, (hc _ _ hlt).trans c4⟩

theorem Row.later {w w' : World} {b off : Nat} {ms : List Ple} (hr : Row w b off ms) (hb : Below w.heap.size w w') (hlt : b < w.heap.size) : Row w' b off ms := fun j hj => by
  obtain ⟨hc, _⟩ := bcell hb
  obtain ⟨c0, c1, c2, c3, c4⟩ := hr j hj
  exact ⟨(hc _ _ hlt).trans c0, (hc _ _ hlt).trans c1, (hc _ _ hlt).trans c2, (hc _ _ hlt).trans c3, (hc _ _ hlt).trans c4⟩

theorem Own.mono {base base' : Nat} {w : World} {v : Value} {ms : List Ple} (h : Own base w v ms) (hb : base' ≤ base) : Own base' w v ms := by
  rcases h.2 with ⟨rfl, h0⟩ | ⟨g, c, cur, rfl, hbg, hg, hnc, hcm, hcs, htake⟩
  · exact ⟨h.1, .inl ⟨rfl, h0⟩⟩
  · exact ⟨h.1, .inr ⟨g, c, cur, rfl, Nat.le_trans hb hbg, hg, hnc, hcm, hcs, htake⟩⟩

theorem own_nil (base : Nat) (w : World) : Own base w (.slice none 0 0) [] := World.ownsRow_nil w base 29 5

theorem ns_mem {ms : List Ple} (h : ∀ j, (ms.getD j dm).ok) : ∀ m ∈ ms, (m).ok := by
  intro m hm
  obtain ⟨j, hj, rfl⟩ := List.getElem_of_mem hm
  have := h j
  simpa [List.getD, List.getElem?_eq_getElem hj] using this
theorem ns_get {ms : List Ple} (h : ∀ m ∈ ms, (m).ok) : ∀ j, (ms.getD j dm).ok := by
  intro j
  by_cases hj : j < ms.length
  · have := h ms[j] (List.getElem_mem hj)
    simpa [List.getD, List.getElem?_eq_getElem hj] using this
  · rw [List.getD, List.getElem?_eq_none (Nat.le_of_not_lt hj)]; exact dm_ok

theorem own_names {base : Nat} {w : World} {v : Value} {ms : List Ple} (h : Own base w v ms) (hs : ∀ m ∈ ms, (m).ok) : Sl w v ms := h.sl (ns_get hs)

theorem sl_one (w : World) (b cap : Nat) (m : Ple) (hm : (m).ok) (hg : w.heap[b]? = some (.cells #[.int .i64 m.x, .int .i64 m.y, .int .i64 m.z, .int .i64 m.h, .int .i64 m.s] 29 (0, 0))) : Sl w (.slice (some ⟨b, 0, none⟩) 1 cap) [m] := by
  refine ⟨_, cap, rfl, ns_get (fun x hx => by simp at hx; subst hx; exact hm), .inr ⟨b, 0, rfl, (Array.getElem?_eq_some_iff.1 hg).1, fun j hj => ?_⟩⟩
  have : j = 0 := by simpa using hj
  subst this
  exact ⟨cellsAt hg (0 + 0 * 5), cellsAt hg (0 + 0 * 5 + 1), cellsAt hg (0 + 0 * 5 + 2), cellsAt hg (0 + 0 * 5 + 3), cellsAt hg (0 + 0 * 5 + 4)⟩

theorem own_snoc {base : Nat} {w : World} {v : Value} {L : List Ple} {m : Ple} (h : w.ownsRow base 29 5 v (L.length + 1) (fl L ++ m.cs)) : Own base w v (L ++ [m]) := by
  have e : fl (L ++ [m]) = fl L ++ m.cs := by rw [fl_append, fl_cons]; simp [fl]
  show w.ownsRow base 29 5 v (L ++ [m]).length (fl (L ++ [m]))
  rw [e, List.length_append]
  exact h

end Pc
end Go.Proofs.Ytmjdeacnapoijaa
