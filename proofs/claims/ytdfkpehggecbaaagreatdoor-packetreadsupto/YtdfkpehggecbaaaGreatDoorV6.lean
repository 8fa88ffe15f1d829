/- GK1, GK2, GKT -/
import Derived.Test.YtdfkpehggecbaaaGreatDoorV1
import Derived.Deep.Slices
import Derived.Lib.SmallJoins
import Derived.ProofKit
import Derived.OpenShut
import Derived.Handed
/- Lists of gateways in memory. -/
namespace Go.Proofs.YtdfkpehggecbaaaGreatDoor
namespace Gw
open Go.RowKit

structure Gwy where
  centre : ByteArray
  addr : Int
  version : Int

def dm : Gwy := ⟨ByteArray.empty, 0, 0⟩
/-- Its texts are no longer than texts may be. -/
def Gwy.ok (m : Gwy) : Prop := m.centre.size ≤ maxLen
theorem dm_ok : dm.ok := by simp [Gwy.ok, dm]

def Row (w : World) (b off : Nat) (ms : List Gwy) : Prop := ∀ j, j < ms.length →
  w.cell? ⟨b, off + j * 3, none⟩ = some (.string (ms.getD j dm).centre) ∧ w.cell? ⟨b, off + j * 3 + 1, none⟩ = some (.int .i64 (ms.getD j dm).addr) ∧ w.cell? ⟨b, off + j * 3 + 2, none⟩ = some (.int .i64 (ms.getD j dm).version)

/-- A slice's value, and what it holds in a world. -/
def Sl (w : World) (v : Value) (ms : List Gwy) : Prop :=
  ∃ (a : Option Addr) (cap : Nat), v = .slice a ms.length cap ∧ (∀ j, (ms.getD j dm).ok) ∧
    (ms = [] ∨ ∃ b off, a = some ⟨b, off, none⟩ ∧ b < w.heap.size ∧ Row w b off ms)

def Gwy.cs (m : Gwy) : List Value := [.string m.centre, .int .i64 m.addr, .int .i64 m.version]
def fl (ms : List Gwy) : List Value := ms.flatMap Gwy.cs

theorem cs_len (m : Gwy) : m.cs.length = 3 := rfl
theorem fl_cons (m : Gwy) (r : List Gwy) : fl (m :: r) = m.cs ++ fl r := by simp [fl]
theorem fl_append (a b : List Gwy) : fl (a ++ b) = fl a ++ fl b := by simp [fl]
theorem fl_len : ∀ ms : List Gwy, (fl ms).length = ms.length * 3
  | [] => rfl
  | m :: r => by rw [fl_cons, List.length_append, fl_len r, cs_len, List.length_cons]; omega
theorem fl_take : ∀ (ms : List Gwy) (i : Nat), (fl ms).take (i * 3) = fl (ms.take i)
  | [], i => by simp [fl]
  | m :: r, 0 => by simp [fl]
  | m :: r, i + 1 => by
    rw [fl_cons, List.take_succ_cons, fl_cons, show (i + 1) * 3 = m.cs.length + i * 3 by rw [cs_len]; omega, List.take_length_add_append, fl_take r i]
theorem fl_drop : ∀ (ms : List Gwy) (i : Nat), (fl ms).drop (i * 3) = fl (ms.drop i)
  | [], i => by simp [fl]
  | m :: r, 0 => by simp
  | m :: r, i + 1 => by
    rw [fl_cons, List.drop_succ_cons, show (i + 1) * 3 = m.cs.length + i * 3 by rw [cs_len]; omega, List.drop_length_add_append, fl_drop r i]
theorem cs_one (m : Gwy) : ∀ v ∈ m.cs, v.oneCell' = true := by
  intro v hv; simp [Gwy.cs] at hv; rcases hv with rfl | rfl | rfl <;> rfl
theorem fl_one (ms : List Gwy) : ∀ v ∈ fl ms, v.oneCell' = true := by
  intro v hv
  obtain ⟨m, _, h⟩ := List.mem_flatMap.1 hv
  exact cs_one m v h
theorem fl_get (ms : List Gwy) (j : Nat) (hj : j < ms.length) (t : Nat) (ht : t < 3) : (fl ms)[j * 3 + t]? = (ms.getD j dm).cs[t]? := by
  induction ms generalizing j with
  | nil => simp at hj
  | cons m r ih =>
    rw [fl_cons]
    cases j with
    | zero => rw [List.getElem?_append_left (by rw [cs_len]; omega)]; simp
    | succ j =>
      rw [List.getElem?_append_right (by rw [cs_len]; omega), cs_len, show (j + 1) * 3 + t - 3 = j * 3 + t by omega, ih j (by simpa using hj)]
      simp
theorem fl_set (ms : List Gwy) (p : Nat) (hp : p < ms.length) (m : Gwy) : ((((fl ms).set (p * 3) (.string m.centre)).set (p * 3 + 1) (.int .i64 m.addr)).set (p * 3 + 2) (.int .i64 m.version)) = fl (ms.set p m) := by
  induction ms generalizing p with
  | nil => simp at hp
  | cons x r ih =>
    cases p with
    | zero => simp [fl, Gwy.cs]
    | succ p =>
      have ih' := ih p (by simpa using hp)
      rw [List.set_cons_succ, fl_cons, fl_cons, ← ih']
      simp only [Nat.add_mul, Nat.one_mul]
      have e : ∀ (l : List Value) (k : Nat) (v : Value), (x.cs ++ l).set (k + 3) v = x.cs ++ l.set k v := fun l k v => by
        rw [List.set_append, if_neg (by rw [cs_len]; omega), cs_len, Nat.add_sub_cancel]
      have c : ∀ i : Nat, p * 3 + 3 + i = (p * 3 + i) + 3 := fun i => by omega
      simp only [c]
      rw [e, e, e]

abbrev Own (base : Nat) (w : World) (v : Value) (ms : List Gwy) : Prop := w.ownsRow base 62 3 v ms.length (fl ms)

theorem own_of {base g G : Nat} {w : World} {cur : Array Value} {ms : List Gwy} (hb : base ≤ g) (hg : w.heap[g]? = some (.cells cur 62 (0, 0))) (hs : cur.size = G * 3) (hn : ms.length ≤ G) (hG : G ≤ maxLen) (ht : cur.toList.take (ms.length * 3) = fl ms) :
    Own base w (.slice (some ⟨g, 0, none⟩) ms.length G) ms := ⟨fl_len ms, .inr ⟨g, G, cur, rfl, hb, hg, hn, hG, hs, ht⟩⟩

/-- What a call owns is a slice as any. -/
theorem Own.sl {base : Nat} {w : World} {v : Value} {ms : List Gwy} (h : Own base w v ms) (hs : ∀ j, (ms.getD j dm).ok) : Sl w v ms := by
  rcases h.2 with ⟨rfl, h0⟩ | ⟨g, c, cur, rfl, hbg, hg, hnc, hcm, hcs, htake⟩
  · exact ⟨none, 0, by rw [h0], hs, .inl (List.eq_nil_of_length_eq_zero h0)⟩
  · refine ⟨_, c, rfl, hs, .inr ⟨g, 0, rfl, (Array.getElem?_eq_some_iff.1 hg).1, fun j hj => ?_⟩⟩
    have hc : ∀ t, t < 3 → w.cell? ⟨g, 0 + j * 3 + t, none⟩ = (ms.getD j dm).cs[t]? := fun t ht => by
      rw [cellsAt hg, ← fl_get ms j hj t ht, ← htake, List.getElem?_take_of_lt (by omega)]; simp
    exact ⟨hc 0 (by omega), hc 1 (by omega), hc 2 (by omega)⟩

theorem Own.below {base : Nat} {w w' : World} {v : Value} {ms : List Gwy} (h : Own base w v ms) (hb : Below w.heap.size w w') : Own base w' v ms := by
  rcases h.2 with ⟨rfl, h0⟩ | ⟨g, c, cur, rfl, hbg, hg, hnc, hcm, hcs, htake⟩
  · exact ⟨h.1, .inl ⟨rfl, h0⟩⟩
  · have hlt : g < w.heap.size := (Array.getElem?_eq_some_iff.1 hg).1
    exact ⟨h.1, .inr ⟨g, c, cur, rfl, hbg, (hb.block g hlt).trans hg, hnc, hcm, hcs, htake⟩⟩

theorem Own.lt {base : Nat} {w : World} {v : Value} {ms : List Gwy} (h : Own base w v ms) (k : Nat) (hk : v.ownBlock = some k) : base ≤ k ∧ k < w.heap.size := World.ownsRow.lt h k hk

theorem below_grown {base : Nat} {w w1 w2 : World} {v : Value} {ms : List Gwy} (hb : Below base w w1) (h : Own base w1 v ms) (hg : w1.grownBy w2 v.ownBlock) (hbase : base ≤ w1.heap.size) : Below base w w2 :=
  hb.grown hg hbase (fun k hk => (h.lt k hk).1)

theorem own_cells {base g c : Nat} {w : World} {ms : List Gwy} (h : Own base w (.slice (some ⟨g, 0, none⟩) ms.length c) ms) (j : Nat) (hj : j < ms.length) :
    w.cell? ⟨g, j * 3, none⟩ = some (.string (ms.getD j dm).centre) ∧ w.cell? ⟨g, j * 3 + 1, none⟩ = some (.int .i64 (ms.getD j dm).addr) ∧ w.cell? ⟨g, j * 3 + 2, none⟩ = some (.int .i64 (ms.getD j dm).version) := by
  rcases h.2 with ⟨h1, _⟩ | ⟨g', c', cur, h1, hbg, hg, hnc, hcm, hcs, htake⟩
  · cases h1
  · simp only [Value.slice.injEq, Option.some.injEq, Addr.mk.injEq] at h1
    obtain ⟨⟨rfl, _, _⟩, _, _⟩ := h1
    have hc : ∀ t, t < 3 → w.cell? ⟨g, j * 3 + t, none⟩ = (ms.getD j dm).cs[t]? := fun t ht => by
      rw [cellsAt hg, ← fl_get ms j hj t ht, ← htake, List.getElem?_take_of_lt (by omega)]; simp
    exact ⟨hc 0 (by omega), hc 1 (by omega), hc 2 (by omega)⟩

theorem own_form {base : Nat} {w : World} {v : Value} {ms : List Gwy} (h : Own base w v ms) (p : Nat) (hp : p < ms.length) : ∃ g c, v = .slice (some ⟨g, 0, none⟩) ms.length c := by
  rcases h.2 with ⟨_, h0⟩ | ⟨g, c, cur, h1, _⟩
  · omega
  · exact ⟨g, c, h1⟩

theorem own_set {base g c p : Nat} {W : World} {ms : List Gwy} (h : Own base W (.slice (some ⟨g, 0, none⟩) ms.length c) ms) (hp : p < ms.length) (m : Gwy) :
    Own base (((W.setCell ⟨g, p * 3, none⟩ (.string m.centre)).setCell ⟨g, p * 3 + 1, none⟩ (.int .i64 m.addr)).setCell ⟨g, p * 3 + 2, none⟩ (.int .i64 m.version)) (.slice (some ⟨g, 0, none⟩) ms.length c) (ms.set p m) := by
  have h1 := World.ownsRow.stored h (p * 3) (.string m.centre)
  have h2 := World.ownsRow.stored h1.1 (p * 3 + 1) (.int .i64 m.addr)
  have h3 := World.ownsRow.stored h2.1 (p * 3 + 2) (.int .i64 m.version)
  have e := h3.1
  rw [fl_set ms p hp m] at e
  show World.ownsRow _ _ _ _ _ (ms.set p m).length _
  rw [List.length_set]
  exact e

theorem Sl.below {w w' : World} {v : Value} {ms : List Gwy} (h : Sl w v ms) (hb : Below w.heap.size w w') : Sl w' v ms := by
  obtain ⟨a, cap, rfl, hs, h⟩ := h
  refine ⟨a, cap, rfl, hs, ?_⟩
  rcases h with h | ⟨b, off, rfl, hlt, hr⟩
  · exact .inl h
  · refine .inr ⟨b, off, rfl, Nat.lt_of_lt_of_le hlt hb.size, fun j hj => ?_⟩
    obtain ⟨hc, _⟩ := bcell hb
    obtain ⟨c0, c1, c2⟩ := hr j hj
    exact ⟨(hc _ _ hlt).trans c0, (hc _ _ hlt).trans c1, (hc _ _ hlt).trans c2⟩

theorem Row.later {w w' : World} {b off : Nat} {ms : List Gwy} (hr : Row w b off ms) (hb : Below w.heap.size w w') (hlt : b < w.heap.size) : Row w' b off ms := fun j hj => by
  obtain ⟨hc, _⟩ := bcell hb
  obtain ⟨c0, c1, c2⟩ := hr j hj
  exact ⟨(hc _ _ hlt).trans c0, (hc _ _ hlt).trans c1, (hc _ _ hlt).trans c2⟩

theorem Own.mono {base base' : Nat} {w : World} {v : Value} {ms : List Gwy} (h : Own base w v ms) (hb : base' ≤ base) : Own base' w v ms := by
  rcases h.2 with ⟨rfl, h0⟩ | ⟨g, c, cur, rfl, hbg, hg, hnc, hcm, hcs, htake⟩
  · exact ⟨h.1, .inl ⟨rfl, h0⟩⟩
  · exact ⟨h.1, .inr ⟨g, c, cur, rfl, Nat.le_trans hb hbg, hg, hnc, hcm, hcs, htake⟩⟩

theorem own_nil (base : Nat) (w : World) : Own base w (.slice none 0 0) [] := World.ownsRow_nil w base 62 3

theorem ns_mem {ms : List Gwy} (h : ∀ j, (ms.getD j dm).ok) : ∀ m ∈ ms, (m).ok := by
  intro m hm
  obtain ⟨j, hj, rfl⟩ := List.getElem_of_mem hm
  have := h j
  simpa [List.getD, List.getElem?_eq_getElem hj] using this
theorem ns_get {ms : List Gwy} (h : ∀ m ∈ ms, (m).ok) : ∀ j, (ms.getD j dm).ok := by
  intro j
  by_cases hj : j < ms.length
  · have := h ms[j] (List.getElem_mem hj)
    simpa [List.getD, List.getElem?_eq_getElem hj] using this
  · rw [List.getD, List.getElem?_eq_none (Nat.le_of_not_lt hj)]; exact dm_ok

theorem own_names {base : Nat} {w : World} {v : Value} {ms : List Gwy} (h : Own base w v ms) (hs : ∀ m ∈ ms, (m).ok) : Sl w v ms := h.sl (ns_get hs)

theorem sl_one (w : World) (b cap : Nat) (m : Gwy) (hm : (m).ok) (hg : w.heap[b]? = some (.cells #[.string m.centre, .int .i64 m.addr, .int .i64 m.version] 62 (0, 0))) : Sl w (.slice (some ⟨b, 0, none⟩) 1 cap) [m] := by
  refine ⟨_, cap, rfl, ns_get (fun x hx => by simp at hx; subst hx; exact hm), .inr ⟨b, 0, rfl, (Array.getElem?_eq_some_iff.1 hg).1, fun j hj => ?_⟩⟩
  have : j = 0 := by simpa using hj
  subst this
  exact ⟨cellsAt hg (0 + 0 * 3), cellsAt hg (0 + 0 * 3 + 1), cellsAt hg (0 + 0 * 3 + 2)⟩

theorem own_snoc {base : Nat} {w : World} {v : Value} {L : List Gwy} {m : Gwy} (h : w.ownsRow base 62 3 v (L.length + 1) (fl L ++ m.cs)) : Own base w v (L ++ [m]) := by
  have e : fl (L ++ [m]) = fl L ++ m.cs := by rw [fl_append, fl_cons]; simp [fl]
  show w.ownsRow base 62 3 v (L ++ [m]).length (fl (L ++ [m]))
  rw [e, List.length_append]
  exact h

end Gw
end Go.Proofs.YtdfkpehggecbaaaGreatDoor

/- slices.Insert at gateways: the library's own text, walked. -/
namespace Go.Proofs.YtdfkpehggecbaaaGreatDoor
namespace Gw
open Go.RowKit

theorem Tryz.info62 : (Tryz.prog.info? 62).map (fun i => (i.zero, i.size, i.bytes)) = some (some (.agg #[.string ⟨#[]⟩, .int .i64 0, .int .i64 0]), 3, 32) := by kernel_rfl

theorem size62 : (Tryz.prog.info? 62).map (·.size) = some 3 := by
  obtain ⟨i, hi, h1, h2, h3⟩ := info_parts Tryz.info62
  rw [hi]; simp [h2]

theorem sizeOf62 (w : World) : (Go.sizeOf 62).run Tryz.prog w = .ok 3 w := by
  obtain ⟨i, hi, h1, h2, h3⟩ := info_parts Tryz.info62
  simp [Go.sizeOf, typeInfo, hi, h2]

end Gw
end Go.Proofs.YtdfkpehggecbaaaGreatDoor

/- Lists of gateways that lie within what a law is handed. -/
namespace Go.Proofs.YtdfkpehggecbaaaGreatDoor
namespace Gw
open Go.ChangeShapes Go.WideShapes Go.ChangeAt Go.RowKit

section
variable {H : Type} {enc : TypeId × Value → H} {w : World} {base : Nat} {spare : Nat → Bool} {held : Bool}

theorem Tryz.kcT : Tryz.prog.cellsOf 62 = 3 := by kernel_rfl
theorem Tryz.kc9 : Tryz.prog.cellsOf 9 = 1 := by kernel_rfl
theorem Tryz.kc3 : Tryz.prog.cellsOf 3 = 1 := by kernel_rfl
theorem Tryz.kc4 : Tryz.prog.cellsOf 4 = 1 := by kernel_rfl

set_option maxRecDepth 100000 in
theorem elT_of_trod {fuel : Nat} {cs : List Value} {x : DataW H × List MemPlace} (h : DataW.trod enc Tryz.prog w base spare held fuel 62 cs = some x) :
    ∃ m : Gwy, cs = [.string m.centre, .int .i64 m.addr, .int .i64 m.version] ∧ (m).ok := by
  obtain ⟨xs, n, _, _, hl, hlen, hf⟩ := DataW.trod_struct Tryz.underlying62 h
  rw [Tryz.kcT] at hl
  match cs, hl with
  | [c0, c1, c2], _ =>
    match xs, hlen with
    | [y0, y1, y2], _ =>
      have h0 := hf 0 _ rfl
      have h1 := hf 1 _ rfl
      have h2 := hf 2 _ rfl
      simp [Tryz.kc9] at h0
      simp [Tryz.kc3] at h1
      simp [Tryz.kc3] at h2
      obtain ⟨z0, e0, _, g0⟩ := DataW.trod_string Tryz.underlying9 h0
      obtain ⟨z1, e1, _⟩ := DataW.trod_int Tryz.underlying3 h1
      obtain ⟨z2, e2, _⟩ := DataW.trod_int Tryz.underlying3 h2
      simp only [List.cons.injEq, and_true] at e0 e1 e2
      subst e0 e1 e2
      exact ⟨⟨z0, z1, z2⟩, rfl, g0⟩

set_option maxRecDepth 100000 in
theorem elsT_of_trod {fuel : Nat} {cs : List Value} {x : DataW H × List MemPlace} (h : DataW.trod enc Tryz.prog w base spare held fuel 24 cs = some x) :
    ∃ (p : Option Addr) (n c : Nat) (ms : List Gwy), cs = [.slice p n c] ∧ Sl w (.slice p n c) ms ∧ ms.length ≤ maxLen := by
  rcases Go.Deep.open_slice Tryz.underlying24 h with ⟨hcs, _⟩ | ⟨x, len, cap, m, n, D, Pl, hcs, hb, hl, hm, hmm, _, hx⟩
  · exact ⟨none, 0, 0, [], hcs, ⟨none, 0, rfl, ns_get (by simp), .inl rfl⟩, by simp⟩
  · have hlm : len ≤ m := by rw [hmm]; split <;> omega
    have hall : ∀ i, i < len → ∃ q : Gwy, (∀ t, t < 3 → w.cell? (x.add (i * 3 + t)) = q.cs[t]?) ∧ (q).ok := fun i hi => by
      obtain ⟨cs', h1, h2⟩ := hx i (by omega)
      obtain ⟨q, hq, hs⟩ := elT_of_trod h2
      rw [Tryz.kcT] at h1
      obtain ⟨_, _, h3⟩ := World.cells?_some h1
      refine ⟨q, fun t ht => ?_, hs⟩
      rw [← Go.Deep.add_add, h3 t ht, hq]
      rfl
    have hinh : Inhabited Gwy := ⟨dm⟩
    obtain ⟨F, hF⟩ := Go.Deep.choose_lt (α := Gwy) (p := fun i q => (∀ t, t < 3 → w.cell? (x.add (i * 3 + t)) = q.cs[t]?) ∧ (q).ok) hall
    have hget : ∀ j, j < len → ((List.range len).map F).getD j dm = F j := fun j hj => by simp [List.getD, hj]
    refine ⟨some x, len, cap, (List.range len).map F, hcs, ⟨some x, cap, by simp, ns_get (fun q hq => ?_), ?_⟩, by simp; omega⟩
    · obtain ⟨j, hj, rfl⟩ := List.mem_map.1 hq
      exact (hF j (List.mem_range.1 hj)).2
    · by_cases h0 : len = 0
      · left; simp [h0]
      · right
        obtain ⟨b, off, spot⟩ := x
        have hc0 := (hF 0 (by omega)).1 0 (by omega)
        have hspot : spot = none := by simpa [Addr.add] using World.cell?_spot hc0
        subst hspot
        have hcell : ∀ j, j < len → ∀ t, t < 3 → w.cell? ⟨b, off + j * 3 + t, none⟩ = (F j).cs[t]? := fun j hj t ht => by
          have := (hF j hj).1 t ht
          rwa [Go.WideShapes.add_plain, ← Nat.add_assoc] at this
        refine ⟨b, off, rfl, World.block_lt_of_cell? w ⟨b, off + 0 * 3 + 0, none⟩ (hcell 0 (by omega) 0 (by omega)), fun j hj => ?_⟩
        have hj' : j < len := by simpa using hj
        rw [hget j hj']
        exact ⟨hcell j hj' 0 (by omega), hcell j hj' 1 (by omega), hcell j hj' 2 (by omega)⟩

end
end Gw
end Go.Proofs.YtdfkpehggecbaaaGreatDoor

