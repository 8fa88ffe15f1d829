/- SK1, SK2, SKF -/
import Derived.Test.YtdfkpehggecbaaaGreatDoorV1
/- Lists of services in memory. -/
namespace Go.Proofs.YtdfkpehggecbaaaGreatDoor
namespace Sv
open Go.RowKit

structure Svc where
  node : ByteArray
  idn : ByteArray
  name : ByteArray
  tag : ByteArray
  addr : Int
  port : Int
  passing : Bool
  version : Int
  gone : Bool

def dm : Svc := ⟨ByteArray.empty, ByteArray.empty, ByteArray.empty, ByteArray.empty, 0, 0, false, 0, false⟩
/-- Its texts are no longer than texts may be. -/
def Svc.ok (m : Svc) : Prop := m.node.size ≤ maxLen ∧ m.idn.size ≤ maxLen ∧ m.name.size ≤ maxLen ∧ m.tag.size ≤ maxLen
theorem dm_ok : dm.ok := by simp [Svc.ok, dm]

def Row (w : World) (b off : Nat) (ms : List Svc) : Prop := ∀ j, j < ms.length →
  w.cell? ⟨b, off + j * 9, none⟩ = some (.string (ms.getD j dm).node) ∧ w.cell? ⟨b, off + j * 9 + 1, none⟩ = some (.string (ms.getD j dm).idn) ∧ w.cell? ⟨b, off + j * 9 + 2, none⟩ = some (.string (ms.getD j dm).name) ∧ w.cell? ⟨b, off + j * 9 + 3, none⟩ = some (.string (ms.getD j dm).tag) ∧ w.cell? ⟨b, off + j * 9 + 4, none⟩ = some (.int .i64 (ms.getD j dm).addr) ∧ w.cell? ⟨b, off + j * 9 + 5, none⟩ = some (.int .i64 (ms.getD j dm).port) ∧ w.cell? ⟨b, off + j * 9 + 6, none⟩ = some (.bool (ms.getD j dm).passing) ∧ w.cell? ⟨b, off + j * 9 + 7, none⟩ = some (.int .i64 (ms.getD j dm).version) ∧ w.cell? ⟨b, off + j * 9 + 8, none⟩ = some (.bool (ms.getD j dm).gone)

/-- A slice's value, and what it holds in a world. -/
def Sl (w : World) (v : Value) (ms : List Svc) : Prop :=
  ∃ (a : Option Addr) (cap : Nat), v = .slice a ms.length cap ∧ (∀ j, (ms.getD j dm).ok) ∧
    (ms = [] ∨ ∃ b off, a = some ⟨b, off, none⟩ ∧ b < w.heap.size ∧ Row w b off ms)

def Svc.cs (m : Svc) : List Value := [.string m.node, .string m.idn, .string m.name, .string m.tag, .int .i64 m.addr, .int .i64 m.port, .bool m.passing, .int .i64 m.version, .bool m.gone]
def fl (ms : List Svc) : List Value := ms.flatMap Svc.cs

theorem cs_len (m : Svc) : m.cs.length = 9 := rfl
theorem fl_cons (m : Svc) (r : List Svc) : fl (m :: r) = m.cs ++ fl r := by simp [fl]
theorem fl_append (a b : List Svc) : fl (a ++ b) = fl a ++ fl b := by simp [fl]
theorem fl_len : ∀ ms : List Svc, (fl ms).length = ms.length * 9
  | [] => rfl
  | m :: r => by rw [fl_cons, List.length_append, fl_len r, cs_len, List.length_cons]; omega
theorem fl_take : ∀ (ms : List Svc) (i : Nat), (fl ms).take (i * 9) = fl (ms.take i)
  | [], i => by simp [fl]
  | m :: r, 0 => by simp [fl]
  | m :: r, i + 1 => by
    rw [fl_cons, List.take_succ_cons, fl_cons, show (i + 1) * 9 = m.cs.length + i * 9 by rw [cs_len]; omega, List.take_length_add_append, fl_take r i]
theorem fl_drop : ∀ (ms : List Svc) (i : Nat), (fl ms).drop (i * 9) = fl (ms.drop i)
  | [], i => by simp [fl]
  | m :: r, 0 => by simp
  | m :: r, i + 1 => by
    rw [fl_cons, List.drop_succ_cons, show (i + 1) * 9 = m.cs.length + i * 9 by rw [cs_len]; omega, List.drop_length_add_append, fl_drop r i]
theorem cs_one (m : Svc) : ∀ v ∈ m.cs, v.oneCell' = true := by
  intro v hv; simp [Svc.cs] at hv; rcases hv with rfl | rfl | rfl | rfl | rfl | rfl | rfl | rfl | rfl <;> rfl
theorem fl_one (ms : List Svc) : ∀ v ∈ fl ms, v.oneCell' = true := by
  intro v hv
  obtain ⟨m, _, h⟩ := List.mem_flatMap.1 hv
  exact cs_one m v h
theorem fl_get (ms : List Svc) (j : Nat) (hj : j < ms.length) (t : Nat) (ht : t < 9) : (fl ms)[j * 9 + t]? = (ms.getD j dm).cs[t]? := by
  induction ms generalizing j with
  | nil => simp at hj
  | cons m r ih =>
    rw [fl_cons]
    cases j with
    | zero => rw [List.getElem?_append_left (by rw [cs_len]; omega)]; simp
    | succ j =>
      rw [List.getElem?_append_right (by rw [cs_len]; omega), cs_len, show (j + 1) * 9 + t - 9 = j * 9 + t by omega, ih j (by simpa using hj)]
      simp
theorem fl_set (ms : List Svc) (p : Nat) (hp : p < ms.length) (m : Svc) : ((((((((((fl ms).set (p * 9) (.string m.node)).set (p * 9 + 1) (.string m.idn)).set (p * 9 + 2) (.string m.name)).set (p * 9 + 3) (.string m.tag)).set (p * 9 + 4) (.int .i64 m.addr)).set (p * 9 + 5) (.int .i64 m.port)).set (p * 9 + 6) (.bool m.passing)).set (p * 9 + 7) (.int .i64 m.version)).set (p * 9 + 8) (.bool m.gone)) = fl (ms.set p m) := by
  induction ms generalizing p with
  | nil => simp at hp
  | cons x r ih =>
    cases p with
    | zero => simp [fl, Svc.cs]
    | succ p =>
      have ih' := ih p (by simpa using hp)
      rw [List.set_cons_succ, fl_cons, fl_cons, ← ih']
      simp only [Nat.add_mul, Nat.one_mul]
      have e : ∀ (l : List Value) (k : Nat) (v : Value), (x.cs ++ l).set (k + 9) v = x.cs ++ l.set k v := fun l k v => by
        rw [List.set_append, if_neg (by rw [cs_len]; omega), cs_len, Nat.add_sub_cancel]
      have c : ∀ i : Nat, p * 9 + 9 + i = (p * 9 + i) + 9 := fun i => by omega
      simp only [c]
      rw [e, e, e, e, e, e, e, e, e]

abbrev Own (base : Nat) (w : World) (v : Value) (ms : List Svc) : Prop := w.ownsRow base 60 9 v ms.length (fl ms)

theorem own_of {base g G : Nat} {w : World} {cur : Array Value} {ms : List Svc} (hb : base ≤ g) (hg : w.heap[g]? = some (.cells cur 60 (0, 0))) (hs : cur.size = G * 9) (hn : ms.length ≤ G) (hG : G ≤ maxLen) (ht : cur.toList.take (ms.length * 9) = fl ms) :
    Own base w (.slice (some ⟨g, 0, none⟩) ms.length G) ms := ⟨fl_len ms, .inr ⟨g, G, cur, rfl, hb, hg, hn, hG, hs, ht⟩⟩

/-- What a call owns is a slice as any. -/
theorem Own.sl {base : Nat} {w : World} {v : Value} {ms : List Svc} (h : Own base w v ms) (hs : ∀ j, (ms.getD j dm).ok) : Sl w v ms := by
  rcases h.2 with ⟨rfl, h0⟩ | ⟨g, c, cur, rfl, hbg, hg, hnc, hcm, hcs, htake⟩
  · exact ⟨none, 0, by rw [h0], hs, .inl (List.eq_nil_of_length_eq_zero h0)⟩
  · refine ⟨_, c, rfl, hs, .inr ⟨g, 0, rfl, (Array.getElem?_eq_some_iff.1 hg).1, fun j hj => ?_⟩⟩
    have hc : ∀ t, t < 9 → w.cell? ⟨g, 0 + j * 9 + t, none⟩ = (ms.getD j dm).cs[t]? := fun t ht => by
      rw [cellsAt hg, ← fl_get ms j hj t ht, ← htake, List.getElem?_take_of_lt (by omega)]; simp
    exact ⟨hc 0 (by omega), hc 1 (by omega), hc 2 (by omega), hc 3 (by omega), hc 4 (by omega), hc 5 (by omega), hc 6 (by omega), hc 7 (by omega), hc 8 (by omega)⟩

theorem Own.below {base : Nat} {w w' : World} {v : Value} {ms : List Svc} (h : Own base w v ms) (hb : Below w.heap.size w w') : Own base w' v ms := by
  rcases h.2 with ⟨rfl, h0⟩ | ⟨g, c, cur, rfl, hbg, hg, hnc, hcm, hcs, htake⟩
  · exact ⟨h.1, .inl ⟨rfl, h0⟩⟩
  · have hlt : g < w.heap.size := (Array.getElem?_eq_some_iff.1 hg).1
    exact ⟨h.1, .inr ⟨g, c, cur, rfl, hbg, (hb.block g hlt).trans hg, hnc, hcm, hcs, htake⟩⟩

theorem Own.lt {base : Nat} {w : World} {v : Value} {ms : List Svc} (h : Own base w v ms) (k : Nat) (hk : v.ownBlock = some k) : base ≤ k ∧ k < w.heap.size := World.ownsRow.lt h k hk

theorem below_grown {base : Nat} {w w1 w2 : World} {v : Value} {ms : List Svc} (hb : Below base w w1) (h : Own base w1 v ms) (hg : w1.grownBy w2 v.ownBlock) (hbase : base ≤ w1.heap.size) : Below base w w2 :=
  hb.grown hg hbase (fun k hk => (h.lt k hk).1)

theorem own_cells {base g c : Nat} {w : World} {ms : List Svc} (h : Own base w (.slice (some ⟨g, 0, none⟩) ms.length c) ms) (j : Nat) (hj : j < ms.length) :
    w.cell? ⟨g, j * 9, none⟩ = some (.string (ms.getD j dm).node) ∧ w.cell? ⟨g, j * 9 + 1, none⟩ = some (.string (ms.getD j dm).idn) ∧ w.cell? ⟨g, j * 9 + 2, none⟩ = some (.string (ms.getD j dm).name) ∧ w.cell? ⟨g, j * 9 + 3, none⟩ = some (.string (ms.getD j dm).tag) ∧ w.cell? ⟨g, j * 9 + 4, none⟩ = some (.int .i64 (ms.getD j dm).addr) ∧ w.cell? ⟨g, j * 9 + 5, none⟩ = some (.int .i64 (ms.getD j dm).port) ∧ w.cell? ⟨g, j * 9 + 6, none⟩ = some (.bool (ms.getD j dm).passing) ∧ w.cell? ⟨g, j * 9 + 7, none⟩ = some (.int .i64 (ms.getD j dm).version) ∧ w.cell? ⟨g, j * 9 + 8, none⟩ = some (.bool (ms.getD j dm).gone) := by
  rcases h.2 with ⟨h1, _⟩ | ⟨g', c', cur, h1, hbg, hg, hnc, hcm, hcs, htake⟩
  · cases h1
  · simp only [Value.slice.injEq, Option.some.injEq, Addr.mk.injEq] at h1
    obtain ⟨⟨rfl, _, _⟩, _, _⟩ := h1
    have hc : ∀ t, t < 9 → w.cell? ⟨g, j * 9 + t, none⟩ = (ms.getD j dm).cs[t]? := fun t ht => by
      rw [cellsAt hg, ← fl_get ms j hj t ht, ← htake, List.getElem?_take_of_lt (by omega)]; simp
    exact ⟨hc 0 (by omega), hc 1 (by omega), hc 2 (by omega), hc 3 (by omega), hc 4 (by omega), hc 5 (by omega), hc 6 (by omega), hc 7 (by omega), hc 8 (by omega)⟩

theorem own_form {base : Nat} {w : World} {v : Value} {ms : List Svc} (h : Own base w v ms) (p : Nat) (hp : p < ms.length) : ∃ g c, v = .slice (some ⟨g, 0, none⟩) ms.length c := by
  rcases h.2 with ⟨_, h0⟩ | ⟨g, c, cur, h1, _⟩
  · omega
  · exact ⟨g, c, h1⟩

theorem own_set {base g c p : Nat} {W : World} {ms : List Svc} (h : Own base W (.slice (some ⟨g, 0, none⟩) ms.length c) ms) (hp : p < ms.length) (m : Svc) :
    Own base (((((((((W.setCell ⟨g, p * 9, none⟩ (.string m.node)).setCell ⟨g, p * 9 + 1, none⟩ (.string m.idn)).setCell ⟨g, p * 9 + 2, none⟩ (.string m.name)).setCell ⟨g, p * 9 + 3, none⟩ (.string m.tag)).setCell ⟨g, p * 9 + 4, none⟩ (.int .i64 m.addr)).setCell ⟨g, p * 9 + 5, none⟩ (.int .i64 m.port)).setCell ⟨g, p * 9 + 6, none⟩ (.bool m.passing)).setCell ⟨g, p * 9 + 7, none⟩ (.int .i64 m.version)).setCell ⟨g, p * 9 + 8, none⟩ (.bool m.gone)) (.slice (some ⟨g, 0, none⟩) ms.length c) (ms.set p m) := by
  have h1 := World.ownsRow.stored h (p * 9) (.string m.node)
  have h2 := World.ownsRow.stored h1.1 (p * 9 + 1) (.string m.idn)
  have h3 := World.ownsRow.stored h2.1 (p * 9 + 2) (.string m.name)
  have h4 := World.ownsRow.stored h3.1 (p * 9 + 3) (.string m.tag)
  have h5 := World.ownsRow.stored h4.1 (p * 9 + 4) (.int .i64 m.addr)
  have h6 := World.ownsRow.stored h5.1 (p * 9 + 5) (.int .i64 m.port)
  have h7 := World.ownsRow.stored h6.1 (p * 9 + 6) (.bool m.passing)
  have h8 := World.ownsRow.stored h7.1 (p * 9 + 7) (.int .i64 m.version)
  have h9 := World.ownsRow.stored h8.1 (p * 9 + 8) (.bool m.gone)
  have e := h9.1
  rw [fl_set ms p hp m] at e
  show World.ownsRow _ _ _ _ _ (ms.set p m).length _
  rw [List.length_set]
  exact e

theorem Sl.below {w w' : World} {v : Value} {ms : List Svc} (h : Sl w v ms) (hb : Below w.heap.size w w') : Sl w' v ms := by
  obtain ⟨a, cap, rfl, hs, h⟩ := h
  refine ⟨a, cap, rfl, hs, ?_⟩
  rcases h with h | ⟨b, off, rfl, hlt, hr⟩
  · exact .inl h
  · refine .inr ⟨b, off, rfl, Nat.lt_of_lt_of_le hlt hb.size, fun j hj => ?_⟩
    obtain ⟨hc, _⟩ := bcell hb
    obtain ⟨c0, c1, c2, c3, c4, c5, c6, c7, c8⟩ := hr j hj
    exact ⟨(hc _ _ hlt).trans c0, (hc _ _ hlt).trans c1, (hc _ _ hlt).trans c2, (hc _ _ hlt).trans c3, (hc _ _ hlt).trans c4, (hc _ _ hlt).trans c5, (hc _ _ hlt).trans c6, (hc _ _ hlt).trans c7, (hc _ _ hlt).trans c8⟩

theorem Row.later {w w' : World} {b off : Nat} {ms : List Svc} (hr : Row w b off ms) (hb : Below w.heap.size w w') (hlt : b < w.heap.size) : Row w' b off ms := fun j hj => by
  obtain ⟨hc, _⟩ := bcell hb
  obtain ⟨c0, c1, c2, c3, c4, c5, c6, c7, c8⟩ := hr j hj
  exact ⟨(hc _ _ hlt).trans c0, (hc _ _ hlt).trans c1, (hc _ _ hlt).trans c2, (hc _ _ hlt).trans c3, (hc _ _ hlt).trans c4, (hc _ _ hlt).trans c5, (hc _ _ hlt).trans c6, (hc _ _ hlt).trans c7, (hc _ _ hlt).trans c8⟩

theorem Own.mono {base base' : Nat} {w : World} {v : Value} {ms : List Svc} (h : Own base w v ms) (hb : base' ≤ base) : Own base' w v ms := by
  rcases h.2 with ⟨rfl, h0⟩ | ⟨g, c, cur, rfl, hbg, hg, hnc, hcm, hcs, htake⟩
  · exact ⟨h.1, .inl ⟨rfl, h0⟩⟩
  · exact ⟨h.1, .inr ⟨g, c, cur, rfl, Nat.le_trans hb hbg, hg, hnc, hcm, hcs, htake⟩⟩

theorem own_nil (base : Nat) (w : World) : Own base w (.slice none 0 0) [] := World.ownsRow_nil w base 60 9

theorem ns_mem {ms : List Svc} (h : ∀ j, (ms.getD j dm).ok) : ∀ m ∈ ms, (m).ok := by
  intro m hm
  obtain ⟨j, hj, rfl⟩ := List.getElem_of_mem hm
  have := h j
  simpa [List.getD, List.getElem?_eq_getElem hj] using this
theorem ns_get {ms : List Svc} (h : ∀ m ∈ ms, (m).ok) : ∀ j, (ms.getD j dm).ok := by
  intro j
  by_cases hj : j < ms.length
  · have := h ms[j] (List.getElem_mem hj)
    simpa [List.getD, List.getElem?_eq_getElem hj] using this
  · rw [List.getD, List.getElem?_eq_none (Nat.le_of_not_lt hj)]; exact dm_ok

theorem own_names {base : Nat} {w : World} {v : Value} {ms : List Svc} (h : Own base w v ms) (hs : ∀ m ∈ ms, (m).ok) : Sl w v ms := h.sl (ns_get hs)

theorem sl_one (w : World) (b cap : Nat) (m : Svc) (hm : (m).ok) (hg : w.heap[b]? = some (.cells #[.string m.node, .string m.idn, .string m.name, .string m.tag, .int .i64 m.addr, .int .i64 m.port, .bool m.passing, .int .i64 m.version, .bool m.gone] 60 (0, 0))) : Sl w (.slice (some ⟨b, 0, none⟩) 1 cap) [m] := by
  refine ⟨_, cap, rfl, ns_get (fun x hx => by simp at hx; subst hx; exact hm), .inr ⟨b, 0, rfl, (Array.getElem?_eq_some_iff.1 hg).1, fun j hj => ?_⟩⟩
  have : j = 0 := by simpa using hj
  subst this
  exact ⟨cellsAt hg (0 + 0 * 9), cellsAt hg (0 + 0 * 9 + 1), cellsAt hg (0 + 0 * 9 + 2), cellsAt hg (0 + 0 * 9 + 3), cellsAt hg (0 + 0 * 9 + 4), cellsAt hg (0 + 0 * 9 + 5), cellsAt hg (0 + 0 * 9 + 6), cellsAt hg (0 + 0 * 9 + 7), cellsAt hg (0 + 0 * 9 + 8)⟩

theorem own_snoc {base : Nat} {w : World} {v : Value} {L : List Svc} {m : Svc} (h : w.ownsRow base 60 9 v (L.length + 1) (fl L ++ m.cs)) : Own base w v (L ++ [m]) := by
  have e : fl (L ++ [m]) = fl L ++ m.cs := by rw [fl_append, fl_cons]; simp [fl]
  show w.ownsRow base 60 9 v (L ++ [m]).length (fl (L ++ [m]))
  rw [e, List.length_append]
  exact h

end Sv
end Go.Proofs.YtdfkpehggecbaaaGreatDoor

/- slices.Insert at services: the library's own text, walked. -/
namespace Go.Proofs.YtdfkpehggecbaaaGreatDoor
namespace Sv
open Go.RowKit

theorem Tryz.info60 : (Tryz.prog.info? 60).map (fun i => (i.zero, i.size, i.bytes)) = some (some (.agg #[.string ⟨#[]⟩, .string ⟨#[]⟩, .string ⟨#[]⟩, .string ⟨#[]⟩, .int .i64 0, .int .i64 0, .bool false, .int .i64 0, .bool false]), 9, 104) := by kernel_rfl

theorem size60 : (Tryz.prog.info? 60).map (·.size) = some 9 := by
  obtain ⟨i, hi, h1, h2, h3⟩ := info_parts Tryz.info60
  rw [hi]; simp [h2]

theorem sizeOf60 (w : World) : (Go.sizeOf 60).run Tryz.prog w = .ok 9 w := by
  obtain ⟨i, hi, h1, h2, h3⟩ := info_parts Tryz.info60
  simp [Go.sizeOf, typeInfo, hi, h2]

end Sv
end Go.Proofs.YtdfkpehggecbaaaGreatDoor

/- services as plain lists: their order, which of two is newer, what Check says, what is known behind one more. -/
namespace Go.Proofs.YtdfkpehggecbaaaGreatDoor
namespace Sv
open Go.RowKit

/-- E1: rising by node, and of one node by id. -/
def ord : Svc → Svc → Int := RL.lex (fun a b => cmpI a.node b.node) (fun a b => cmpI a.idn b.idn)
theorem keyed : RL.Keyed ord := RL.keyed_lex (RL.keyed_txt Svc.node) (RL.keyed_txt Svc.idn)
/-- E2. -/
def newC : Svc → Svc → Int := RL.lex (fun a b => a.version - b.version) (RL.lex (fun a b => RL.bI a.gone - RL.bI b.gone) (RL.lex (fun a b => cmpI a.name b.name) (RL.lex (fun a b => cmpI a.tag b.tag) (RL.lex (fun a b => a.addr - b.addr) (RL.lex (fun a b => a.port - b.port) (fun a b => RL.bI a.passing - RL.bI b.passing))))))
theorem keyedC : RL.Keyed newC := RL.keyed_lex (RL.keyed_int Svc.version) (RL.keyed_lex (RL.keyed_int fun a : Svc => RL.bI a.gone) (RL.keyed_lex (RL.keyed_txt Svc.name) (RL.keyed_lex (RL.keyed_txt Svc.tag) (RL.keyed_lex (RL.keyed_int Svc.addr) (RL.keyed_lex (RL.keyed_int Svc.port) (RL.keyed_int fun a : Svc => RL.bI a.passing))))))
def newE (a b : Svc) : Bool := decide (0 < newC a b)
theorem newest : RL.Newest ord newE := RL.newest_of keyedC fun a b h1 h2 => by
  obtain ⟨n1, n2⟩ := RL.lex_zero h1
  obtain ⟨h3, h2⟩ := RL.lex_zero h2
  obtain ⟨h4, h2⟩ := RL.lex_zero h2
  obtain ⟨h5, h2⟩ := RL.lex_zero h2
  obtain ⟨h6, h2⟩ := RL.lex_zero h2
  obtain ⟨h7, h2⟩ := RL.lex_zero h2
  obtain ⟨h8, h9⟩ := RL.lex_zero h2
  have e1 : a.node = b.node := (cmpI_eq _ _).1 n1
  have e2 : a.idn = b.idn := (cmpI_eq _ _).1 n2
  have e3 : a.version = b.version := by omega
  have e4 : a.gone = b.gone := RL.bI_inj h4
  have e5 : a.name = b.name := (cmpI_eq _ _).1 h5
  have e6 : a.tag = b.tag := (cmpI_eq _ _).1 h6
  have e7 : a.addr = b.addr := by omega
  have e8 : a.port = b.port := by omega
  have e9 : a.passing = b.passing := RL.bI_inj h9
  obtain ⟨a_node, a_idn, a_name, a_tag, a_addr, a_port, a_passing, a_version, a_gone⟩ := a
  obtain ⟨b_node, b_idn, b_name, b_tag, b_addr, b_port, b_passing, b_version, b_gone⟩ := b
  simp only at e1 e2 e3 e4 e5 e6 e7 e8 e9
  subst e1 e2 e3 e4 e5 e6 e7 e8 e9
  rfl

abbrev Rise (ms : List Svc) : Prop := RL.Rise ord ms
abbrev hearL (ms : List Svc) (m : Svc) : List Svc := RL.hear ord newE ms m
abbrev joinL (a b : List Svc) : List Svc := RL.join ord newE a b
abbrev At (ms : List Svc) (t : Svc) (p : Nat) (f : Bool) : Prop := RL.At ord dm ms t p f
abbrev risesB (ms : List Svc) : Bool := RL.risesB ord ms
theorem rise_mono {ms : List Svc} (h : Rise ms) (t : Svc) : ∀ i j, i ≤ j → j < ms.length → ord (ms.getD j dm) t < 0 → ord (ms.getD i dm) t < 0 := RL.rise_mono ord dm keyed h t
theorem rises_allO (ms : List Svc) (h : ∀ j, j + 1 < ms.length → ord (ms.getD j dm) (ms.getD (j + 1) dm) < 0) : risesB ms = true := RL.rises_all ord dm ms h
theorem rises_getO (ms : List Svc) (h : risesB ms = true) : ∀ j, j + 1 < ms.length → ord (ms.getD j dm) (ms.getD (j + 1) dm) < 0 := RL.rises_get ord dm ms h
theorem at_any (ms : List Svc) (hr : Rise ms) (t : Svc) : ∃ p f, At ms t p f := RL.at_any ord dm keyed ms hr t
theorem at_uniq {ms : List Svc} {t : Svc} {p q : Nat} {f e : Bool} (h : At ms t p f) (k : At ms t q e) : p = q ∧ f = e := RL.at_uniq ord dm h k
theorem hearL_at (ms : List Svc) (m : Svc) (p : Nat) (f : Bool) (h : At ms m p f) :
    hearL ms m = if f = true then (if newE m (ms.getD p dm) = true then ms.set p m else ms) else ms.take p ++ m :: ms.drop p := RL.hear_at ord newE dm ms m p f h
theorem hearL_mem (ms : List Svc) (m x : Svc) (h : x ∈ hearL ms m) : x = m ∨ x ∈ ms := RL.hear_mem ord newE ms m x h
theorem hearL_rise (ms : List Svc) (m : Svc) (h : Rise ms) : Rise (hearL ms m) := RL.hear_rise ord newE keyed ms m h
theorem hearL_len (ms : List Svc) (m : Svc) : ms.length ≤ (hearL ms m).length ∧ (hearL ms m).length ≤ ms.length + 1 := RL.hear_len ord newE ms m
theorem joinL_rise (b a : List Svc) (h : Rise a) : Rise (joinL a b) := RL.join_rise ord newE keyed b a h
theorem joinL_len (b a : List Svc) : (joinL a b).length ≤ a.length + b.length := RL.join_len ord newE b a
theorem joinL_mem (b a : List Svc) (x : Svc) (h : x ∈ joinL a b) : x ∈ a ∨ x ∈ b := RL.join_mem ord newE b a x h
theorem joinL_take (a b : List Svc) (j : Nat) (hj : j < b.length) : joinL a (b.take (j + 1)) = hearL (joinL a (b.take j)) (b.getD j dm) := RL.join_take ord newE dm a b j hj
theorem joinL_nil (b : List Svc) (h : Rise b) : joinL [] b = b := RL.join_nil ord newE b h
theorem ns_hear {ms : List Svc} {m : Svc} (h : ∀ m ∈ ms, m.ok) (hm : m.ok) : ∀ x ∈ hearL ms m, x.ok := by
  intro x hx
  rcases hearL_mem ms m x hx with rfl | hx
  · exact hm
  · exact h x hx
theorem ns_join (b a : List Svc) (ha : ∀ m ∈ a, m.ok) (hb : ∀ m ∈ b, m.ok) : ∀ x ∈ joinL a b, x.ok := by
  intro x hx
  rcases joinL_mem b a x hx with h | h
  · exact ha x h
  · exact hb x h

def tagB (t : ByteArray) : Bool := decide (t = ByteArray.empty) || labB t
/-- E1 of one service. -/
def Svc.e (m : Svc) : Int :=
  if (labB m.node && (labB m.idn && (labB m.name && tagB m.tag))) = true then (if (within m.addr 0 4294967295 && (within m.port 0 65535 && within m.version 1 1000000)) = true then 0 else 3) else 1


def firstE : List Svc → Int
  | [] => 0
  | m :: r => if m.e = 0 then firstE r else m.e
theorem firstE_zero : ∀ (ms : List Svc), (∀ j, j < ms.length → (ms.getD j dm).e = 0) → firstE ms = 0
  | [], _ => rfl
  | m :: r, h => by
    have h0 := h 0 (by simp)
    simp only [List.getD_cons_zero] at h0
    rw [firstE, if_pos h0]
    exact firstE_zero r fun j hj => by have := h (j + 1) (by simpa using hj); simpa using this
theorem firstE_at : ∀ (ms : List Svc) (k : Nat), k < ms.length → (∀ j, j < k → (ms.getD j dm).e = 0) → (ms.getD k dm).e ≠ 0 → firstE ms = (ms.getD k dm).e
  | [], k, h, _, _ => by simp at h
  | m :: r, 0, _, _, hne => by
    simp only [List.getD_cons_zero] at hne ⊢
    rw [firstE, if_neg hne]
  | m :: r, k + 1, h, hz, hne => by
    have h0 := hz 0 (by omega)
    simp only [List.getD_cons_zero] at h0
    rw [firstE, if_pos h0, List.getD_cons_succ]
    rw [List.getD_cons_succ] at hne
    exact firstE_at r k (by simpa using h) (fun j hj => by have := hz (j + 1) (by omega); simpa using this) hne
theorem firstE_mem : ∀ (ms : List Svc), firstE ms = 0 → ∀ m ∈ ms, m.e = 0
  | [], _, m, hm => by simp at hm
  | x :: r, h, m, hm => by
    rw [firstE] at h
    split at h
    · rename_i hx
      rcases List.mem_cons.1 hm with rfl | hm
      · exact hx
      · exact firstE_mem r h m hm
    · rename_i hx; exact absurd h hx
theorem firstE_all : ∀ (ms : List Svc), (∀ m ∈ ms, m.e = 0) → firstE ms = 0
  | [], _ => rfl
  | x :: r, h => by rw [firstE, if_pos (h x (by simp))]; exact firstE_all r fun m hm => h m (by simp [hm])

/-- What Check says. -/
def chk (ms : List Svc) : Int := if 40 < ms.length then 2 else if firstE ms = 0 then (if risesB ms = true then 0 else 4) else firstE ms

theorem chk_e (ms : List Svc) (k : Nat) (hn : ms.length ≤ 40) (hk : k < ms.length) (hz : ∀ j, j < k → (ms.getD j dm).e = 0) (hne : (ms.getD k dm).e ≠ 0) : chk ms = (ms.getD k dm).e := by
  have h := firstE_at ms k hk hz hne
  rw [chk, if_neg (by omega), h, if_neg hne]
theorem chk_r (ms : List Svc) (hn : ms.length ≤ 40) (hz : ∀ j, j < ms.length → (ms.getD j dm).e = 0) : chk ms = if risesB ms = true then 0 else 4 := by
  rw [chk, if_neg (by omega), firstE_zero ms hz, if_pos rfl]
theorem chk_4 (ms : List Svc) (k : Nat) (hn : ms.length ≤ 40) (hz : ∀ j, j < ms.length → (ms.getD j dm).e = 0) (hk : k + 1 < ms.length) (hl : ¬ ord (ms.getD k dm) (ms.getD (k + 1) dm) < 0) : chk ms = 4 := by
  rw [chk_r ms hn hz, if_neg]
  intro h
  exact hl (rises_getO ms h k hk)
theorem chk_0 (ms : List Svc) (hn : ms.length ≤ 40) (hz : ∀ j, j < ms.length → (ms.getD j dm).e = 0) (hl : ∀ j, j + 1 < ms.length → ord (ms.getD j dm) (ms.getD (j + 1) dm) < 0) : chk ms = 0 := by
  rw [chk_r ms hn hz, if_pos (rises_allO ms hl)]
theorem chk_zero {ms : List Svc} (h : chk ms = 0) : ms.length ≤ 40 ∧ Rise ms ∧ firstE ms = 0 := by
  unfold chk at h
  split at h
  · omega
  · split at h
    · rename_i h1 h2
      split at h
      · rename_i h3
        exact ⟨by omega, RL.rise_of ord keyed ms h3, h2⟩
      · omega
    · rename_i h1 h2; exact absurd h h2
theorem chk_of {ms : List Svc} (h1 : ms.length ≤ 40) (h2 : Rise ms) (h3 : ∀ m ∈ ms, m.e = 0) : chk ms = 0 := by
  rw [chk, if_neg (by omega), firstE_all ms h3, if_pos rfl, if_pos (RL.rises_of ord ms h2)]
theorem chk_one (m : Svc) : chk [m] = m.e := by
  have h1 : firstE [m] = m.e := by
    rw [firstE]
    split
    · rename_i h; rw [h]; rfl
    · rfl
  rw [chk, if_neg (by simp), h1]
  split
  · rename_i h; rw [h]; exact if_pos rfl
  · rfl
theorem chk_nil : chk [] = 0 := rfl

def chkTwo (a b : List Svc) : Int := if chk a = 0 then chk b else chk a
/-- What is there behind k lists. -/
def stg (a b : List Svc) (k : Nat) : List Svc := if k = 0 then [] else if k = 1 then a else joinL a b
/-- Join's errno. -/
def joinE (a b : List Svc) : Int := if chkTwo a b = 0 then (if 40 < (joinL a b).length then 2 else 0) else chkTwo a b

end Sv
end Go.Proofs.YtdfkpehggecbaaaGreatDoor

