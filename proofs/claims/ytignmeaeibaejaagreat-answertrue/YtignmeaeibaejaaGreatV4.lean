/- PK1, PS1, PS2, RU0 -/
import Derived.Test.YtignmeaeibaejaaGreatV2
import Derived.Test.YtignmeaeibaejaaGreatV3
import Derived.Laws.AppendOwnNone
import Derived.Deep.RegionHeld3
import Derived.Deep.AppendLies
import Derived.OwnWalk
import Derived.StillTactics
import Derived.Maps.OwnSet
import Derived.WalkKit
/- Lists of places in memory. -/
namespace Go.Proofs.YtignmeaeibaejaaGreat
namespace Pc
open Go.RowKit

structure Ple where
  x : Int
  y : Int
  z : Int
  h : Int
  s : Int

def dm : Ple := ⟨0, 0, 0, 0, 0⟩
/-- Its texts are no longer than texts may be. -/
def Ple.ok (_m : Ple) : Prop := True
theorem dm_ok : dm.ok := trivial

def Row (w : World) (b off : Nat) (ms : List Ple) : Prop := ∀ j, j < ms.length →
  w.cell? ⟨b, off + j * 5, none⟩ = some (.int .i64 (ms.getD j dm).x) ∧ w.cell? ⟨b, off + j * 5 + 1, none⟩ = some (.int .i64 (ms.getD j dm).y) ∧ w.cell? ⟨b, off + j * 5 + 2, none⟩ = some (.int .i64 (ms.getD j dm).z) ∧ w.cell? ⟨b, off + j * 5 + 3, none⟩ = some (.int .i64 (ms.getD j dm).h) ∧ w.cell? ⟨b, off + j * 5 + 4, none⟩ = some (.int .i64 (ms.getD j dm).s)

/-- A slice's value, and what it holds in a world. -/
def Sl (w : World) (v : Value) (ms : List Ple) : Prop :=
  ∃ (a : Option Addr) (cap : Nat), v = .slice a ms.length cap ∧ (∀ j, (ms.getD j dm).ok) ∧
    (ms = [] ∨ ∃ b off, a = some ⟨b, off, none⟩ ∧ b < w.heap.size ∧ Row w b off ms)

def Ple.cs (m : Ple) : List Value := [.int .i64 m.x, .int .i64 m.y, .int .i64 m.z, .int .i64 m.h, .int .i64 m.s]
def fl (ms : List Ple) : List Value := ms.flatMap Ple.cs

theorem cs_len (m : Ple) : m.cs.length = 5 := rfl
theorem fl_cons (m : Ple) (r : List Ple) : fl (m :: r) = m.cs ++ fl r := by simp [fl]
theorem fl_append (a b : List Ple) : fl (a ++ b) = fl a ++ fl b := by simp [fl]
theorem fl_len : ∀ ms : List Ple, (fl ms).length = ms.length * 5
  | [] => rfl
  | m :: r => by rw [fl_cons, List.length_append, fl_len r, cs_len, List.length_cons]; omega
theorem fl_take : ∀ (ms : List Ple) (i : Nat), (fl ms).take (i * 5) = fl (ms.take i)
  | [], i => by simp [fl]
  | m :: r, 0 => by simp [fl]
  | m :: r, i + 1 => by
    rw [fl_cons, List.take_succ_cons, fl_cons, show (i + 1) * 5 = m.cs.length + i * 5 by rw [cs_len]; omega, List.take_length_add_append, fl_take r i]
theorem fl_drop : ∀ (ms : List Ple) (i : Nat), (fl ms).drop (i * 5) = fl (ms.drop i)
  | [], i => by simp [fl]
  | m :: r, 0 => by simp
  | m :: r, i + 1 => by
    rw [fl_cons, List.drop_succ_cons, show (i + 1) * 5 = m.cs.length + i * 5 by rw [cs_len]; omega, List.drop_length_add_append, fl_drop r i]
theorem cs_one (m : Ple) : ∀ v ∈ m.cs, v.oneCell' = true := by
  intro v hv; simp [Ple.cs] at hv; rcases hv with rfl | rfl | rfl | rfl | rfl <;> rfl
theorem fl_one (ms : List Ple) : ∀ v ∈ fl ms, v.oneCell' = true := by
  intro v hv
  obtain ⟨m, _, h⟩ := List.mem_flatMap.1 hv
  exact cs_one m v h
theorem fl_get (ms : List Ple) (j : Nat) (hj : j < ms.length) (t : Nat) (ht : t < 5) : (fl ms)[j * 5 + t]? = (ms.getD j dm).cs[t]? := by
  induction ms generalizing j with
  | nil => simp at hj
  | cons m r ih =>
    rw [fl_cons]
    cases j with
    | zero => rw [List.getElem?_append_left (by rw [cs_len]; omega)]; simp
    | succ j =>
      rw [List.getElem?_append_right (by rw [cs_len]; omega), cs_len, show (j + 1) * 5 + t - 5 = j * 5 + t by omega, ih j (by simpa using hj)]
      simp
theorem fl_set (ms : List Ple) (p : Nat) (hp : p < ms.length) (m : Ple) : ((((((fl ms).set (p * 5) (.int .i64 m.x)).set (p * 5 + 1) (.int .i64 m.y)).set (p * 5 + 2) (.int .i64 m.z)).set (p * 5 + 3) (.int .i64 m.h)).set (p * 5 + 4) (.int .i64 m.s)) = fl (ms.set p m) := by
  induction ms generalizing p with
  | nil => simp at hp
  | cons x r ih =>
    cases p with
    | zero => simp [fl, Ple.cs]
    | succ p =>
      have ih' := ih p (by simpa using hp)
      rw [List.set_cons_succ, fl_cons, fl_cons, ← ih']
      simp only [Nat.add_mul, Nat.one_mul]
      have e : ∀ (l : List Value) (k : Nat) (v : Value), (x.cs ++ l).set (k + 5) v = x.cs ++ l.set k v := fun l k v => by
        rw [List.set_append, if_neg (by rw [cs_len]; omega), cs_len, Nat.add_sub_cancel]
      have c : ∀ i : Nat, p * 5 + 5 + i = (p * 5 + i) + 5 := fun i => by omega
      simp only [c]
      rw [e, e, e, e, e]

abbrev Own (base : Nat) (w : World) (v : Value) (ms : List Ple) : Prop := w.ownsRow base 27 5 v ms.length (fl ms)

theorem own_of {base g G : Nat} {w : World} {cur : Array Value} {ms : List Ple} (hb : base ≤ g) (hg : w.heap[g]? = some (.cells cur 27 (0, 0))) (hs : cur.size = G * 5) (hn : ms.length ≤ G) (hG : G ≤ maxLen) (ht : cur.toList.take (ms.length * 5) = fl ms) :
    Own base w (.slice (some ⟨g, 0, none⟩) ms.length G) ms := ⟨fl_len ms, .inr ⟨g, G, cur, rfl, hb, hg, hn, hG, hs, ht⟩⟩

/-- What a call owns is a slice as any. -/
theorem Own.sl {base : Nat} {w : World} {v : Value} {ms : List Ple} (h : Own base w v ms) (hs : ∀ j, (ms.getD j dm).ok) : Sl w v ms := by
  rcases h.2 with ⟨rfl, h0⟩ | ⟨g, c, cur, rfl, hbg, hg, hnc, hcm, hcs, htake⟩
  · exact ⟨none, 0, by rw [h0], hs, .inl (List.eq_nil_of_length_eq_zero h0)⟩
  · refine ⟨_, c, rfl, hs, .inr ⟨g, 0, rfl, (Array.getElem?_eq_some_iff.1 hg).1, fun j hj => ?_⟩⟩
    have hc : ∀ t, t < 5 → w.cell? ⟨g, 0 + j * 5 + t, none⟩ = (ms.getD j dm).cs[t]? := fun t ht => by
      rw [cellsAt hg, ← fl_get ms j hj t ht, ← htake, List.getElem?_take_of_lt (by omega)]; simp
    exact ⟨hc 0 (by omega), hc 1 (by omega), hc 2 (by omega), hc 3 (by omega), hc 4 (by omega)⟩

theorem Own.below {base : Nat} {w w' : World} {v : Value} {ms : List Ple} (h : Own base w v ms) (hb : Below w.heap.size w w') : Own base w' v ms := by
  rcases h.2 with ⟨rfl, h0⟩ | ⟨g, c, cur, rfl, hbg, hg, hnc, hcm, hcs, htake⟩
  · exact ⟨h.1, .inl ⟨rfl, h0⟩⟩
  · have hlt : g < w.heap.size := (Array.getElem?_eq_some_iff.1 hg).1
    exact ⟨h.1, .inr ⟨g, c, cur, rfl, hbg, (hb.block g hlt).trans hg, hnc, hcm, hcs, htake⟩⟩

theorem Own.lt {base : Nat} {w : World} {v : Value} {ms : List Ple} (h : Own base w v ms) (k : Nat) (hk : v.ownBlock = some k) : base ≤ k ∧ k < w.heap.size := World.ownsRow.lt h k hk

theorem below_grown {base : Nat} {w w1 w2 : World} {v : Value} {ms : List Ple} (hb : Below base w w1) (h : Own base w1 v ms) (hg : w1.grownBy w2 v.ownBlock) (hbase : base ≤ w1.heap.size) : Below base w w2 :=
  hb.grown hg hbase (fun k hk => (h.lt k hk).1)

theorem own_cells {base g c : Nat} {w : World} {ms : List Ple} (h : Own base w (.slice (some ⟨g, 0, none⟩) ms.length c) ms) (j : Nat) (hj : j < ms.length) :
    w.cell? ⟨g, j * 5, none⟩ = some (.int .i64 (ms.getD j dm).x) ∧ w.cell? ⟨g, j * 5 + 1, none⟩ = some (.int .i64 (ms.getD j dm).y) ∧ w.cell? ⟨g, j * 5 + 2, none⟩ = some (.int .i64 (ms.getD j dm).z) ∧ w.cell? ⟨g, j * 5 + 3, none⟩ = some (.int .i64 (ms.getD j dm).h) ∧ w.cell? ⟨g, j * 5 + 4, none⟩ = some (.int .i64 (ms.getD j dm).s) := by
  rcases h.2 with ⟨h1, _⟩ | ⟨g', c', cur, h1, hbg, hg, hnc, hcm, hcs, htake⟩
  · cases h1
  · simp only [Value.slice.injEq, Option.some.injEq, Addr.mk.injEq] at h1
    obtain ⟨⟨rfl, _, _⟩, _, _⟩ := h1
    have hc : ∀ t, t < 5 → w.cell? ⟨g, j * 5 + t, none⟩ = (ms.getD j dm).cs[t]? := fun t ht => by
      rw [cellsAt hg, ← fl_get ms j hj t ht, ← htake, List.getElem?_take_of_lt (by omega)]; simp
    exact ⟨hc 0 (by omega), hc 1 (by omega), hc 2 (by omega), hc 3 (by omega), hc 4 (by omega)⟩

theorem own_form {base : Nat} {w : World} {v : Value} {ms : List Ple} (h : Own base w v ms) (p : Nat) (hp : p < ms.length) : ∃ g c, v = .slice (some ⟨g, 0, none⟩) ms.length c := by
  rcases h.2 with ⟨_, h0⟩ | ⟨g, c, cur, h1, _⟩
  · omega
  · exact ⟨g, c, h1⟩

theorem own_set {base g c p : Nat} {W : World} {ms : List Ple} (h : Own base W (.slice (some ⟨g, 0, none⟩) ms.length c) ms) (hp : p < ms.length) (m : Ple) :
    Own base (((((W.setCell ⟨g, p * 5, none⟩ (.int .i64 m.x)).setCell ⟨g, p * 5 + 1, none⟩ (.int .i64 m.y)).setCell ⟨g, p * 5 + 2, none⟩ (.int .i64 m.z)).setCell ⟨g, p * 5 + 3, none⟩ (.int .i64 m.h)).setCell ⟨g, p * 5 + 4, none⟩ (.int .i64 m.s)) (.slice (some ⟨g, 0, none⟩) ms.length c) (ms.set p m) := by
  have h1 := World.ownsRow.stored h (p * 5) (.int .i64 m.x)
  have h2 := World.ownsRow.stored h1.1 (p * 5 + 1) (.int .i64 m.y)
  have h3 := World.ownsRow.stored h2.1 (p * 5 + 2) (.int .i64 m.z)
  have h4 := World.ownsRow.stored h3.1 (p * 5 + 3) (.int .i64 m.h)
  have h5 := World.ownsRow.stored h4.1 (p * 5 + 4) (.int .i64 m.s)
  have e := h5.1
  rw [fl_set ms p hp m] at e
  show World.ownsRow _ _ _ _ _ (ms.set p m).length _
  rw [List.length_set]
  exact e

theorem Sl.below {w w' : World} {v : Value} {ms : List Ple} (h : Sl w v ms) (hb : Below w.heap.size w w') : Sl w' v ms := by
  obtain ⟨a, cap, rfl, hs, h⟩ := h
  refine ⟨a, cap, rfl, hs, ?_⟩
  rcases h with h | ⟨b, off, rfl, hlt, hr⟩
  · exact .inl h
  · refine .inr ⟨b, off, rfl, Nat.lt_of_lt_of_le hlt hb.size, fun j hj => ?_⟩
    obtain ⟨hc, _⟩ := bcell hb
    obtain ⟨c0, c1, c2, c3, c4⟩ := hr j hj
    exact ⟨(hc _ _ hlt).trans c0, (hc _ _ hlt).trans c1, (hc _ _ hlt).trans c2, (hc _ _ hlt).trans c3, (hc _ _ hlt).trans c4⟩

theorem Row.later {w w' : World} {b off : Nat} {ms : List Ple} (hr : Row w b off ms) (hb : Below w.heap.size w w') (hlt : b < w.heap.size) : Row w' b off ms := fun j hj => by
  obtain ⟨hc, _⟩ := bcell hb
  obtain ⟨c0, c1, c2, c3, c4⟩ := hr j hj
  exact ⟨(hc _ _ hlt).trans c0, (hc _ _ hlt).trans c1, (hc _ _ hlt).trans c2, (hc _ _ hlt).trans c3, (hc _ _ hlt).trans c4⟩

theorem Own.mono {base base' : Nat} {w : World} {v : Value} {ms : List Ple} (h : Own base w v ms) (hb : base' ≤ base) : Own base' w v ms := by
  rcases h.2 with ⟨rfl, h0⟩ | ⟨g, c, cur, rfl, hbg, hg, hnc, hcm, hcs, htake⟩
  · exact ⟨h.1, .inl ⟨rfl, h0⟩⟩
  · exact ⟨h.1, .inr ⟨g, c, cur, rfl, Nat.le_trans hb hbg, hg, hnc, hcm, hcs, htake⟩⟩

theorem own_nil (base : Nat) (w : World) : Own base w (.slice none 0 0) [] := World.ownsRow_nil w base 27 5

theorem ns_mem {ms : List Ple} (h : ∀ j, (ms.getD j dm).ok) : ∀ m ∈ ms, (m).ok := by
  intro m hm
  obtain ⟨j, hj, rfl⟩ := List.getElem_of_mem hm
  have := h j
  simpa [List.getD, List.getElem?_eq_getElem hj] using this
theorem ns_get {ms : List Ple} (h : ∀ m ∈ ms, (m).ok) : ∀ j, (ms.getD j dm).ok := by
  intro j
  by_cases hj : j < ms.length
  · have := h ms[j] (List.getElem_mem hj)
    simpa [List.getD, List.getElem?_eq_getElem hj] using this
  · rw [List.getD, List.getElem?_eq_none (Nat.le_of_not_lt hj)]; exact dm_ok

theorem own_names {base : Nat} {w : World} {v : Value} {ms : List Ple} (h : Own base w v ms) (hs : ∀ m ∈ ms, (m).ok) : Sl w v ms := h.sl (ns_get hs)

theorem sl_one (w : World) (b cap : Nat) (m : Ple) (hm : (m).ok) (hg : w.heap[b]? = some (.cells #[.int .i64 m.x, .int .i64 m.y, .int .i64 m.z, .int .i64 m.h, .int .i64 m.s] 27 (0, 0))) : Sl w (.slice (some ⟨b, 0, none⟩) 1 cap) [m] := by
  refine ⟨_, cap, rfl, ns_get (fun x hx => by simp at hx; subst hx; exact hm), .inr ⟨b, 0, rfl, (Array.getElem?_eq_some_iff.1 hg).1, fun j hj => ?_⟩⟩
  have : j = 0 := by simpa using hj
  subst this
  exact ⟨cellsAt hg (0 + 0 * 5), cellsAt hg (0 + 0 * 5 + 1), cellsAt hg (0 + 0 * 5 + 2), cellsAt hg (0 + 0 * 5 + 3), cellsAt hg (0 + 0 * 5 + 4)⟩

theorem own_snoc {base : Nat} {w : World} {v : Value} {L : List Ple} {m : Ple} (h : w.ownsRow base 27 5 v (L.length + 1) (fl L ++ m.cs)) : Own base w v (L ++ [m]) := by
  have e : fl (L ++ [m]) = fl L ++ m.cs := by rw [fl_append, fl_cons]; simp [fl]
  show w.ownsRow base 27 5 v (L ++ [m]).length (fl (L ++ [m]))
  rw [e, List.length_append]
  exact h

end Pc
end Go.Proofs.YtignmeaeibaejaaGreat

/- Places that are told: places, and the check of all. -/
namespace Go.Proofs.YtignmeaeibaejaaGreat
open Go.RowKit

theorem Tryz.infoPl : (Tryz.prog.info? 27).map (fun i => (i.zero, i.size, i.bytes)) = some (some (.agg #[.int .i64 0, .int .i64 0, .int .i64 0, .int .i64 0, .int .i64 0]), 5, 40) := by kernel_rfl

def plc (m : Wh.Whe) : Pc.Ple := ⟨m.x, m.y, m.z, m.h, m.s⟩
def plcs (ms : List Wh.Whe) : List Pc.Ple := ms.map plc
theorem plcs_snoc {ms : List Wh.Whe} {k : Nat} (hk : k < ms.length) : plcs (ms.take (k + 1)) = plcs (ms.take k) ++ [plc (ms.getD k Wh.dm)] := by
  rw [plcs, plcs, List.take_succ_eq_append_getElem hk, List.map_append]
  simp [List.getD, List.getElem?_eq_getElem hk]
theorem plcs_len (ms : List Wh.Whe) : (plcs ms).length = ms.length := by simp [plcs]

set_option maxHeartbeats 1600000 in
set_option maxRecDepth 100000 in
theorem places_any (ms : List Wh.Whe) (v : Value) (w : World) (hv : Wh.Sl w v ms) (hn : ms.length ≤ 100) :
    Calls Tryz.prog 88 #[v] w fun e w' => ∃ v', e = .returned v' ∧ Pc.Own w.heap.size w' v' (plcs ms) ∧ Below w.heap.size w w' := by
  obtain ⟨i0, hi0, hz0, hzs, hzb⟩ := info_parts Tryz.infoPl
  obtain ⟨pa, ca, rfl, _, ha⟩ := hv
  have HA : Hid (ms = [] ∨ ∃ b off, pa = some ⟨b, off, none⟩ ∧ b < w.heap.size ∧ Wh.Row w b off ms) := ha
  clear ha
  generalize hna : ms.length = n at *
  have HN : Hid (ms.length = n) := hna
  clear hna
  go_enter Tryz.func88, Tryz.ntmps88
  go_wp2_with fail
  go_loopw [3, 8] (fun o i w' => ∃ k : Nat, k ≤ n ∧ i = .int .i64 k ∧ Below w.heap.size w w' ∧ Hid (Pc.Own w.heap.size w' o (plcs (ms.take k)))) (fun _ i _ => n - (intOf i).toNat)
  case atStart => exact ⟨0, Nat.zero_le _, rfl, Below.refl _ _, Pc.own_nil _ _⟩
  case round =>
    obtain ⟨k, hk, rfl, hbl, HO⟩ := hrel
    have hsz := hbl.size
    have hll : (plcs (ms.take k)).length ≤ 100 := by rw [plcs_len]; have h2 : (ms.take k).length ≤ k := List.length_take_le _ _; omega
    by_cases hlt : k < n
    · obtain ⟨b1, o1, hp1, hl1, hr1⟩ : ∃ b off, pa = some ⟨b, off, none⟩ ∧ b < w.heap.size ∧ Wh.Row w b off ms := by
        rcases HA.out with h | h
        · have := HN.out; rw [h] at this; simp at this; omega
        · exact h
      subst hp1
      obtain ⟨hbc, hbf⟩ := bcell hbl
      obtain ⟨c0, c1, c2, c3, c4, c5⟩ := hr1 k (by rw [HN.out]; exact hlt)
      have HST : Hid (plcs (ms.take (k + 1)) = plcs (ms.take k) ++ [plc (ms.getD k Wh.dm)]) := plcs_snoc (by rw [HN.out]; exact hlt)
      clear hr1
      generalize hL2 : plcs (ms.take (k + 1)) = L2 at *
      have HL2 : Hid (plcs (ms.take (k + 1)) = L2) := hL2
      clear hL2
      generalize plcs (ms.take k) = L at *
      generalize ms.getD k Wh.dm = m at *
      obtain ⟨nd, x, y, z, h, s⟩ := m
      simp only [plc] at *
      go_wp2_with (at_builtin; refine wpList_append_own _ rfl _ _ 122 rfl w.heap.size 27 i0 _ 5 40 Tryz.underlying122 hi0 hz0 hzs hzb rfl (by omega) _ L.length (Pc.fl L) rfl ?hown ⟨wr.heap.size + 1, 0, none⟩ 1 1 (Pc.Ple.mk x y z h s).cs rfl rfl ?hnews (Pc.cs_one _) ?h63 ?hbytes ?hbase ?_)
      case hown => exact HO.out.below (((Below.refl _ _).alloc (Nat.le_refl _) _).alloc (by simp) _)
      case hnews => (intro j u hj; rw [Addr.add_lit]; exact (cell_topL (by simp)).trans (by simpa [Pc.Ple.cs] using hj))
      case h63 => (unfold maxLen; omega)
      case hbytes => omega
      case hbase => (simp; omega)
      intro v' w2 r1 r2 r3
      have HBX : Hid (Below w.heap.size w w2) := ((hbl.alloc hsz _).alloc (by simp; omega) _).grown r2 (by simp; omega) (fun j hj => (HO.out.lt j hj).1)
      have HOX : Hid (Pc.Own w.heap.size w2 v' (L ++ [⟨x, y, z, h, s⟩])) := Pc.own_snoc r1
      clear r1 r2 r3
      go_wp2_with fail
      exact ⟨⟨k + 1, by omega, by go_num, HBX.out, by rw [HL2.out, HST.out]; exact HOX.out⟩, by simp [intOf]; omega⟩
    · have hkn : k = n := by omega
      subst hkn
      have HFO : Hid (Pc.Own w.heap.size wr u3 (plcs ms)) := by
        have h := HO.out
        rw [List.take_of_length_le (by rw [HN.out]; exact Nat.le_refl _)] at h
        exact h
      go_wp2_with fail
      go_ret
      exact ⟨u3, rfl, HFO.out, hbl⟩

def toPl (m : Pc.Ple) : Pl := ⟨m.x, m.y, m.z, m.h, m.s⟩
theorem prow_of {w : World} {b off : Nat} {ms : List Pc.Ple} (h : Pc.Row w b off ms) : PRow w b off (ms.map toPl) := fun k hk => by
  have hk' : k < ms.length := by simpa using hk
  have e : (ms.map toPl).getD k dp = toPl (ms.getD k Pc.dm) := by simp [List.getD, List.getElem?_eq_getElem hk']
  obtain ⟨h0, h1, h2, h3, h4⟩ := h k hk'
  rw [e]
  exact ⟨h0, h1, h2, h3, h4⟩

set_option maxHeartbeats 1600000 in
set_option maxRecDepth 100000 in
theorem sort_many (p : Pl) (a1 a2 : Option Addr) (n m c1 c2 : Nat) (w : World) (h : 100 < n ∨ 100 < m) :
    Calls Tryz.prog 73 #[.agg #[.int .i64 p.x, .int .i64 p.y, .int .i64 p.z, .int .i64 p.h, .int .i64 p.s], .slice a1 n c1, .slice a2 m c2] w fun e w' => e = .returned (.tuple #[.slice none 0 0, .int .i64 2]) ∧ Below w.heap.size w w' := by
  have hc : decide (100 < (n : Int)) = true ∨ (decide (100 < (n : Int)) = false ∧ decide (100 < (m : Int)) = true) := by
    simp only [decide_eq_true_eq, decide_eq_false_iff_not]; omega
  clear h
  rcases hc with h1 | ⟨h1, h2⟩
  all_goals
    go_enter Tryz.func73, Tryz.ntmps73
    go_wp2_with fail
    go_ret2
    exact ⟨rfl, (Below.refl _ _).alloc (Nat.le_refl _) _⟩

end Go.Proofs.YtignmeaeibaejaaGreat

/- The check of all places, in Sort. -/
namespace Go.Proofs.YtignmeaeibaejaaGreat
open Go.RowKit

abbrev Pl.v5 (p : Pl) : List Value := [.int .i64 p.x, .int .i64 p.y, .int .i64 p.z, .int .i64 p.h, .int .i64 p.s]

theorem own_prow {base g c n : Nat} {w : World} {p : Pl} {ms : List Pc.Ple} (hn : ms.length = n) (h : w.ownsRow base 27 5 (.slice (some ⟨g, 0, none⟩) (1 + n) c) (1 + n) (p.v5 ++ Pc.fl ms)) : PRow w g 0 (p :: ms.map toPl) := by
  have e : p.v5 ++ Pc.fl ms = Pc.fl (⟨p.x, p.y, p.z, p.h, p.s⟩ :: ms) := by rw [Pc.fl_cons]; rfl
  rw [e] at h
  have h2 : Pc.Own base w (.slice (some ⟨g, 0, none⟩) (Pc.Ple.mk p.x p.y p.z p.h p.s :: ms).length c) (⟨p.x, p.y, p.z, p.h, p.s⟩ :: ms) := by
    show World.ownsRow _ _ _ _ _ _ _
    rw [show (Pc.Ple.mk p.x p.y p.z p.h p.s :: ms).length = 1 + n by rw [List.length_cons, hn]; omega]
    exact h
  have h3 : Pc.Row w g 0 (⟨p.x, p.y, p.z, p.h, p.s⟩ :: ms) := fun j hj => by
    have := Pc.own_cells h2 j hj
    simpa only [Nat.zero_add] using this
  have h4 := prow_of h3
  exact h4

theorem own_from {X : World} {p : Pl} {b base : Nat} (hX : X.heap[b]? = some (.cells #[.int .i64 p.x, .int .i64 p.y, .int .i64 p.z, .int .i64 p.h, .int .i64 p.s] 27 (0, 0))) (hb : base ≤ b) : X.ownsRow base 27 5 (.slice (some ⟨b, 0, none⟩) 1 1) 1 p.v5 :=
  ⟨rfl, .inr ⟨b, 1, _, rfl, hb, hX, Nat.le_refl _, by decide, rfl, rfl⟩⟩
theorem own_news {base g n c m s : Nat} {e : TypeId} {w : World} {xs : List Value} (h : w.ownsRow base e s (.slice (some ⟨g, 0, none⟩) n c) m xs) : ∀ j u, xs[j]? = some u → w.cell? (Addr.add ⟨g, 0, none⟩ j) = some u := fun j u hj => by
  have hl : j < xs.length := (List.getElem?_eq_some_iff.1 hj).1
  rw [Addr.add_lit, Nat.zero_add]
  rcases h.2 with ⟨h1, _⟩ | ⟨g', c', cur, h1, hbg, hg, hnc, hcm, hcs, htake⟩
  · cases h1
  · simp only [Value.slice.injEq, Option.some.injEq, Addr.mk.injEq] at h1
    obtain ⟨⟨rfl, _, _⟩, _, _⟩ := h1
    rw [cellsAt hg, ← hj, ← htake, List.getElem?_take_of_lt (by rw [← h.1]; exact hl)]
    simp
theorem from_way1 {W w3 : World} {p : Pl} {H : Nat} (hs : W.heap.size = H) (h : Below (W.alloc (.cells #[.int .i64 p.x, .int .i64 p.y, .int .i64 p.z, .int .i64 p.h, .int .i64 p.s] 27)).drew.heap.size (W.alloc (.cells #[.int .i64 p.x, .int .i64 p.y, .int .i64 p.z, .int .i64 p.h, .int .i64 p.s] 27)).drew w3) :
    w3.heap[H]? = some (.cells #[.int .i64 p.x, .int .i64 p.y, .int .i64 p.z, .int .i64 p.h, .int .i64 p.s] 27 (0, 0)) := by
  rw [h.block H (by simp; omega), ← hs]
  exact heap_alloc_new W _

set_option maxHeartbeats 6400000 in
set_option maxRecDepth 100000 in
theorem sort_bad1 (p : Pl) (ms : List Wh.Whe) (v : Value) (a2 : Option Addr) (m c2 : Nat) (w : World) (hv : Wh.Sl w v ms) (hn : ms.length ≤ 100) (hpos : 0 < ms.length) (hm : m ≤ 100) (hb : chkPs (p :: (plcs ms).map toPl) = 3) :
    Calls Tryz.prog 73 #[.agg #[.int .i64 p.x, .int .i64 p.y, .int .i64 p.z, .int .i64 p.h, .int .i64 p.s], v, .slice a2 m c2] w fun e w' => e = .returned (.tuple #[.slice none 0 0, .int .i64 3]) ∧ Below w.heap.size w w' := by
  obtain ⟨i0, hi0, hz0, hzs, hzb⟩ := info_parts Tryz.infoPl
  have HV : Hid (Wh.Sl w v ms) := hv
  have hpl : (plcs ms).length = ms.length := plcs_len ms
  have HP : Hid (∀ W, Wh.Sl W v ms → Calls Tryz.prog 88 #[v] W fun e w' => ∃ g c, e = .returned (.slice (some ⟨g, 0, none⟩) ms.length c) ∧ Pc.Own W.heap.size w' (.slice (some ⟨g, 0, none⟩) ms.length c) (plcs ms) ∧ Below W.heap.size W w') := fun W h => by
    refine (places_any ms v W h hn).mono ?_
    rintro e w' ⟨v', rfl, ho, hbl⟩
    obtain ⟨g, c, hvv⟩ := Pc.own_form ho 0 (by omega)
    subst hvv
    rw [hpl] at ho
    exact ⟨g, c, by rw [hpl], ho, hbl⟩
  have HK : Hid (∀ g c W, PRow W g 0 (p :: (plcs ms).map toPl) → Calls Tryz.prog 87 #[.slice (some ⟨g, 0, none⟩) (1 + ms.length) c] W fun e w' => e = .returned (.int .i64 3) ∧ Below W.heap.size W w') := fun g c W h => by
    have h2 := checkAllP_any (p :: (plcs ms).map toPl) g 0 (1 + ms.length) c W (by simp [hpl]; omega) h (by omega)
    rw [hb] at h2
    exact h2
  obtain ⟨pa, ca, hvv, _, _⟩ := hv
  subst hvv
  have h1 : decide (100 < (ms.length : Int)) = false := by simp; omega
  have h2 : decide (100 < (m : Int)) = false := by simp; omega
  clear hb
  generalize hna : ms.length = n at *
  have HN : Hid (ms.length = n) := hna
  clear hna
  have HPL : Hid ((plcs ms).length = n) := hpl
  clear hpl
  go_enter Tryz.func73, Tryz.ntmps73
  go_wp2_with fail
  obtain ⟨W, hW⟩ : ∃ W, W = w.alloc (.cells #[.int .i64 p.x, .int .i64 p.y, .int .i64 p.z, .int .i64 p.h, .int .i64 p.s] 27) := ⟨_, rfl⟩
  rw [← hW]
  have hbW : Below w.heap.size w W := by rw [hW]; exact (Below.refl _ _).alloc (Nat.le_refl _) _
  have hga : W.heap[w.heap.size]? = some (.cells #[.int .i64 p.x, .int .i64 p.y, .int .i64 p.z, .int .i64 p.h, .int .i64 p.s] 27 (0, 0)) := by rw [hW]; exact heap_alloc_new w _
  have hsW : W.heap.size = w.heap.size + 1 := by rw [hW]; simp
  have n0 : W.cell? ⟨w.heap.size, 0, none⟩ = some (.int .i64 p.x) := cellsAt hga 0
  have n1 : W.cell? ⟨w.heap.size, 1, none⟩ = some (.int .i64 p.y) := cellsAt hga 1
  have n2 : W.cell? ⟨w.heap.size, 2, none⟩ = some (.int .i64 p.z) := cellsAt hga 2
  have n3 : W.cell? ⟨w.heap.size, 3, none⟩ = some (.int .i64 p.h) := cellsAt hga 3
  have n4 : W.cell? ⟨w.heap.size, 4, none⟩ = some (.int .i64 p.s) := cellsAt hga 4
  have HVW : Hid (∀ W', Below W.heap.size W W' → Wh.Sl W' (.slice pa n ca) ms) := fun W' h => (HV.out.below hbW).below h
  have HBW : Hid (Below w.heap.size w W) := hbW
  have e0 := World.new_ne W _ n0
  have e1 := World.new_ne W _ n1
  have e2 := World.new_ne W _ n2
  have e3 := World.new_ne W _ n3
  have e4 := World.new_ne W _ n4
  clear hga hW hbW
  have h63 : 1 + n ≤ maxLen := by unfold maxLen; omega
  have hbt : (1 + n) * 40 ≤ 140737488355328 := by omega
  have hfl : (Pc.fl (plcs ms)).length = n * 5 := by rw [Pc.fl_len, HPL.out]
  have hav : (Value.slice (some ⟨w.heap.size + 1, 0, none⟩) 1 1).ownBlock ≠ some w.heap.size := fun h => by simp [Value.ownBlock] at h
  go_region_held3 (fun w' => w'.cell? ⟨w.heap.size, 0, none⟩ = some (.int .i64 p.x) ∧ w'.cell? ⟨w.heap.size, 1, none⟩ = some (.int .i64 p.y) ∧ w'.cell? ⟨w.heap.size, 2, none⟩ = some (.int .i64 p.z) ∧ w'.cell? ⟨w.heap.size, 3, none⟩ = some (.int .i64 p.h) ∧ w'.cell? ⟨w.heap.size, 4, none⟩ = some (.int .i64 p.s))
    (first
      | go_keep
      | (go_split_ands
         refine ⟨?_, ?_, ?_, ?_, ?_⟩
         all_goals ((rw [hb6.cell (by show w.heap.size < _; have h8 := hgrow.size; have h9 := hb3.size; simp at h8 h9; omega)]; assumption)))
      | (go_split_ands
         refine ⟨?_, ?_, ?_, ?_, ?_⟩
         all_goals ((rw [hgrow.cell_far _ (by show w.heap.size < _; have := hb3.size; simp at this ⊢; omega) (Ne.symm hav)]; assumption)))
      | (go_split_ands
         refine ⟨?_, ?_, ?_, ?_, ?_⟩
         all_goals ((rw [hgrow.cell_far _ (by show w.heap.size < _; have := hb3.size; simp at this ⊢; omega) (by simp [Value.ownBlock]; have := hb3.size; simp at this; omega)]; assumption)))
      | (go_split_ands
         refine ⟨?_, ?_, ?_, ?_, ?_⟩
         all_goals ((rw [hb3.cell (by simp; omega)]; first | assumption | simp [*])))
      )
    (first
      | (go_at_call 88; refine (HP.out _ (HVW.out _ ?_)).mono ?_; (focus (repeat (first | exact Below.refl _ _ | refine Below.drew ?_ | refine Below.alloc ?_ (by simp) _))); rintro e w3 ⟨g, c, rfl, ho3, hb3⟩)
      | (go_at_call 87; refine (HK.out _ _ _ (own_prow HPL.out hown1)).mono ?_; rintro e w6 ⟨rfl, hb6⟩)
      | (refine step_append_lies _ (by rfl) _ _ _ (by rfl) w.heap.size 27 i0 _ 5 40 Tryz.underlying122 hi0 hz0 hzs hzb rfl (by omega) (.slice (some ⟨w.heap.size + 1, 0, none⟩) 1 1) 1 p.v5 (by rfl) (own_from (from_way1 hsW hb3) (by omega)) ⟨g, 0, none⟩ n c (Pc.fl (plcs ms)) (by rfl) hfl (own_news ho3) (Pc.fl_one _) hpos h63 hbt (by have := hb3.size; simp at this; omega) _ rfl ?_
         intro gg cap w5 hown1 hgrow hat hlt)
      | (refine step_append_lies _ (by rfl) _ _ _ (by rfl) w.heap.size 27 i0 _ 5 40 Tryz.underlying122 hi0 hz0 hzs hzb rfl (by omega) (.slice (some ⟨w3.heap.size, 0, none⟩) 1 1) 1 p.v5 (by rfl) (own_from (heap_alloc_new w3 _) (by have := hb3.size; simp at this; omega)) ⟨g, 0, none⟩ n c (Pc.fl (plcs ms)) (by rfl) hfl (own_news (ho3.below ((Below.refl _ _).alloc (Nat.le_refl _) _))) (Pc.fl_one _) hpos h63 hbt (by have := hb3.size; simp at this ⊢; omega) _ rfl ?_
         intro gg cap w5 hown1 hgrow hat hlt))
  all_goals
    have HB6 : Hid (Below w.heap.size w w6) := by
      first
        | exact ((((HBW.out.alloc (by omega) _).drew.trans (hb3.mono (by simp; omega))).grown hgrow (by have := hb3.size; simp at this; omega) (fun j hj => by simp [Value.ownBlock] at hj; omega))).trans (hb6.mono (by have h8 := hgrow.size; have h9 := hb3.size; simp at h8 h9; omega))
        | exact (((HBW.out.drew.trans (hb3.mono (by simp; omega))).alloc (by have := hb3.size; simp at this; omega) _).grown hgrow (by have := hb3.size; simp at this ⊢; omega) (fun j hj => by simp [Value.ownBlock] at hj; have := hb3.size; simp at this; omega)).trans (hb6.mono (by have h8 := hgrow.size; have h9 := hb3.size; simp at h8 h9; omega))
    clear hb6 hgrow hown1 hat hlt hb3 ho3 hav
    go_wp2_with fail
    go_ret2
    exact ⟨rfl, HB6.out⟩

set_option maxHeartbeats 400000 in
theorem places_none (a : Option Addr) (c : Nat) (w : World) :
    Calls Tryz.prog 88 #[.slice a 0 c] w fun e w' => e = .returned (.slice none 0 0) ∧ w' = w := by
  go_enter Tryz.func88, Tryz.ntmps88
  go_wp2_with fail
  go_loopw [3, 8] (fun o i w' => o = .slice none 0 0 ∧ i = .int .i64 0 ∧ w' = w) (fun _ _ _ => 0)
  case atStart => exact ⟨rfl, rfl, rfl⟩
  case round =>
    obtain ⟨rfl, rfl, hw⟩ := hrel
    subst hw
    go_wp2_with fail
    go_ret
    exact ⟨rfl, rfl⟩
theorem prow_from {X : World} {p : Pl} {b : Nat} (hX : X.heap[b]? = some (.cells #[.int .i64 p.x, .int .i64 p.y, .int .i64 p.z, .int .i64 p.h, .int .i64 p.s] 27 (0, 0))) : PRow X b 0 [p] := fun k hk => by
  have : k = 0 := by simpa using hk
  subst this
  exact ⟨cellsAt hX 0, cellsAt hX 1, cellsAt hX 2, cellsAt hX 3, cellsAt hX 4⟩

set_option maxHeartbeats 6400000 in
set_option maxRecDepth 100000 in
theorem sort_bad0 (p : Pl) (a1 a2 : Option Addr) (m c1 c2 : Nat) (w : World) (hm : m ≤ 100) (hb : chkPs [p] = 3) :
    Calls Tryz.prog 73 #[.agg #[.int .i64 p.x, .int .i64 p.y, .int .i64 p.z, .int .i64 p.h, .int .i64 p.s], .slice a1 0 c1, .slice a2 m c2] w fun e w' => e = .returned (.tuple #[.slice none 0 0, .int .i64 3]) ∧ Below w.heap.size w w' := by
  have HP : Hid (∀ W, Calls Tryz.prog 88 #[.slice a1 0 c1] W fun e w' => e = .returned (.slice none 0 0) ∧ Below W.heap.size W w') := fun W => by
    refine (places_none a1 c1 W).mono ?_
    rintro e w' ⟨rfl, rfl⟩
    exact ⟨rfl, Below.refl _ _⟩
  have HK : Hid (∀ g W, PRow W g 0 [p] → Calls Tryz.prog 87 #[.slice (some ⟨g, 0, none⟩) 1 1] W fun e w' => e = .returned (.int .i64 3) ∧ Below W.heap.size W w') := fun g W h => by
    have h2 := checkAllP_any [p] g 0 1 1 W rfl h (by omega)
    rw [hb] at h2
    exact h2
  have h2 : decide (100 < (m : Int)) = false := by simp; omega
  clear hb
  go_enter Tryz.func73, Tryz.ntmps73
  go_wp2_with fail
  obtain ⟨W, hW⟩ : ∃ W, W = w.alloc (.cells #[.int .i64 p.x, .int .i64 p.y, .int .i64 p.z, .int .i64 p.h, .int .i64 p.s] 27) := ⟨_, rfl⟩
  rw [← hW]
  have hbW : Below w.heap.size w W := by rw [hW]; exact (Below.refl _ _).alloc (Nat.le_refl _) _
  have hga : W.heap[w.heap.size]? = some (.cells #[.int .i64 p.x, .int .i64 p.y, .int .i64 p.z, .int .i64 p.h, .int .i64 p.s] 27 (0, 0)) := by rw [hW]; exact heap_alloc_new w _
  have hsW : W.heap.size = w.heap.size + 1 := by rw [hW]; simp
  have n0 : W.cell? ⟨w.heap.size, 0, none⟩ = some (.int .i64 p.x) := cellsAt hga 0
  have n1 : W.cell? ⟨w.heap.size, 1, none⟩ = some (.int .i64 p.y) := cellsAt hga 1
  have n2 : W.cell? ⟨w.heap.size, 2, none⟩ = some (.int .i64 p.z) := cellsAt hga 2
  have n3 : W.cell? ⟨w.heap.size, 3, none⟩ = some (.int .i64 p.h) := cellsAt hga 3
  have n4 : W.cell? ⟨w.heap.size, 4, none⟩ = some (.int .i64 p.s) := cellsAt hga 4
  have HBW : Hid (Below w.heap.size w W) := hbW
  have e0 := World.new_ne W _ n0
  have e1 := World.new_ne W _ n1
  have e2 := World.new_ne W _ n2
  have e3 := World.new_ne W _ n3
  have e4 := World.new_ne W _ n4
  clear hga hW hbW
  go_region_held3 (fun w' => w'.cell? ⟨w.heap.size, 0, none⟩ = some (.int .i64 p.x) ∧ w'.cell? ⟨w.heap.size, 1, none⟩ = some (.int .i64 p.y) ∧ w'.cell? ⟨w.heap.size, 2, none⟩ = some (.int .i64 p.z) ∧ w'.cell? ⟨w.heap.size, 3, none⟩ = some (.int .i64 p.h) ∧ w'.cell? ⟨w.heap.size, 4, none⟩ = some (.int .i64 p.s))
    (first
      | go_keep
      | (go_split_ands
         refine ⟨?_, ?_, ?_, ?_, ?_⟩
         all_goals ((rw [hb6.cell (by show w.heap.size < _; have h9 := hb3.size; simp at h9 ⊢; omega)]; first | assumption | simp [*])))
      | (go_split_ands
         refine ⟨?_, ?_, ?_, ?_, ?_⟩
         all_goals ((rw [hb3.cell (by simp; omega)]; first | assumption | simp [*])))
      )
    (first
      | (go_at_call 88; refine (HP.out _).mono ?_; rintro e w3 ⟨rfl, hb3⟩)
      | (go_at_call 87; refine (HK.out _ _ (prow_from (from_way1 hsW hb3))).mono ?_; rintro e w6 ⟨rfl, hb6⟩)
      | (go_at_call 87; refine (HK.out _ _ (prow_from (heap_alloc_new w3 _))).mono ?_; rintro e w6 ⟨rfl, hb6⟩))
  all_goals
    have HB6 : Hid (Below w.heap.size w w6) := by
      first
        | exact ((HBW.out.alloc (by omega) _).drew.trans (hb3.mono (by simp; omega))).trans (hb6.mono (by have h9 := hb3.size; simp at h9; omega))
        | exact ((HBW.out.drew.trans (hb3.mono (by simp; omega))).alloc (by have := hb3.size; simp at this; omega) _).trans (hb6.mono (by have h9 := hb3.size; simp at h9 ⊢; omega))
    clear hb6 hb3
    go_wp2_with fail
    go_ret2
    exact ⟨rfl, HB6.out⟩

end Go.Proofs.YtignmeaeibaejaaGreat

/- Names that were met, in a map: plain mathematics. -/
namespace Go.Proofs.YtignmeaeibaejaaGreat
open Go.RowKit Go.WideMaps Go.Maps

abbrev kS (s : ByteArray) : Lit := .string s.data.toList
theorem kS_key (s : ByteArray) : WideAt.IsKeyLit (kS s) := by simp [WideAt.IsKeyLit]
theorem kS_ne {a b : ByteArray} (h : a ≠ b) : kS a ≠ kS b := fun e => h (by
  have h2 : a.data.toList = b.data.toList := by injection e
  obtain ⟨⟨a⟩⟩ := a
  obtain ⟨⟨b⟩⟩ := b
  simp at h2
  rw [h2])

/-- Where each name was met last, among the first k. -/
def Dm (ns : List ByteArray) : Nat → DataW Unit
  | 0 => .map []
  | k + 1 => (Dm ns k).put (kS (ns.getD k ByteArray.empty)) (.lit (.int .i64 k))
theorem Dm_tidy (ns : List ByteArray) : ∀ k, Tidy (Dm ns k)
  | 0 => tidy_empty
  | k + 1 => (Dm_tidy ns k).put (kS_key _) _
theorem Dm_has (ns : List ByteArray) (s : ByteArray) : ∀ k, Maps.has (Dm ns k) (kS s) = true ↔ ∃ j, j < k ∧ ns.getD j ByteArray.empty = s
  | 0 => by simp [Dm, Maps.has]
  | k + 1 => by
    by_cases h : ns.getD k ByteArray.empty = s
    · subst h
      rw [Dm, has_put_same (Dm_tidy ns k).isMap (kS_key _)]
      exact ⟨fun _ => ⟨k, by omega, rfl⟩, fun _ => rfl⟩
    · rw [Dm, has_put_other (kS_ne (Ne.symm h)), Dm_has ns s k]
      constructor
      · rintro ⟨j, hj, e⟩; exact ⟨j, by omega, e⟩
      · rintro ⟨j, hj, e⟩
        by_cases hjk : j = k
        · subst hjk; exact absurd e h
        · exact ⟨j, by omega, e⟩
theorem Dm_step (ns : List ByteArray) (k : Nat) : Maps.size (Dm ns (k + 1)) = if Maps.has (Dm ns k) (kS (ns.getD k ByteArray.empty)) = true then Maps.size (Dm ns k) else Maps.size (Dm ns k) + 1 := by
  rw [Dm, size_put (Dm_tidy ns k)]
theorem Dm_size_le (ns : List ByteArray) : ∀ k, Maps.size (Dm ns k) ≤ k
  | 0 => by simp [Dm, Maps.size]
  | k + 1 => by
    have := Dm_size_le ns k
    rw [Dm_step]
    split <;> omega
theorem Dm_size_eq (ns : List ByteArray) : ∀ k, (∀ i j, i < j → j < k → ns.getD i ByteArray.empty ≠ ns.getD j ByteArray.empty) → Maps.size (Dm ns k) = k
  | 0, _ => by simp [Dm, Maps.size]
  | k + 1, h => by
    have h1 := Dm_size_eq ns k (fun i j hi hj => h i j hi (by omega))
    have h2 : ¬ Maps.has (Dm ns k) (kS (ns.getD k ByteArray.empty)) = true := by
      rw [Dm_has]
      rintro ⟨j, hj, e⟩
      exact h j k hj (by omega) e
    rw [Dm_step, if_neg h2, h1]
theorem Dm_size_lt (ns : List ByteArray) : ∀ k, (∃ i j, i < j ∧ j < k ∧ ns.getD i ByteArray.empty = ns.getD j ByteArray.empty) → Maps.size (Dm ns k) < k
  | 0, ⟨i, j, _, hj, _⟩ => by omega
  | k + 1, ⟨i, j, hij, hj, e⟩ => by
    rw [Dm_step]
    by_cases hjk : j = k
    · subst hjk
      rw [if_pos ((Dm_has ns _ j).2 ⟨i, hij, e⟩)]
      have := Dm_size_le ns j
      omega
    · have := Dm_size_lt ns k ⟨i, j, hij, by omega, e⟩
      split <;> omega
theorem Dm_at (ns : List ByteArray) (s : ByteArray) (z : DataW Unit) : ∀ k j, j < k → ns.getD j ByteArray.empty = s → (∀ i, j < i → i < k → ns.getD i ByteArray.empty ≠ s) → (Dm ns k).atKey (kS s) z = .lit (.int .i64 j)
  | 0, j, hj, _, _ => by omega
  | k + 1, j, hj, e, h => by
    by_cases hjk : j = k
    · subst hjk
      subst e
      rw [Dm, atKey_put_same (Dm_tidy ns j).isMap (kS_key _)]
    · rw [Dm, atKey_put_other (kS_ne (fun x => h k (by omega) (by omega) x.symm))]
      exact Dm_at ns s z k j (by omega) e (fun i hi hk => h i hi (by omega))

end Go.Proofs.YtignmeaeibaejaaGreat

