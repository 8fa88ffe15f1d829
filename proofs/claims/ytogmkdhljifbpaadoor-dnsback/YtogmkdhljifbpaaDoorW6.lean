/- F3, F4, F5, Q6, Q7 -/
import Derived.Test.YtogmkdhljifbpaaDoorW1
import Derived.Test.YtogmkdhljifbpaaDoorW5
import Derived.Lib.Builder
import Derived.OwnWalk
import Derived.Lib.OthersKept
import Derived.Maps.AppendAt
import Derived.Deep.RegionHeld3
import Derived.StillTactics
import Derived.Test.YtogmkdhljifbpaaDoorW2
/- The writer's builder: copyCheck, WriteByte. -/
namespace Go.Proofs.YtogmkdhljifbpaaDoor
open Go.RowKit

theorem Tryd.infoByte : (Tryd.prog.info? 5).map (fun i => (i.zero, i.size, i.bytes)) = some (some (.int .u8 0), 1, 1) := by kernel_rfl
theorem Tryd.sizeBuilder : (Tryd.prog.info? 79).map (·.size) = some 2 := by kernel_rfl
theorem Tryd.liesWriter : liesAt Tryd.prog Tryd.prog.depth 81 (2 / Tryd.prog.cellsOf 81) 0 79 1 = true := by kernel_rfl

abbrev WAt (B b : Nat) (p : Value) (bs : List Value) (w : World) : Prop := Lib.BuilderAt 81 5 B b p bs w
def IsW (B b : Nat) (bs : List Value) (w : World) : Prop := WAt B b (.pointer none) bs w ∨ WAt B b (.pointer (some ⟨b, 0, none⟩)) bs w

/-- The block in which the builder at b has its bytes. -/
def bufOf (w : World) (b : Nat) : Option Nat := (w.cell? ⟨b, 1, none⟩).bind Value.ownBlock
/-- All that was there stays, the builder at b and its bytes aside; these lie where they lay, or anew. -/
def Kq (b : Nat) (w w' : World) : Prop := b < w.heap.size → (∀ k, k < w.heap.size → k ≠ b → some k ≠ bufOf w b → w'.heap[k]? = w.heap[k]?) ∧ (bufOf w' b = bufOf w b ∨ ∀ k, bufOf w' b = some k → w.heap.size ≤ k)
/-- What lay below, lies; and so does what is no row of bytes, the builder's own block aside. -/
structure Kp (B b : Nat) (w w' : World) : Prop where
  bel : Below B w w'
  oth : Lib.OthersKept 5 (some b) w w'
  kq : Kq b w w'
theorem Kq.refl (b : Nat) (w : World) : Kq b w w := fun _ => ⟨fun _ _ _ _ => rfl, .inl rfl⟩
theorem Kq.trans {b : Nat} {w w1 w2 : World} (h : Kq b w w1) (k : Kq b w1 w2) (hs : w.heap.size ≤ w1.heap.size) : Kq b w w2 := fun hb => by
  obtain ⟨h1, h2⟩ := h hb
  obtain ⟨k1, k2⟩ := k (Nat.lt_of_lt_of_le hb hs)
  refine ⟨fun j hj hjb hjn => ?_, ?_⟩
  · refine (k1 j (Nat.lt_of_lt_of_le hj hs) hjb fun e => ?_).trans (h1 j hj hjb hjn)
    rcases h2 with h2 | h2
    · exact hjn (e.trans h2)
    · have := h2 j e.symm; omega
  · rcases k2 with k2 | k2
    · rcases h2 with h2 | h2
      · exact .inl (k2.trans h2)
      · exact .inr fun j hj => h2 j (k2 ▸ hj)
    · exact .inr fun j hj => Nat.le_trans hs (k2 j hj)
theorem Kp.refl (B b : Nat) (w : World) : Kp B b w w := ⟨Below.refl _ _, Lib.OthersKept.refl _ _ _, Kq.refl b w⟩
theorem Kp.trans {B b : Nat} {w w1 w2 : World} (h : Kp B b w w1) (k : Kp B b w1 w2) : Kp B b w w2 := ⟨h.bel.trans k.bel, h.oth.trans k.oth, h.kq.trans k.kq h.bel.size⟩
theorem Kp.drew {B b : Nat} {w w1 : World} (h : Kp B b w w1) : Kp B b w w1.drew := ⟨h.bel.drew, h.oth.drew, h.kq⟩
theorem Kp.size {B b : Nat} {w w1 : World} (h : Kp B b w w1) : w.heap.size ≤ w1.heap.size := h.bel.size
theorem Kq.step {b : Nat} {w1 w2 : World} {p v v' : Value} {T : TypeId} (hb1 : w1.heap[b]? = some (.cells #[p, v] T (0, 0))) (hb2 : w2.heap[b]? = some (.cells #[p, v] T (0, 0))) (hg : ∀ k, k < w1.heap.size → some k ≠ v.ownBlock → w2.heap[k]? = w1.heap[k]?) (hat : v'.ownBlock = v.ownBlock ∨ ∀ k, v'.ownBlock = some k → w1.heap.size ≤ k) : Kq b w1 (w2.setCell ⟨b, 1, none⟩ v') := fun _ => by
  have e1 : bufOf w1 b = v.ownBlock := by unfold bufOf; rw [cellsAt hb1 1]; rfl
  have e2 : bufOf (w2.setCell ⟨b, 1, none⟩ v') b = v'.ownBlock := by unfold bufOf; rw [World.cell?_setCell_same _ _ _ (cellsAt hb2 1 : w2.cell? ⟨b, 1, none⟩ = some v)]; rfl
  rw [e1, e2]
  exact ⟨fun k hk hkb hkn => (Below.heap_setCell w2 _ v' k hkb).trans (hg k hk hkn), hat⟩
theorem own_kind {B n : Nat} {w : World} {v : Value} {xs : List Value} (h : w.ownsRow B 5 1 v n xs) : ∀ g, v.ownBlock = some g → ∃ c fz, w.heap[g]? = some (.cells c 5 fz) := by
  intro g hg
  rcases h.2 with ⟨rfl, _⟩ | ⟨g', cap, cur, rfl, _, hgg, _⟩
  · simp [Value.ownBlock] at hg
  · simp [Value.ownBlock] at hg
    subst hg
    exact ⟨cur, _, hgg⟩

set_option maxHeartbeats 1000000 in
set_option maxRecDepth 100000 in
theorem copy_fresh (b : Nat) (w : World) (h0 : w.cell? ⟨b, 0, none⟩ = some (.pointer none)) (hsh : w.shape? b = some (81, 2)) (hfz : w.frozen? ⟨b, 0, none⟩ = false) :
    Calls Tryd.prog 89 #[.pointer (some ⟨b, 0, none⟩)] w fun e w' => e = .returned (.tuple #[]) ∧ w' = w.setCell ⟨b, 0, none⟩ (.pointer (some ⟨b, 0, none⟩)) := by
  obtain ⟨j, hj, hjs⟩ := Option.map_eq_some_iff.1 Tryd.sizeBuilder
  go_enter Tryd.func89, Tryd.ntmps89
  go_wp2_with fail
  rw [Lib.run_to_unsafe w ⟨b, 0, none⟩ Tryd.underlying76 Tryd.underlying108 hj (by rw [hjs]; decide) hsh (Nat.zero_lt_succ 1)]
  simp only [Result.andThen]
  rw [Oper.upon_value]
  go_wp2_with fail
  rw [run_callFunc_extern Tryd.func93 (by kernel_rfl) (by kernel_rfl) (by kernel_rfl) (e := Extern.AbiNoEscape.same) (by kernel_rfl)]
  rw [Lib.run_noEscape]
  simp only [Result.andThen]
  rw [Oper.upon_value]
  go_wp2_with fail
  rw [Lib.run_from_unsafe w ⟨b, 0, none⟩ Tryd.underlying108 Tryd.underlying76 hj hsh Tryd.liesWriter]
  simp only [Result.andThen]
  rw [Oper.upon_value]
  go_wp2_with fail
  simp [bodyPost, results, Tryd.results89]

set_option maxHeartbeats 1000000 in
set_option maxRecDepth 100000 in
theorem copy_used (b : Nat) (w : World) (h0 : w.cell? ⟨b, 0, none⟩ = some (.pointer (some ⟨b, 0, none⟩))) :
    Calls Tryd.prog 89 #[.pointer (some ⟨b, 0, none⟩)] w fun e w' => e = .returned (.tuple #[]) ∧ w' = w := by
  obtain ⟨j, hj, _⟩ := Option.map_eq_some_iff.1 Tryd.sizeBuilder
  go_enter Tryd.func89, Tryd.ntmps89
  go_wp2_with fail
  rw [Lib.run_neq_ptr_same w _ Tryd.underlying76 hj]
  go_wp2_with fail
  simp [bodyPost, results, Tryd.results89]

theorem copy_any (B b : Nat) (bs : List Value) (w : World) (h : IsW B b bs w) :
    Calls Tryd.prog 89 #[.pointer (some ⟨b, 0, none⟩)] w fun e w' => e = .returned (.tuple #[]) ∧ WAt B b (.pointer (some ⟨b, 0, none⟩)) bs w' ∧ Kp B b w w' := by
  rcases h with h | h
  · refine (copy_fresh b w h.cell0 h.shape h.frozen0).mono ?_
    rintro e w' ⟨rfl, rfl⟩
    exact ⟨rfl, h.used _, (Below.refl B w).setCell (p := ⟨b, 0, none⟩) h.1 _, (Lib.OthersKept.refl _ _ w).setCell ⟨b, 0, none⟩ rfl _, fun _ => ⟨fun k _ hkb _ => Below.heap_setCell w _ _ k hkb, .inl (by unfold bufOf; rw [World.cell?_setCell_other _ _ _ _ (by simp)])⟩⟩
  · refine (copy_used b w h.cell0).mono ?_
    rintro e w' ⟨rfl, rfl⟩
    exact ⟨rfl, h, Kp.refl B b _⟩

set_option maxHeartbeats 2000000 in
set_option maxRecDepth 100000 in
/-- A byte more. -/
theorem writeByte_any (B b : Nat) (bs : List Value) (c : Int) (w : World) (h : IsW B b bs w) (hlen : bs.length + 1 ≤ 1000000) (hBw : B ≤ w.heap.size) :
    Calls Tryd.prog 79 #[.pointer (some ⟨b, 0, none⟩), .int .u8 c] w fun e w' => e = .returned .nilIface ∧ WAt B b (.pointer (some ⟨b, 0, none⟩)) (bs ++ [.int .u8 c]) w' ∧ Kp B b w w' := by
  obtain ⟨i0, hi, hz0, hz1, hz2⟩ := info_parts Tryd.infoByte
  have HC : Hid (Calls Tryd.prog 89 #[.pointer (some ⟨b, 0, none⟩)] w fun e w' => e = .returned (.tuple #[]) ∧ WAt B b (.pointer (some ⟨b, 0, none⟩)) bs w' ∧ Kp B b w w') := copy_any B b bs w h
  clear h
  go_enter Tryd.func79, Tryd.ntmps79
  go_wp2_with fail
  refine HC.out.mono ?_
  rintro e w1 ⟨rfl, h1, hb1⟩
  obtain ⟨hB, v, hbk, hown, hne⟩ := h1
  have c0 : w1.cell? ⟨b, 0, none⟩ = some (.pointer (some ⟨b, 0, none⟩)) := cellsAt hbk 0
  have c1 : w1.cell? ⟨b, 1, none⟩ = some v := cellsAt hbk 1
  have hsz1 := hb1.size
  have HO : Hid (w1.ownsRow B 5 1 v bs.length bs) := hown
  have HK : Hid (w1.heap[b]? = some (.cells #[.pointer (some ⟨b, 0, none⟩), v] 81 (0, 0))) := hbk
  clear hown hbk
  go_wp2_with (at_builtin; refine wpList_append_own_at _ rfl _ _ 77 rfl B 5 i0 (.int .u8 0) 1 1 Tryd.underlying77 hi hz0 hz1 hz2 rfl (by decide) _ bs.length bs rfl (HO.out.alloc _) ⟨w1.heap.size, 0, none⟩ 1 1 [.int .u8 c] rfl rfl ?c1 ?c2 ?c3 ?c4 ?c5 ?_)
  case c1 => (intro j u hj; rw [Addr.add_lit]; exact (cell_topL (by simp)).trans (by simpa using hj))
  case c2 => (intro u hu; simp at hu; subst hu; rfl)
  case c3 => (unfold maxLen; omega)
  case c4 => omega
  case c5 => (simp; omega)
  intro v' w2 hown' hgrow _ hat
  have hlt : b < w1.heap.size := (Array.getElem?_eq_some_iff.1 HK.out).1
  have hb2 : w2.heap[b]? = some (.cells #[.pointer (some ⟨b, 0, none⟩), v] 81 (0, 0)) := by
    rw [hgrow.block b (by simp; omega) (fun e => hne e.symm), Lib.alloc_old w1 _ b hlt]
    exact HK.out
  have d0 : w2.cell? ⟨b, 0, none⟩ = some (.pointer (some ⟨b, 0, none⟩)) := cellsAt hb2 0
  have d1 : w2.cell? ⟨b, 1, none⟩ = some v := cellsAt hb2 1
  have f1 : w2.frozen? ⟨b, 1, none⟩ = false := Lib.frozen_of_heap hb2 1
  have HB2 : Hid (Below B w w2 ∧ Lib.OthersKept 5 (some b) w w2) := (show _ ∧ _ from ⟨(hb1.bel.alloc (by omega) _).grown hgrow (by simp; omega) (fun k hk => (HO.out.lt k hk).1), (hb1.oth.alloc _).grown hgrow (own_kind (HO.out.alloc _))⟩)
  have HKQ : Hid (Kq b w (w2.setCell ⟨b, 1, none⟩ v')) := hb1.kq.trans (Kq.step HK.out hb2 (fun k hk hkn => (hgrow.block k (by simp; omega) hkn).trans (Lib.alloc_old w1 _ k hk)) (hat.imp id (fun e k hk => by rw [e] at hk; simp at hk; omega))) hsz1
  have HK2 : Hid (w2.heap[b]? = some (.cells #[.pointer (some ⟨b, 0, none⟩), v] 81 (0, 0))) := hb2
  have HO2 : Hid (w2.ownsRow B 5 1 v' (bs.length + 1) (bs ++ [.int .u8 c])) := hown'
  obtain ⟨g, cap, hv⟩ : ∃ g cap, v' = .slice (some ⟨g, 0, none⟩) (bs.length + 1) cap := by
    rcases hown'.2 with ⟨_, h0⟩ | ⟨g, cap, cur, hv, _⟩
    · omega
    · exact ⟨g, cap, hv⟩
  subst hv
  clear hown' hgrow hb2 c0 c1 hb1 hat
  go_wp2_with fail
  go_ret
  refine ⟨rfl, ?_, ?_⟩
  · exact Lib.BuilderAt.put (T := 81) (e := 5) hB HK2.out (bs' := bs ++ [.int .u8 c]) (by simpa using HO2.out) (by decide)
  · exact ⟨HB2.out.1.setCell (p := ⟨b, 1, none⟩) hB _, HB2.out.2.setCell ⟨b, 1, none⟩ rfl _, HKQ.out⟩

end Go.Proofs.YtogmkdhljifbpaaDoor

/- Numbers in bytes. -/
namespace Go.Proofs.YtogmkdhljifbpaaDoor
open Go.RowKit

/-- A number's byte. -/
def bt (n : Int) (m : Nat) : Int := IntKind.u8.wrap (n / 2 ^ (8 * (m : Int)).toNat)
/-- A number in k bytes, the upper one first. -/
def nbs (n : Int) : Nat → List Value
  | 0 => []
  | k + 1 => .int .u8 (bt n k) :: nbs n k

set_option maxHeartbeats 1600000 in
set_option maxRecDepth 100000 in
theorem wnumber_any (B b nb : Nat) (n : Int) (bs : List Value) (w : World) (h : IsW B b bs w) (hnb : nb ≤ 8) (hlen : bs.length ≤ 100000) (hBw : B ≤ w.heap.size) :
    Calls Tryd.prog 66 #[.pointer (some ⟨b, 0, none⟩), .int .i64 nb, .int .i64 n] w fun e w' => e = .returned (.tuple #[]) ∧ IsW B b (bs ++ nbs n nb) w' ∧ Kp B b w w' := by
  have HI : Hid (IsW B b bs w) := h
  clear h
  go_enter Tryd.func66, Tryd.ntmps66
  go_wp2_with fail
  go_loopw [6] (fun i wr => ∃ (k : Nat) (D : List Value), k ≤ nb ∧ i = .int .i64 ((k : Int) - 1) ∧ D.length + k ≤ 200000 ∧ Hid (D ++ nbs n k = bs ++ nbs n nb) ∧ Hid (IsW B b D wr) ∧ Hid (Kp B b w wr)) (fun i _ => (intOf i + 1).toNat)
  case atStart => exact ⟨nb, bs, Nat.le_refl _, by go_num, by omega, rfl, HI, Kp.refl _ _ _⟩
  case round =>
    obtain ⟨k, D, hk, rfl, hD, HN, HW, HB⟩ := hrel
    cases k with
    | zero =>
      have HW2 : Hid (IsW B b (bs ++ nbs n nb) wr) := (show IsW _ _ _ _ by rw [← HN.out, show nbs n 0 = [] from rfl, List.append_nil]; exact HW.out)
      go_wp2_with fail
      simp [bodyPost, results, Tryd.results66]
      exact ⟨HW2.out, HB.out⟩
    | succ m =>
      have e1 : (((m + 1 : Nat) : Int) - 1) = (m : Int) := by omega
      rw [e1]
      have hm0 : (0 : Int) ≤ (m : Int) := by omega
      have hmul : IntKind.i64.wrap (8 * (m : Int)) = 8 * (m : Int) := by rw [IntKind.wrap_i64]; omega
      have hBr : B ≤ wr.heap.size := Nat.le_trans hBw HB.out.size
      have HWd : Hid (IsW B b D wr.drew) := HW.out
      go_wp2_with fail
      go_region_held3 (fun _ => True) (trivial) (first
        | (go_at_call 79; refine (writeByte_any B b D _ _ HW.out (by omega) hBr).mono ?_; rintro e w5 ⟨rfl, hw5, hb5⟩)
        | (go_at_call 79; refine (writeByte_any B b D _ _ HWd.out (by omega) hBr).mono ?_; rintro e w5 ⟨rfl, hw5, hb5⟩))
      have HW6 : Hid (IsW B b (D ++ [.int .u8 (bt n m)]) w5) := (show IsW _ _ _ _ from .inr hw5)
      have HB6 : Hid (Kp B b w w5) := HB.out.drew.trans hb5
      have HN6 : Hid ((D ++ [.int .u8 (bt n m)]) ++ nbs n m = bs ++ nbs n nb) := (show _ = _ by rw [← HN.out, List.append_assoc]; rfl)
      clear hw5 hb5
      go_wp2_with fail
      exact ⟨⟨m, D ++ [.int .u8 (bt n m)], by omega, by go_num, by simp; omega, HN6, HW6, HB6⟩, by simp [intOf]⟩

end Go.Proofs.YtogmkdhljifbpaaDoor

/- Texts written: WriteString, counted. -/
namespace Go.Proofs.YtogmkdhljifbpaaDoor
open Go.RowKit

/-- Where what is longer by a text lies. -/
theorem append_text_at {P : Program} {w W : World} {base n : Nat} {t u ty e : TypeId} {i : TypeInfo} {v v' : Value} {xs : List Value} {s : ByteArray} (ht : P.underlying t = some (.slice e)) (hu : P.underlying u = some .string) (hi : P.info? e = some i) (hz : i.zero = some (.int .u8 0)) (hsize : i.size = 1) (hby : i.bytes = 1)
    (hown : w.ownsRow base e 1 v n xs) (h63 : n + s.size ≤ maxLen) (hbytes : n + s.size ≤ 140737488355328) (hr : (Builtin.append_ #[t, u] ty #[v, .string s]).run P w = .ok v' W) (hnil : v' = .slice none 0 0 ↔ v = .slice none 0 0 ∧ s.size = 0) : v'.ownBlock = v.ownBlock ∨ v'.ownBlock = some w.heap.size := by
  have hm : n + s.size ≤ 9223372036854775807 := by simp only [maxLen] at h63; omega
  have hxl : xs.length = n := by simpa using hown.1
  rcases hown.2 with ⟨rfl, rfl⟩ | ⟨g, cap, cur, rfl, _, hg, _, _, hcs, _⟩
  · by_cases h0 : s.size = 0
    · exact .inl (by rw [hnil.2 ⟨rfl, h0⟩])
    · rw [run_append_nil_string (P := P) w t u ty e i (.int .u8 0) ht hu hi hz s (by omega) (by omega) (by rw [hby]; omega)] at hr
      injection hr with h1 _
      exact .inr (by rw [← h1]; rfl)
  · by_cases hroom : n + s.size ≤ cap
    · rw [Lib.run_append_room_string (P := P) w t u ty e i ht hu hi hsize g n cap cur hg s hroom (by have := hcs; omega)] at hr
      injection hr with h1 _
      exact .inl (by rw [← h1]; rfl)
    · rw [Lib.run_append_grow_string (P := P) w t u ty e i (.int .u8 0) ht hu hi hz ⟨g, 0, none⟩ n cap xs (by rw [hsize]; simpa using hxl) (hown.cells (g := g) rfl) s (by omega) (by omega) (by rw [hby]; exact growslice_fits (by omega) (by omega))] at hr
      injection hr with h1 _
      exact .inr (by rw [← h1]; rfl)

theorem wpList_append_text {P : Program} (w : World) {ops : Array Oper} {rest : List Oper} {o : Oper} {a : Act} {Q : Exit → Act → World → Prop} (hgd : o.guard = none) (sl x : Operand) (t u : TypeId)
    (ho : o.op = .call { callee := .builtin .append, args := #[sl, x], argTypes := #[t, u] }) (base : Nat) (e : TypeId) (i : TypeInfo) (ht : P.underlying t = some (.slice e)) (hu : P.underlying u = some .string) (hi : P.info? e = some i) (hz : i.zero = some (.int .u8 0)) (hsize : i.size = 1) (hby : i.bytes = 1)
    (v : Value) (n : Nat) (xs : List Value) (hs : a.eval sl = v) (hown : w.ownsRow base e 1 v n xs) (s : ByteArray) (hx : a.eval x = .string s) (h63 : n + s.size ≤ maxLen) (hbytes : n + s.size ≤ 140737488355328) (hbase : base ≤ w.heap.size)
    (h : ∀ v' w', w'.ownsRow base e 1 v' (n + s.size) (xs ++ Lib.strCells s) → w.grownBy w' v.ownBlock → (v'.ownBlock = v.ownBlock ∨ v'.ownBlock = some w.heap.size) → wpList P ops Q rest (a.put o.dst v') w') : wpList P ops Q (o :: rest) a w := by
  obtain ⟨v', w', hr, h2, h3, h4⟩ := Lib.run_append_own_string (P := P) w base t u o.type e i ht hu hi hz hsize hby v n xs hown s h63 hbytes hbase
  have h5 := append_text_at ht hu hi hz hsize hby hown h63 hbytes hr h4
  refine wpList_plain hgd fun K hK => ?_
  have hgo : K (a.put o.dst v') w' := hK _ _ (h v' w' h2 h3 h5)
  simp only [Oper.wp, execOp, ho, resolve, invoke, builtin, Sem.run_bind, Sem.run_pure, Result.andThen_ok, List.map_toArray, List.map_cons, List.map_nil, hs, hx, hr]
  exact hgo

set_option maxHeartbeats 2000000 in
set_option maxRecDepth 100000 in
theorem writeString_any (B b : Nat) (bs : List Value) (s : ByteArray) (w : World) (h : IsW B b bs w) (hlen : bs.length + s.size ≤ 1000000) (hBw : B ≤ w.heap.size) :
    Calls Tryd.prog 84 #[.pointer (some ⟨b, 0, none⟩), .string s] w fun e w' => e = .returned (.tuple #[.int .i64 s.size, .nilIface]) ∧ WAt B b (.pointer (some ⟨b, 0, none⟩)) (bs ++ Lib.strCells s) w' ∧ Kp B b w w' := by
  obtain ⟨i0, hi, hz0, hz1, hz2⟩ := info_parts Tryd.infoByte
  have HC : Hid (Calls Tryd.prog 89 #[.pointer (some ⟨b, 0, none⟩)] w fun e w' => e = .returned (.tuple #[]) ∧ WAt B b (.pointer (some ⟨b, 0, none⟩)) bs w' ∧ Kp B b w w') := copy_any B b bs w h
  clear h
  go_enter Tryd.func84, Tryd.ntmps84
  go_wp2_with fail
  refine HC.out.mono ?_
  rintro e w1 ⟨rfl, h1, hb1⟩
  obtain ⟨hB, v, hbk, hown, hne⟩ := h1
  have c0 : w1.cell? ⟨b, 0, none⟩ = some (.pointer (some ⟨b, 0, none⟩)) := cellsAt hbk 0
  have c1 : w1.cell? ⟨b, 1, none⟩ = some v := cellsAt hbk 1
  have hsz1 := hb1.size
  have HO : Hid (w1.ownsRow B 5 1 v bs.length bs) := hown
  have HK : Hid (w1.heap[b]? = some (.cells #[.pointer (some ⟨b, 0, none⟩), v] 81 (0, 0))) := hbk
  clear hown hbk
  go_wp2_with (at_builtin; refine wpList_append_text _ rfl _ _ 77 9 rfl B 5 i0 Tryd.underlying77 Tryd.underlying9 hi hz0 hz1 hz2 _ bs.length bs rfl HO.out s rfl ?c3 ?c4 ?c5 ?_)
  case c3 => (unfold maxLen; omega)
  case c4 => omega
  case c5 => omega
  intro v' w2 hown' hgrow hat
  have hlt : b < w1.heap.size := (Array.getElem?_eq_some_iff.1 HK.out).1
  have hb2 : w2.heap[b]? = some (.cells #[.pointer (some ⟨b, 0, none⟩), v] 81 (0, 0)) := by
    rw [hgrow.block b hlt (fun e => hne e.symm)]
    exact HK.out
  have d0 : w2.cell? ⟨b, 0, none⟩ = some (.pointer (some ⟨b, 0, none⟩)) := cellsAt hb2 0
  have d1 : w2.cell? ⟨b, 1, none⟩ = some v := cellsAt hb2 1
  have f1 : w2.frozen? ⟨b, 1, none⟩ = false := Lib.frozen_of_heap hb2 1
  have HB2 : Hid (Below B w w2 ∧ Lib.OthersKept 5 (some b) w w2) := (show _ ∧ _ from ⟨hb1.bel.grown hgrow (by omega) (fun k hk => (HO.out.lt k hk).1), hb1.oth.grown hgrow (own_kind HO.out)⟩)
  have HKQ : Hid (Kq b w (w2.setCell ⟨b, 1, none⟩ v')) := hb1.kq.trans (Kq.step HK.out hb2 (fun k hk hkn => hgrow.block k hk hkn) (hat.imp id (fun e k hk => by rw [e] at hk; simp at hk; omega))) hsz1
  have HK2 : Hid (w2.heap[b]? = some (.cells #[.pointer (some ⟨b, 0, none⟩), v] 81 (0, 0))) := hb2
  have HO2 : Hid (w2.ownsRow B 5 1 v' (bs ++ Lib.strCells s).length (bs ++ Lib.strCells s)) := (show World.ownsRow _ _ _ _ _ _ _ by simpa [Lib.strCells_length] using hown')
  obtain ⟨ao, n', cap, hv⟩ : ∃ ao n' cap, v' = .slice ao n' cap := by
    rcases hown'.2 with ⟨hv, _⟩ | ⟨g, cap, cur, hv, _⟩
    · exact ⟨_, _, _, hv⟩
    · exact ⟨_, _, _, hv⟩
  subst hv
  clear hown' hgrow hb2 c0 c1 hb1 hat
  go_wp2_with fail
  go_ret2
  refine ⟨rfl, ?_, ?_⟩
  · exact Lib.BuilderAt.put (T := 81) (e := 5) hB HK2.out (bs' := bs ++ Lib.strCells s) HO2.out (by decide)
  · exact ⟨HB2.out.1.setCell (p := ⟨b, 1, none⟩) hB _, HB2.out.2.setCell ⟨b, 1, none⟩ rfl _, HKQ.out⟩

theorem nbs_len (n : Int) : ∀ k, (nbs n k).length = k
  | 0 => rfl
  | k + 1 => by simp [nbs, nbs_len n k]

set_option maxHeartbeats 800000 in
set_option maxRecDepth 100000 in
/-- A text behind its length. -/
theorem counted_any (B b : Nat) (bs : List Value) (s : ByteArray) (w : World) (h : IsW B b bs w) (hlen : bs.length ≤ 90000) (hs : s.size ≤ 1000) (hBw : B ≤ w.heap.size) :
    Calls Tryd.prog 81 #[.pointer (some ⟨b, 0, none⟩), .string s] w fun e w' => e = .returned (.tuple #[]) ∧ IsW B b (bs ++ (nbs s.size 1 ++ Lib.strCells s)) w' ∧ Kp B b w w' := by
  have HI : Hid (IsW B b bs w) := h
  clear h
  go_enter Tryd.func81, Tryd.ntmps81
  go_wp2_with fail
  refine (wnumber_any B b 1 s.size bs w HI.out (by omega) (by omega) hBw).mono ?_
  rintro e w1 ⟨rfl, h1, hb1⟩
  have hz1 := hb1.size
  go_wp2_with fail
  refine (writeString_any B b _ s w1 h1 (by rw [List.length_append, nbs_len]; omega) (by omega)).mono ?_
  rintro e w2 ⟨rfl, h2, hb2⟩
  have HW2 : Hid (IsW B b (bs ++ (nbs s.size 1 ++ Lib.strCells s)) w2) := (show IsW _ _ _ _ by rw [← List.append_assoc]; exact .inr h2)
  have HB2 : Hid (Kp B b w w2) := hb1.trans hb2
  clear h1 hb1 h2 hb2
  go_wp2_with fail
  simp [bodyPost, results, Tryd.results81]
  exact ⟨HW2.out, HB2.out⟩

end Go.Proofs.YtogmkdhljifbpaaDoor

/- The document's labels of a name. -/
namespace Go.Proofs.YtogmkdhljifbpaaDoor
open Go.RowKit

/-- A name's labels: none of an empty one. -/
def labs (s : ByteArray) : List ByteArray := if s.size = 0 then [] else (spl s.data.toList).map mk

theorem ext_mid (s : ByteArray) (a b : Nat) : s.extract a b = mk ((s.data.toList.drop a).take (b - a)) := by
  rw [← mk_data (s.extract a b)]
  congr 1
  rw [Lib.extract_data]
theorem free_step {l : List UInt8} {a b : Nat} (hab : a ≤ b) (hb : b < l.length) (h : 46 ∉ (l.drop a).take (b - a)) (hc : l[b] ≠ 46) : 46 ∉ (l.drop a).take (b + 1 - a) := by
  have e : b + 1 - a = (b - a) + 1 := by omega
  have hl : b - a < (l.drop a).length := by rw [List.length_drop]; omega
  rw [e, List.take_succ_eq_append_getElem hl]
  intro hm
  rcases List.mem_append.1 hm with h2 | h2
  · exact h h2
  · simp only [List.mem_singleton, List.getElem_drop] at h2
    have : a + (b - a) = b := by omega
    simp only [this] at h2
    exact hc h2.symm
theorem spl_part {l : List UInt8} {a b : Nat} (hab : a ≤ b) (hb : b < l.length) (h : 46 ∉ (l.drop a).take (b - a)) (hc : l[b] = 46) : spl (l.drop a) = (l.drop a).take (b - a) :: spl (l.drop (b + 1)) := by
  have e : l.drop a = (l.drop a).take (b - a) ++ 46 :: l.drop (b + 1) := by
    have h1 : (l.drop a).drop (b - a) = l.drop b := by rw [List.drop_drop]; congr 1; omega
    have h2 : l.drop b = 46 :: l.drop (b + 1) := by rw [List.drop_eq_getElem_cons hb, hc]
    rw [← h2, ← h1, List.take_append_drop]
  conv => lhs; rw [e]
  exact spl_app _ _ h

theorem spl_le (s : ByteArray) : (spl s.data.toList).length ≤ s.size + 1 := by
  rw [spl_len]
  have h5 : s.data.toList.count 46 ≤ s.data.toList.length := List.count_le_length
  have h6 : s.data.toList.length = s.size := by simp
  omega
theorem byte_is {s : ByteArray} {k : Nat} (h : k < s.size) (hb : s[k] = 46) (hl : k < s.data.toList.length) : s.data.toList[k] = 46 := by
  rw [← hb]; simp [ByteArray.getElem_eq_getElem_data]
theorem byte_ne {s : ByteArray} {k : Nat} (h : k < s.size) (hb : s[k] ≠ 46) (hl : k < s.data.toList.length) : s.data.toList[k] ≠ 46 := fun e => hb (by
  rw [← e]; simp [ByteArray.getElem_eq_getElem_data])
theorem toNat_ne {c : UInt8} (h : c ≠ 46) : ((c.toNat : Int) == 46) = false ∧ ¬ (c.toNat : Int) = 46 := by
  have h2 : ¬ (c.toNat : Int) = 46 := fun e => h (UInt8.toNat_inj.1 (by have : c.toNat = 46 := by omega
                                                                        rw [this]; rfl))
  exact ⟨by simpa using h2, h2⟩

set_option maxHeartbeats 3200000 in
set_option maxRecDepth 100000 in
theorem labelsOf_any (s : ByteArray) (w : World) (hs : s.size ≤ 2000000) :
    Calls Tryd.prog 26 #[.string s] w fun e w' => ∃ v, e = .returned v ∧ OwnS w.heap.size w' v (labs s) ∧ Below w.heap.size w w' := by
  by_cases h0 : s.size = 0
  · have e0 : labs s = [] := by unfold labs; rw [if_pos h0]
    rw [e0]
    have := isempty h0
    subst this
    clear e0 h0 hs
    go_enter Tryd.func26, Tryd.ntmps26
    go_wp2_with fail
    go_ret
    exact ⟨_, rfl, ownS_nil _ _, Below.refl _ _⟩
  · obtain ⟨n1, n2⟩ := nempty h0
    obtain ⟨i0, hi0, hz0, hzs, hzb⟩ := info_parts Tryd.info9
    have HL : Hid (labs s = (spl s.data.toList).map mk) := (show labs s = _ by unfold labs; rw [if_neg h0])
    have HCN : Hid ((spl s.data.toList).length ≤ s.size + 1) := spl_le s
    generalize labs s = LS at *
    clear h0
    go_enter Tryd.func26, Tryd.ntmps26
    go_wp2_with fail
    go_loopw [3, 4, 5] (fun o f i wr => ∃ (a k : Nat) (D : List (List UInt8)), a ≤ k ∧ k ≤ s.size ∧ f = .int .i64 a ∧ i = .int .i64 k ∧ Hid (spl s.data.toList = D ++ spl (s.data.toList.drop a)) ∧ Hid (46 ∉ (s.data.toList.drop a).take (k - a)) ∧ Hid (Below w.heap.size w wr) ∧ Hid (OwnS w.heap.size wr o (D.map mk))) (fun _ _ i _ => s.size - (intOf i).toNat)
    case atStart => exact ⟨0, 0, [], Nat.le_refl _, Nat.zero_le _, rfl, rfl, rfl, (show 46 ∉ _ by simp), Below.refl _ _, ownS_nil _ _⟩
    case round =>
      obtain ⟨a, k, D, hak, hk, rfl, rfl, HS, HFR, HB, HO⟩ := hrel
      have hsz := HB.out.size
      have hDl : D.length ≤ s.size + 1 := by
        have h5 := HCN.out
        rw [HS.out, List.length_append] at h5
        omega
      have ha1 : (0 : Int) ≤ (a : Int) := by omega
      have ha3 : ((a : Int)).toNat = a := by omega
      have hk3 : ((k : Int)).toNat = k := by omega
      by_cases hlt : k < s.size
      · have hak2 : (a : Int) ≤ (k : Int) := by omega
        have hks : (k : Int) ≤ (s.size : Int) := by omega
        by_cases hb : s[k] = 46
        · have hn46 : ((s[k]).toNat : Int) = 46 := by rw [hb]; rfl
          have HS2 : Hid (spl s.data.toList = (D ++ [(s.data.toList.drop a).take (k - a)]) ++ spl (s.data.toList.drop (k + 1))) := (show _ = _ by
            have hlk : k < s.data.toList.length := by simpa using hlt
            rw [HS.out, spl_part hak hlk HFR.out (byte_is hlt hb hlk)]; simp)
          have HX : Hid (mk ((s.data.toList.drop a).take (k - a)) = s.extract a k) := (ext_mid s a k).symm
          clear HS HFR
          go_wp2_with (at_builtin; refine wpList_append_own _ rfl _ _ 46 rfl w.heap.size 9 i0 _ 1 16 Tryd.underlying46 hi0 hz0 hzs hzb rfl (by omega) _ (D.map mk).length ((D.map mk).map Value.string) rfl ?hown ⟨wr.heap.size, 0, none⟩ 1 1 [.string (s.extract a k)] rfl rfl ?hnews (strs_one [_]) ?h63 ?hbytes ?hbase ?_)
          case hown => exact HO.out.below ((Below.refl _ _).alloc (Nat.le_refl _) _)
          case hnews => (intro j u hj; rw [Addr.add_lit]; exact (cell_topL (by simp)).trans (by simpa using hj))
          case h63 => (rw [List.length_map]; unfold maxLen; omega)
          case hbytes => (rw [List.length_map]; omega)
          case hbase => (simp; omega)
          intro v' w2 r1 r2 r3
          have HBX : Hid (Below w.heap.size w w2) := (HB.out.alloc hsz _).grown r2 (by simp; omega) (fun j hj => (HO.out.lt j hj).1)
          have HOX : Hid (OwnS w.heap.size w2 v' ((D ++ [(s.data.toList.drop a).take (k - a)]).map mk)) := (show OwnS _ _ _ _ by
            rw [List.map_append, List.map_cons, List.map_nil, HX.out]; exact ownS_snoc (l := D.map mk) (by rw [List.length_map, List.map_map]; exact r1))
          clear r1 r2 r3 hb hn46
          go_wp2_with fail
          exact ⟨⟨k + 1, k + 1, D ++ [(s.data.toList.drop a).take (k - a)], Nat.le_refl _, by omega, by go_num, by go_num, HS2, (show 46 ∉ _ by simp), HBX, HOX⟩, by simp [intOf]; omega⟩
        · obtain ⟨hn1, hn2⟩ := toNat_ne hb
          have HF2 : Hid (46 ∉ (s.data.toList.drop a).take (k + 1 - a)) := (show 46 ∉ _ by
            have hlk : k < s.data.toList.length := by simpa using hlt
            exact free_step hak hlk HFR.out (byte_ne hlt hb hlk))
          clear hb HFR
          go_wp2_with fail
          exact ⟨⟨a, k + 1, D, by omega, by omega, rfl, by go_num, HS, HF2, HB, HO⟩, by simp [intOf]; omega⟩
      · have hkn : k = s.size := by omega
        have HX : Hid (mk (s.data.toList.drop a) = s.extract a s.size) := (ext_from s a).symm
        have HS2 : Hid (LS = D.map mk ++ [mk (s.data.toList.drop a)]) := (show LS = _ by
          have h46 : 46 ∉ s.data.toList.drop a := by
            have h := HFR.out
            rwa [List.take_of_length_le (by rw [List.length_drop]; simp; omega)] at h
          rw [HL.out, HS.out, spl_none _ h46]; simp)
        have has : (a : Int) ≤ (s.size : Int) := by omega
        clear HS HFR HL
        go_wp2_with (at_builtin; refine wpList_append_own _ rfl _ _ 46 rfl w.heap.size 9 i0 _ 1 16 Tryd.underlying46 hi0 hz0 hzs hzb rfl (by omega) _ (D.map mk).length ((D.map mk).map Value.string) rfl ?hown ⟨wr.heap.size, 0, none⟩ 1 1 [.string (s.extract a s.size)] rfl rfl ?hnews (strs_one [_]) ?h63 ?hbytes ?hbase ?_)
        case hown => exact HO.out.below ((Below.refl _ _).alloc (Nat.le_refl _) _)
        case hnews => (intro j u hj; rw [Addr.add_lit]; exact (cell_topL (by simp)).trans (by simpa using hj))
        case h63 => (rw [List.length_map]; unfold maxLen; omega)
        case hbytes => (rw [List.length_map]; omega)
        case hbase => (simp; omega)
        intro v' w2 r1 r2 r3
        have HBX : Hid (Below w.heap.size w w2) := (HB.out.alloc hsz _).grown r2 (by simp; omega) (fun j hj => (HO.out.lt j hj).1)
        have HOX : Hid (OwnS w.heap.size w2 v' LS) := (show OwnS _ _ _ _ by
          rw [HS2.out, HX.out]; exact ownS_snoc (l := D.map mk) (by rw [List.length_map, List.map_map]; exact r1))
        clear r1 r2 r3
        go_wp2_with fail
        go_ret
        exact ⟨v', rfl, HOX.out, HBX.out⟩

end Go.Proofs.YtogmkdhljifbpaaDoor

/- The document's check of a name. -/
namespace Go.Proofs.YtogmkdhljifbpaaDoor
open Go.RowKit

theorem chkN_labs (s : ByteArray) : chkN s = if (labs s).all labB = false then 1 else if 8 < (labs s).length ∨ 120 < s.size then 2 else 0 := by
  unfold chkN labs
  by_cases h0 : s.size = 0
  · rw [if_pos h0, if_pos h0]; simp [h0]
  · rw [if_neg h0, if_neg h0]
    have e : ((spl s.data.toList).map mk).all labB = (spl s.data.toList).all labL := by rw [List.all_map]; rfl
    rw [e, List.length_map]

theorem labs_len (s : ByteArray) : (labs s).length ≤ s.size + 1 := by
  unfold labs
  split
  · simp
  · rw [List.length_map]; exact spl_le s
theorem len_le_jn : ∀ {xs : List (List UInt8)} {x : List UInt8}, x ∈ xs → x.length ≤ (jn xs).length
  | [y], x, h => by simp at h; subst h; exact Nat.le_refl _
  | y :: z :: r, x, h => by
    have e : (jn (y :: z :: r)).length = y.length + 1 + (jn (z :: r)).length := by
      show (y ++ 46 :: jn (z :: r)).length = _
      simp; omega
    rcases List.mem_cons.1 h with rfl | h2
    · omega
    · have := len_le_jn h2; omega
theorem labs_size (s : ByteArray) (hs : s.size ≤ maxLen) : ∀ j, ((labs s).getD j ByteArray.empty).size ≤ maxLen := fun j => by
  by_cases hj : j < (labs s).length
  · rw [show (labs s).getD j ByteArray.empty = (labs s)[j] by simp [List.getD, List.getElem?_eq_getElem hj]]
    have hm : (labs s)[j] ∈ labs s := List.getElem_mem hj
    revert hm
    generalize (labs s)[j] = x
    unfold labs
    split
    · simp
    · intro hm
      obtain ⟨y, hy, rfl⟩ := List.mem_map.1 hm
      rw [mk_size]
      have h := len_le_jn hy
      rw [jn_spl] at h
      have h6 : s.data.toList.length = s.size := by simp
      omega
  · rw [show (labs s).getD j ByteArray.empty = ByteArray.empty by simp [List.getD, List.getElem?_eq_none (by omega : (labs s).length ≤ j)]]; decide

set_option maxHeartbeats 1600000 in
theorem rCheckName_any (s : ByteArray) (w : World) (hs : s.size ≤ 2000000) :
    Calls Tryd.prog 11 #[.string s] w fun e w' => e = .returned (.int .i64 (chkN s)) ∧ Below w.heap.size w w' := by
  have HLO : Hid (Calls Tryd.prog 26 #[.string s] w fun e w' => ∃ v, e = .returned v ∧ OwnS w.heap.size w' v (labs s) ∧ Below w.heap.size w w') := labelsOf_any s w hs
  have hsm : s.size ≤ maxLen := by unfold maxLen; omega
  have HZ : Hid (∀ j, ((labs s).getD j ByteArray.empty).size ≤ maxLen) := labs_size s hsm
  have HE : Hid (chkN s = if (labs s).all labB = false then 1 else if 8 < (labs s).length ∨ 120 < s.size then 2 else 0) := chkN_labs s
  have hln := labs_len s
  have H0 : Hid ((∀ j, j < (labs s).length → labB ((labs s).getD j ByteArray.empty) = true) → (labs s).all labB = true) := fun h => by
    rw [List.all_eq_true]
    intro x hx
    obtain ⟨j, hj, rfl⟩ := List.getElem_of_mem hx
    have := h j hj
    simpa [List.getD, List.getElem?_eq_getElem hj] using this
  have H1 : Hid (∀ j, j < (labs s).length → labB ((labs s).getD j ByteArray.empty) = false → (labs s).all labB = false) := fun j hj h => by
    rw [List.all_eq_false]
    refine ⟨(labs s)[j], List.getElem_mem hj, ?_⟩
    rw [show (labs s).getD j ByteArray.empty = (labs s)[j] by simp [List.getD, List.getElem?_eq_getElem hj]] at h
    simp [h]
  generalize chkN s = r at *
  generalize labs s = L at *
  generalize L.all labB = al at *
  go_enter Tryd.func11, Tryd.ntmps11
  go_wp2_with (go_at_call 26; refine HLO.out.mono ?_; rintro e w1 ⟨v, rfl, hO, hb1⟩)
  have HB1 : Hid (Below w.heap.size w w1) := hb1
  obtain ⟨p, c, hv, hcl⟩ : ∃ p c, v = .slice p L.length c ∧ Hid (0 < L.length → ∃ g, p = some ⟨g, 0, none⟩ ∧ ∀ j, j < L.length → w1.cell? ⟨g, j, none⟩ = some (.string (L.getD j ByteArray.empty))) := by
    rcases OwnS.form hO with ⟨h1, h2⟩ | ⟨g, c, h1, _, _, _, h5⟩
    · exact ⟨none, 0, by rw [h1, h2]; rfl, fun h => by rw [h2] at h; simp at h⟩
    · exact ⟨_, c, h1, fun _ => ⟨g, rfl, h5⟩⟩
  subst hv
  clear hO hb1 HLO
  generalize hna : L.length = n at *
  clear hna
  go_loop [4] (fun i => ∃ k : Nat, k ≤ n ∧ i = .int .i64 k ∧ Hid (∀ j, j < k → labB (L.getD j ByteArray.empty) = true)) (fun i => n - (intOf i).toNat)
  case atStart => exact ⟨0, Nat.zero_le _, rfl, fun j h => absurd h (Nat.not_lt_zero _)⟩
  case round =>
    obtain ⟨k, hk, rfl, hz⟩ := hrel
    by_cases hlt : k < n
    · obtain ⟨g, hp, hc⟩ := hcl.out (by omega)
      subst hp
      have hck := hc k hlt
      have hsk := HZ.out k
      have HZ2 : Hid (labB (L.getD k ByteArray.empty) = true → ∀ j, j < k + 1 → labB (L.getD j ByteArray.empty) = true) := fun h j hj => by
        rcases Nat.lt_succ_iff_lt_or_eq.1 hj with h2 | rfl
        · exact hz.out j h2
        · exact h
      have HFF : Hid (labB (L.getD k ByteArray.empty) = false → r = 1) := fun h => by rw [HE.out, H1.out k hlt h]; rfl
      clear hc
      generalize L.getD k ByteArray.empty = x at *
      rcases hl : labB x with _ | _
      · have HR : Hid (r = 1) := HFF.out hl
        go_wp2_with (go_at_call 27; refine (isLabel_any _ _ hsk).mono ?_; rintro e w' ⟨rfl, rfl⟩; rw [hl])
        go_ret
        exact ⟨ret_int HR.out.symm, HB1.out⟩
      · have HZ3 := HZ2.out hl
        have HZ4 : Hid (∀ j, j < k + 1 → labB (L.getD j ByteArray.empty) = true) := HZ3
        clear HZ2 HFF HZ3
        go_wp2_with (go_at_call 27; refine (isLabel_any _ _ hsk).mono ?_; rintro e w' ⟨rfl, rfl⟩; rw [hl])
        go_round
        case rel => exact ⟨k + 1, by omega, by go_num, HZ4.out⟩
        case measure => simp [intOf]; omega
    · have HAL : al = true := H0.out fun j hj => hz.out j (by omega)
      have HR0 : Hid (r = if 8 < n ∨ 120 < s.size then 2 else 0) := (show r = _ by rw [HE.out, HAL]; rfl)
      clear hz HE HAL
      by_cases h8 : 8 < n
      · have HR : Hid (r = 2) := (show r = 2 by rw [HR0.out, if_pos (.inl h8)])
        have h9 : decide (8 < (n : Int)) = true := by simp; omega
        clear HR0
        go_wp2_with fail
        go_ret
        exact ⟨ret_int HR.out.symm, HB1.out⟩
      · have h9 : decide (8 < (n : Int)) = false := by simp; omega
        by_cases h120 : 120 < s.size
        · have HR : Hid (r = 2) := (show r = 2 by rw [HR0.out, if_pos (.inr h120)])
          have h10 : decide (120 < (s.size : Int)) = true := by simp; omega
          clear HR0
          go_wp2_with fail
          go_ret
          exact ⟨ret_int HR.out.symm, HB1.out⟩
        · have HR : Hid (r = 0) := (show r = 0 by rw [HR0.out, if_neg (by omega)])
          have h10 : decide (120 < (s.size : Int)) = false := by simp; omega
          clear HR0
          go_wp2_with fail
          go_ret
          exact ⟨ret_int HR.out.symm, HB1.out⟩

end Go.Proofs.YtogmkdhljifbpaaDoor

