/- F4, F5, Shelf, Q1, Q2, Q6, Q7 -/
import Derived.Test.YtogmkdhljifbpaaDoorX2
import Derived.Deep.RegionHeld3
import Derived.StillTactics
import Derived.Shelf.Strings.Builder1
import Derived.Shelf.Strings.Builder2
import Derived.Shelf.Strings.OnBuilder
import Derived.Shelf.LaysM
import Derived.Shelf.Strconv.Clone
import Derived.Shelf.Strings.Search1
import Derived.Shelf.Strings.Search2
import Derived.Shelf.Strings.Search3
import Derived.Shelf.Strings.Cut
import Derived.Shelf.Strings.Count
import Derived.Shelf.Strings.Shaped
import Derived.Shelf.Strings.Split
import Derived.Shelf.Strings.SplitShaped
import Derived.Shelf.Unicode.DecodeSlow
import Derived.Test.YtogmkdhljifbpaaDoorProg
import Derived.Lib.Split
import Derived.OwnWalk
import Derived.Test.YtogmkdhljifbpaaDoorX1
/- Numbers in bytes. -/
namespace Go.Proofs.YtogmkdhljifbpaaDoor
open Go.RowKit

/-- A number's byte. -/
def bt (n : Int) (m : Nat) : Int := IntKind.u8.wrap (n / 2 ^ (8 * (m : Int)).toNat)
/-- A number in k bytes, the upper one first. -/
def nbs (n : Int) : Nat → List Value
  | 0 => []
  | k + 1 => .int .u8 (bt n k) :: nbs n k

set_option maxHeartbeats 1600000 in
set_option maxRecDepth 100000 in
theorem wnumber_any (B b nb : Nat) (n : Int) (bs : List Value) (w : World) (h : IsW B b bs w) (hnb : nb ≤ 8) (hlen : bs.length ≤ 100000) (hBw : B ≤ w.heap.size) :
    Calls Tryd.prog 66 #[.pointer (some ⟨b, 0, none⟩), .int .i64 nb, .int .i64 n] w fun e w' => e = .returned (.tuple #[]) ∧ IsW B b (bs ++ nbs n nb) w' ∧ Kp B b w w' := by
  have HI : Hid (IsW B b bs w) := h
  clear h
  go_enter Tryd.func66, Tryd.ntmps66
  go_wp2_with fail
  go_loopw [6] (fun i wr => ∃ (k : Nat) (D : List Value), k ≤ nb ∧ i = .int .i64 ((k : Int) - 1) ∧ D.length + k ≤ 200000 ∧ Hid (D ++ nbs n k = bs ++ nbs n nb) ∧ Hid (IsW B b D wr) ∧ Hid (Kp B b w wr)) (fun i _ => (intOf i + 1).toNat)
  case atStart => exact ⟨nb, bs, Nat.le_refl _, by go_num, by omega, rfl, HI, Kp.refl _ _ _⟩
  case round =>
    obtain ⟨k, D, hk, rfl, hD, HN, HW, HB⟩ := hrel
    cases k with
    | zero =>
      have HW2 : Hid (IsW B b (bs ++ nbs n nb) wr) := (show IsW _ _ _ _ by rw [← HN.out, show nbs n 0 = [] from rfl, List.append_nil]; exact HW.out)
      go_wp2_with fail
      simp [bodyPost, results, Tryd.results66]
      exact ⟨HW2.out, HB.out⟩
    | succ m =>
      have e1 : (((m + 1 : Nat) : Int) - 1) = (m : Int) := by omega
      rw [e1]
      have hm0 : (0 : Int) ≤ (m : Int) := by omega
      have hmul : IntKind.i64.wrap (8 * (m : Int)) = 8 * (m : Int) := by rw [IntKind.wrap_i64]; omega
      have hBr : B ≤ wr.heap.size := Nat.le_trans hBw HB.out.size
      have HWd : Hid (IsW B b D wr.drew) := HW.out
      go_wp2_with fail
      go_region_held3 (fun _ => True) (trivial) (first
        | (go_at_call 79; refine (writeByte_any B b D _ _ HW.out (by omega) hBr).mono ?_; rintro e w5 ⟨rfl, hw5, hb5⟩)
        | (go_at_call 79; refine (writeByte_any B b D _ _ HWd.out (by omega) hBr).mono ?_; rintro e w5 ⟨rfl, hw5, hb5⟩))
      have HW6 : Hid (IsW B b (D ++ [.int .u8 (bt n m)]) w5) := (show IsW _ _ _ _ from .inr hw5)
      have HB6 : Hid (Kp B b w w5) := HB.out.drew.trans hb5
      have HN6 : Hid ((D ++ [.int .u8 (bt n m)]) ++ nbs n m = bs ++ nbs n nb) := (show _ = _ by rw [← HN.out, List.append_assoc]; rfl)
      clear hw5 hb5
      go_wp2_with fail
      exact ⟨⟨m, D ++ [.int .u8 (bt n m)], by omega, by go_num, by simp; omega, HN6, HW6, HB6⟩, by simp [intOf]⟩

end Go.Proofs.YtogmkdhljifbpaaDoor

/- Texts written: WriteString, counted. -/
namespace Go.Proofs.YtogmkdhljifbpaaDoor
open Go.RowKit

/-- Where what is longer by a text lies. -/
theorem append_text_at {P : Program} {w W : World} {base n : Nat} {t u ty e : TypeId} {i : TypeInfo} {v v' : Value} {xs : List Value} {s : ByteArray} (ht : P.underlying t = some (.slice e)) (hu : P.underlying u = some .string) (hi : P.info? e = some i) (hz : i.zero = some (.int .u8 0)) (hsize : i.size = 1) (hby : i.bytes = 1)
    (hown : w.ownsRow base e 1 v n xs) (h63 : n + s.size ≤ maxLen) (hbytes : n + s.size ≤ 140737488355328) (hr : (Builtin.append_ #[t, u] ty #[v, .string s]).run P w = .ok v' W) (hnil : v' = .slice none 0 0 ↔ v = .slice none 0 0 ∧ s.size = 0) : v'.ownBlock = v.ownBlock ∨ v'.ownBlock = some w.heap.size := by
  have hm : n + s.size ≤ 9223372036854775807 := by simp only [maxLen] at h63; omega
  have hxl : xs.length = n := by simpa using hown.1
  rcases hown.2 with ⟨rfl, rfl⟩ | ⟨g, cap, cur, rfl, _, hg, _, _, hcs, _⟩
  · by_cases h0 : s.size = 0
    · exact .inl (by rw [hnil.2 ⟨rfl, h0⟩])
    · rw [run_append_nil_string (P := P) w t u ty e i (.int .u8 0) ht hu hi hz s (by omega) (by omega) (by rw [hby]; omega)] at hr
      injection hr with h1 _
      exact .inr (by rw [← h1]; rfl)
  · by_cases hroom : n + s.size ≤ cap
    · rw [Lib.run_append_room_string (P := P) w t u ty e i ht hu hi hsize g n cap cur hg s hroom (by have := hcs; omega)] at hr
      injection hr with h1 _
      exact .inl (by rw [← h1]; rfl)
    · rw [Lib.run_append_grow_string (P := P) w t u ty e i (.int .u8 0) ht hu hi hz ⟨g, 0, none⟩ n cap xs (by rw [hsize]; simpa using hxl) (hown.cells (g := g) rfl) s (by omega) (by omega) (by rw [hby]; exact growslice_fits (by omega) (by omega))] at hr
      injection hr with h1 _
      exact .inr (by rw [← h1]; rfl)

theorem wpList_append_text {P : Program} (w : World) {ops : Array Oper} {rest : List Oper} {o : Oper} {a : Act} {Q : Exit → Act → World → Prop} (hgd : o.guard = none) (sl x : Operand) (t u : TypeId)
    (ho : o.op = .call { callee := .builtin .append, args := #[sl, x], argTypes := #[t, u] }) (base : Nat) (e : TypeId) (i : TypeInfo) (ht : P.underlying t = some (.slice e)) (hu : P.underlying u = some .string) (hi : P.info? e = some i) (hz : i.zero = some (.int .u8 0)) (hsize : i.size = 1) (hby : i.bytes = 1)
    (v : Value) (n : Nat) (xs : List Value) (hs : a.eval sl = v) (hown : w.ownsRow base e 1 v n xs) (s : ByteArray) (hx : a.eval x = .string s) (h63 : n + s.size ≤ maxLen) (hbytes : n + s.size ≤ 140737488355328) (hbase : base ≤ w.heap.size)
    (h : ∀ v' w', w'.ownsRow base e 1 v' (n + s.size) (xs ++ Lib.strCells s) → w.grownBy w' v.ownBlock → (v'.ownBlock = v.ownBlock ∨ v'.ownBlock = some w.heap.size) → wpList P ops Q rest (a.put o.dst v') w') : wpList P ops Q (o :: rest) a w := by
  obtain ⟨v', w', hr, h2, h3, h4⟩ := Lib.run_append_own_string (P := P) w base t u o.type e i ht hu hi hz hsize hby v n xs hown s h63 hbytes hbase
  have h5 := append_text_at ht hu hi hz hsize hby hown h63 hbytes hr h4
  refine wpList_plain hgd fun K hK => ?_
  have hgo : K (a.put o.dst v') w' := hK _ _ (h v' w' h2 h3 h5)
  simp only [Oper.wp, execOp, ho, resolve, invoke, builtin, Sem.run_bind, Sem.run_pure, Result.andThen_ok, List.map_toArray, List.map_cons, List.map_nil, hs, hx, hr]
  exact hgo

set_option maxHeartbeats 2000000 in
set_option maxRecDepth 100000 in
theorem writeString_any (B b : Nat) (bs : List Value) (s : ByteArray) (w : World) (h : IsW B b bs w) (hlen : bs.length + s.size ≤ 1000000) (hBw : B ≤ w.heap.size) :
    Calls Tryd.prog 84 #[.pointer (some ⟨b, 0, none⟩), .string s] w fun e w' => e = .returned (.tuple #[.int .i64 s.size, .nilIface]) ∧ WAt B b (.pointer (some ⟨b, 0, none⟩)) (bs ++ Lib.strCells s) w' ∧ Kp B b w w' := by
  obtain ⟨i0, hi, hz0, hz1, hz2⟩ := info_parts Tryd.infoByte
  have HC : Hid (Calls Tryd.prog 89 #[.pointer (some ⟨b, 0, none⟩)] w fun e w' => e = .returned (.tuple #[]) ∧ WAt B b (.pointer (some ⟨b, 0, none⟩)) bs w' ∧ Kp B b w w') := copy_any B b bs w h
  clear h
  go_enter Tryd.func84, Tryd.ntmps84
  go_wp2_with fail
  refine HC.out.mono ?_
  rintro e w1 ⟨rfl, h1, hb1⟩
  obtain ⟨hB, v, hbk, hown, hne⟩ := h1
  have c0 : w1.cell? ⟨b, 0, none⟩ = some (.pointer (some ⟨b, 0, none⟩)) := cellsAt hbk 0
  have c1 : w1.cell? ⟨b, 1, none⟩ = some v := cellsAt hbk 1
  have hsz1 := hb1.size
  have HO : Hid (w1.ownsRow B 5 1 v bs.length bs) := hown
  have HK : Hid (w1.heap[b]? = some (.cells #[.pointer (some ⟨b, 0, none⟩), v] 81 (0, 0))) := hbk
  clear hown hbk
  go_wp2_with (at_builtin; refine wpList_append_text _ rfl _ _ 77 9 rfl B 5 i0 Tryd.underlying77 Tryd.underlying9 hi hz0 hz1 hz2 _ bs.length bs rfl HO.out s rfl ?c3 ?c4 ?c5 ?_)
  case c3 => (unfold maxLen; omega)
  case c4 => omega
  case c5 => omega
  intro v' w2 hown' hgrow hat
  have hlt : b < w1.heap.size := (Array.getElem?_eq_some_iff.1 HK.out).1
  have hb2 : w2.heap[b]? = some (.cells #[.pointer (some ⟨b, 0, none⟩), v] 81 (0, 0)) := by
    rw [hgrow.block b hlt (fun e => hne e.symm)]
    exact HK.out
  have d0 : w2.cell? ⟨b, 0, none⟩ = some (.pointer (some ⟨b, 0, none⟩)) := cellsAt hb2 0
  have d1 : w2.cell? ⟨b, 1, none⟩ = some v := cellsAt hb2 1
  have f1 : w2.frozen? ⟨b, 1, none⟩ = false := Lib.frozen_of_heap hb2 1
  have HB2 : Hid (Below B w w2 ∧ Lib.OthersKept 5 (some b) w w2) := (show _ ∧ _ from ⟨hb1.bel.grown hgrow (by omega) (fun k hk => (HO.out.lt k hk).1), hb1.oth.grown hgrow (own_kind HO.out)⟩)
  have HKQ : Hid (Kq b w (w2.setCell ⟨b, 1, none⟩ v')) := hb1.kq.trans (Kq.step HK.out hb2 (fun k hk hkn => hgrow.block k hk hkn) (hat.imp id (fun e k hk => by rw [e] at hk; simp at hk; omega))) hsz1
  have HK2 : Hid (w2.heap[b]? = some (.cells #[.pointer (some ⟨b, 0, none⟩), v] 81 (0, 0))) := hb2
  have HO2 : Hid (w2.ownsRow B 5 1 v' (bs ++ Lib.strCells s).length (bs ++ Lib.strCells s)) := (show World.ownsRow _ _ _ _ _ _ _ by simpa [Lib.strCells_length] using hown')
  obtain ⟨ao, n', cap, hv⟩ : ∃ ao n' cap, v' = .slice ao n' cap := by
    rcases hown'.2 with ⟨hv, _⟩ | ⟨g, cap, cur, hv, _⟩
    · exact ⟨_, _, _, hv⟩
    · exact ⟨_, _, _, hv⟩
  subst hv
  clear hown' hgrow hb2 c0 c1 hb1 hat
  go_wp2_with fail
  go_ret2
  refine ⟨rfl, ?_, ?_⟩
  · exact Lib.BuilderAt.put (T := 81) (e := 5) hB HK2.out (bs' := bs ++ Lib.strCells s) HO2.out (by decide)
  · exact ⟨HB2.out.1.setCell (p := ⟨b, 1, none⟩) hB _, HB2.out.2.setCell ⟨b, 1, none⟩ rfl _, HKQ.out⟩

theorem nbs_len (n : Int) : ∀ k, (nbs n k).length = k
  | 0 => rfl
  | k + 1 => by simp [nbs, nbs_len n k]

set_option maxHeartbeats 800000 in
set_option maxRecDepth 100000 in
/-- A text behind its length. -/
theorem counted_any (B b : Nat) (bs : List Value) (s : ByteArray) (w : World) (h : IsW B b bs w) (hlen : bs.length ≤ 90000) (hs : s.size ≤ 1000) (hBw : B ≤ w.heap.size) :
    Calls Tryd.prog 81 #[.pointer (some ⟨b, 0, none⟩), .string s] w fun e w' => e = .returned (.tuple #[]) ∧ IsW B b (bs ++ (nbs s.size 1 ++ Lib.strCells s)) w' ∧ Kp B b w w' := by
  have HI : Hid (IsW B b bs w) := h
  clear h
  go_enter Tryd.func81, Tryd.ntmps81
  go_wp2_with fail
  refine (wnumber_any B b 1 s.size bs w HI.out (by omega) (by omega) hBw).mono ?_
  rintro e w1 ⟨rfl, h1, hb1⟩
  have hz1 := hb1.size
  go_wp2_with fail
  refine (writeString_any B b _ s w1 h1 (by rw [List.length_append, nbs_len]; omega) (by omega)).mono ?_
  rintro e w2 ⟨rfl, h2, hb2⟩
  have HW2 : Hid (IsW B b (bs ++ (nbs s.size 1 ++ Lib.strCells s)) w2) := (show IsW _ _ _ _ by rw [← List.append_assoc]; exact .inr h2)
  have HB2 : Hid (Kp B b w w2) := hb1.trans hb2
  clear h1 hb1 h2 hb2
  go_wp2_with fail
  simp [bodyPost, results, Tryd.results81]
  exact ⟨HW2.out, HB2.out⟩

end Go.Proofs.YtogmkdhljifbpaaDoor

/- Contracts of the library, laid at this program. -/
namespace Go.Proofs
open Go.Shelf
def Tryd.lays219_ren : Go.Shelf.Ren := ⟨fun | 219 => 63 | 217 => 75 | 225 => 76 | 224 => 77 | 267 => 78 | 266 => 87 | 314 => 88 | n => n, fun | 9 => 9 | 3 => 3 | 4 => 4 | 5 => 5 | 46 => 91 | 146 => 105 | 51 => 104 | n => n, fun | 1 => 0 | n => n⟩
theorem Tryd.lays219 : Go.Proofs.Lays.n219 Tryd.prog Tryd.lays219_ren := {
  mixed := by kernel_rfl
  f217 := Tryd.func75.trans (congrArg some (by kernel_rfl))
  f219 := Tryd.func63.trans (congrArg some (by kernel_rfl))
  f224 := Tryd.func77.trans (congrArg some (by kernel_rfl))
  f225 := Tryd.func76.trans (congrArg some (by kernel_rfl))
  f266 := Tryd.func87.trans (congrArg some (by kernel_rfl))
  f267 := Tryd.func78.trans (congrArg some (by kernel_rfl))
  f314 := Tryd.func88.trans (congrArg some (by kernel_rfl))
  t3 := Tryd.underlying3
  a3 := Tryd.isAgg3
  z3 := Tryd.sizeOf3
  v3 := Tryd.zeroValue3
  t4 := Tryd.underlying4
  a4 := Tryd.isAgg4
  z4 := Tryd.sizeOf4
  v4 := Tryd.zeroValue4
  t5 := Tryd.underlying5
  a5 := Tryd.isAgg5
  z5 := Tryd.sizeOf5
  v5 := Tryd.zeroValue5
  t9 := Tryd.underlying9
  a9 := Tryd.isAgg9
  z9 := Tryd.sizeOf9
  v9 := Tryd.zeroValue9
  t46 := Tryd.underlying91
  a46 := Tryd.isAgg91
  z46 := Tryd.sizeOf91
  v46 := Tryd.zeroValue91
  t51 := Tryd.underlying104
  a51 := Tryd.isAgg104
  z51 := Tryd.sizeOf104
  v51 := Tryd.zeroValue104
  t146 := Tryd.underlying105
  a146 := Tryd.isAgg105
  z146 := Tryd.sizeOf105
  v146 := Tryd.zeroValue105
  g1 := by kernel_rfl }
open Go.RowKit Go.Lib in
theorem Tryd.stringslite_Index_one (s : ByteArray) (c : UInt8) (w : World) :
    Calls Tryd.prog 63 #[.string s, .string ⟨#[c]⟩] w fun e w' => e = .returned (.int .i64 (Lib.indexByte s.data.toList c)) ∧ w' = w := Any.stringslite_Index_one Tryd.lays219 s c w
def Tryd.lays138_ren : Go.Shelf.Ren := ⟨fun | 138 => 25 | 195 => 45 | 218 => 46 | 143 => 47 | 219 => 63 | 217 => 75 | 225 => 76 | 224 => 77 | 267 => 78 | 266 => 87 | 314 => 88 | n => n, fun | 9 => 9 | 3 => 3 | 4 => 4 | 5 => 5 | 0 => 0 | 46 => 91 | 146 => 105 | 51 => 104 | n => n, fun | 1 => 0 | n => n⟩
theorem Tryd.lays138 : Go.Proofs.Lays.n138 Tryd.prog Tryd.lays138_ren := {
  mixed := by kernel_rfl
  f138 := Tryd.func25.trans (congrArg some (by kernel_rfl))
  f143 := Tryd.func47.trans (congrArg some (by kernel_rfl))
  f195 := Tryd.func45.trans (congrArg some (by kernel_rfl))
  f217 := Tryd.func75.trans (congrArg some (by kernel_rfl))
  f218 := Tryd.func46.trans (congrArg some (by kernel_rfl))
  f219 := Tryd.func63.trans (congrArg some (by kernel_rfl))
  f224 := Tryd.func77.trans (congrArg some (by kernel_rfl))
  f225 := Tryd.func76.trans (congrArg some (by kernel_rfl))
  f266 := Tryd.func87.trans (congrArg some (by kernel_rfl))
  f267 := Tryd.func78.trans (congrArg some (by kernel_rfl))
  f314 := Tryd.func88.trans (congrArg some (by kernel_rfl))
  t0 := Tryd.underlying0
  a0 := Tryd.isAgg0
  z0 := Tryd.sizeOf0
  v0 := Tryd.zeroValue0
  t3 := Tryd.underlying3
  a3 := Tryd.isAgg3
  z3 := Tryd.sizeOf3
  v3 := Tryd.zeroValue3
  t4 := Tryd.underlying4
  a4 := Tryd.isAgg4
  z4 := Tryd.sizeOf4
  v4 := Tryd.zeroValue4
  t5 := Tryd.underlying5
  a5 := Tryd.isAgg5
  z5 := Tryd.sizeOf5
  v5 := Tryd.zeroValue5
  t9 := Tryd.underlying9
  a9 := Tryd.isAgg9
  z9 := Tryd.sizeOf9
  v9 := Tryd.zeroValue9
  t46 := Tryd.underlying91
  a46 := Tryd.isAgg91
  z46 := Tryd.sizeOf91
  v46 := Tryd.zeroValue91
  t51 := Tryd.underlying104
  a51 := Tryd.isAgg104
  z51 := Tryd.sizeOf104
  v51 := Tryd.zeroValue104
  t146 := Tryd.underlying105
  a146 := Tryd.isAgg105
  z146 := Tryd.sizeOf105
  v146 := Tryd.zeroValue105
  g1 := by kernel_rfl }
open Go.RowKit Go.Lib in
theorem Tryd.strings_Count_one (s : ByteArray) (c : UInt8) (w : World) :
    Calls Tryd.prog 25 #[.string s, .string ⟨#[c]⟩] w fun e w' => e = .returned (.int .i64 (Lib.countByte s.data.toList c)) ∧ w' = w := Any.strings_Count_one Tryd.lays138 s c w
end Go.Proofs

/- strings.Cut at a dot; whether a name has a label of some kind; what is wrong with a name. -/
namespace Go.Proofs.YtogmkdhljifbpaaDoor
open Go.RowKit

theorem belowN {B : Nat} {w w1 : World} (h : Below B w w1) (m : Nat) : Below B w (w1.drewN m) := ⟨h.os, h.tape, h.output, h.size, h.block⟩
theorem ext_to (s : ByteArray) (i : Nat) : s.extract 0 i = mk (s.data.toList.take i) := by
  rw [← mk_data (s.extract 0 i), Lib.extract_from_zero]
theorem ext_from (s : ByteArray) (i : Nat) : s.extract i s.size = mk (s.data.toList.drop i) := by
  rw [← mk_data (s.extract i s.size), Lib.extract_to_end]

set_option maxHeartbeats 800000 in
theorem scut_none (s : ByteArray) (w : World) (h : Lib.indexByte s.data.toList 46 = -1) :
    Calls Tryd.prog 62 #[.string s, .string ⟨#[46]⟩] w fun e w' => e = .returned (.tuple #[.string s, .string ⟨#[]⟩, .bool false]) ∧ w' = w := by
  go_enter Tryd.func62, Tryd.ntmps62
  go_wp2_with (go_at_call 63; refine (Tryd.stringslite_Index_one s 46 _).mono ?_; rintro e w' ⟨rfl, rfl⟩; rw [h])
  go_ret3
  exact ⟨rfl, rfl⟩

set_option maxHeartbeats 1600000 in
theorem scut_some (s : ByteArray) (i : Nat) (w : World) (h : Lib.indexByte s.data.toList 46 = (i : Int)) (hs : s.size ≤ maxLen) :
    Calls Tryd.prog 62 #[.string s, .string ⟨#[46]⟩] w fun e w' => e = .returned (.tuple #[.string (s.extract 0 i), .string (s.extract (i + 1) s.size), .bool true]) ∧ ∃ n, w' = w.drewN n := by
  have hi : i < s.size := by have := (ix_some h).1; simpa using this
  unfold maxLen at hs
  have h0 : ((i : Int)).toNat = i := by omega
  have h1 : IntKind.i64.wrap ((i : Int) + 1) = ((i + 1 : Nat) : Int) := by rw [IntKind.wrap_i64]; omega
  have h2 : (((i + 1 : Nat) : Int)).toNat = i + 1 := by omega
  have h3 : ((s.size : Int)).toNat = s.size := by omega
  go_enter Tryd.func62, Tryd.ntmps62
  go_wp2_with (go_at_call 63; refine (Tryd.stringslite_Index_one s 46 _).mono ?_; rintro e w' ⟨rfl, rfl⟩; rw [h])
  go_quiet (fail)
  go_wp2_with fail
  go_ret3
  exact ⟨rfl, ⟨_, rfl⟩⟩

set_option maxHeartbeats 800000 in
theorem cut_none (s : ByteArray) (w : World) (h : Lib.indexByte s.data.toList 46 = -1) :
    Calls Tryd.prog 44 #[.string s, .string ⟨#[46]⟩] w fun e w' => e = .returned (.tuple #[.string s, .string ⟨#[]⟩, .bool false]) ∧ Below w.heap.size w w' := by
  go_enter Tryd.func44, Tryd.ntmps44
  go_wp2_with (go_at_call 62; refine (scut_none s _ h).mono ?_; rintro e w' ⟨rfl, rfl⟩)
  go_ret3
  exact ⟨rfl, Below.refl _ _⟩

set_option maxHeartbeats 800000 in
theorem cut_some (s : ByteArray) (i : Nat) (w : World) (h : Lib.indexByte s.data.toList 46 = (i : Int)) (hs : s.size ≤ maxLen) :
    Calls Tryd.prog 44 #[.string s, .string ⟨#[46]⟩] w fun e w' => e = .returned (.tuple #[.string (s.extract 0 i), .string (s.extract (i + 1) s.size), .bool true]) ∧ Below w.heap.size w w' := by
  go_enter Tryd.func44, Tryd.ntmps44
  go_wp2_with (go_at_call 62; refine (scut_some s i _ h hs).mono ?_; rintro e w' ⟨rfl, n, rfl⟩)
  go_ret3
  exact ⟨rfl, belowN (Below.refl _ _) _⟩

set_option maxHeartbeats 400000 in
theorem isNone_any (s : ByteArray) (w : World) (hs : s.size ≤ maxLen) :
    Calls Tryd.prog 22 #[.string s] w fun e w' => e = .returned (.bool (!labB s)) ∧ w' = w := by
  go_enter Tryd.func22, Tryd.ntmps22
  go_wp2_with (go_at_call 23; refine (label_any _ _ hs).mono ?_; rintro e w' ⟨rfl, rfl⟩)
  go_ret
  exact ⟨rfl, rfl⟩

def szOf : Value → Nat
  | .string r => r.size
  | _ => 0
def tOf : Value → Nat
  | .bool true => 1
  | _ => 0

theorem sz_end (r : ByteArray) : szOf (.string ⟨#[]⟩) + tOf (.bool false) < szOf (.string r) + tOf (.bool true) := by
  show 0 + 0 < r.size + 1
  omega

set_option maxHeartbeats 1600000 in
theorem hasLabel_any (s : ByteArray) (w : World) (hs : s.size ≤ maxLen) :
    Calls Tryd.prog 24 #[.string s, .func (.func 22) #[] #[]] w fun e w' => e = .returned (.bool (!(spl s.data.toList).all labL)) ∧ Below w.heap.size w w' := by
  have H0 : Hid ((spl s.data.toList).all labL = (spl s.data.toList).all labL) := rfl
  have HS : Hid (∀ r : ByteArray, r = s → r.size ≤ maxLen) := fun r h => by rw [h]; exact hs
  have HS0 := HS.out s rfl
  generalize hres : (spl s.data.toList).all labL = res at *
  have H1 : Hid (res = (spl s.data.toList).all labL) := hres.symm
  clear hres H0 HS hs
  go_enter Tryd.func24, Tryd.ntmps24
  go_wp2_with fail
  go_loopw [0, 5] (fun nm mo wr => ∃ r : ByteArray, nm = .string r ∧ r.size ≤ maxLen ∧ ((mo = .bool true ∧ Hid (res = (spl r.data.toList).all labL)) ∨ (mo = .bool false ∧ Hid (res = true))) ∧ Below w.heap.size w wr) (fun nm mo _ => szOf nm + tOf mo)
  case atStart => exact ⟨s, rfl, HS0, .inl ⟨rfl, H1⟩, Below.refl _ _⟩
  case round =>
    obtain ⟨r, rfl, hr, hmo, hbl⟩ := hrel
    have HB : Hid (Below w.heap.size w wr) := hbl
    clear hbl
    rcases hmo with ⟨rfl, hres⟩ | ⟨rfl, hres⟩
    · have hge := Lib.indexByte_ge r.data.toList 46
      by_cases hi : Lib.indexByte r.data.toList 46 = -1
      · have hL : res = labB r := by rw [hres.out, spl_none _ (ix_none hi)]; simp [labL, mk_data]
        have HC : Hid (∀ W, Calls Tryd.prog 44 #[.string r, .string ⟨#[46]⟩] W fun e w' => e = .returned (.tuple #[.string r, .string ⟨#[]⟩, .bool false]) ∧ Below W.heap.size W w') := fun W => cut_none r W hi
        clear hi hge hres
        rcases hb : labB r with _ | _
        · rw [hb] at hL
          have HL : Hid (res = false) := hL
          clear hL
          go_wp2_with (first | (go_at_call 44; refine (HC.out _).mono ?_; rintro e w1 ⟨rfl, hb1⟩) | (go_at_call 22; refine (isNone_any r _ hr).mono ?_; rintro e w2 ⟨rfl, rfl⟩; rw [hb]))
          go_ret
          exact ⟨ret_bool (by rw [HL.out]; rfl), HB.out.trans (hb1.mono HB.out.size)⟩
        · rw [hb] at hL
          have HL : Hid (res = true) := hL
          clear hL
          go_wp2_with (first | (go_at_call 44; refine (HC.out _).mono ?_; rintro e w1 ⟨rfl, hb1⟩) | (go_at_call 22; refine (isNone_any r _ hr).mono ?_; rintro e w2 ⟨rfl, rfl⟩; rw [hb]))
          exact ⟨⟨⟨#[]⟩, rfl, by decide, .inr ⟨rfl, HL⟩, HB.out.trans (hb1.mono HB.out.size)⟩, sz_end r⟩
      · obtain ⟨i, hi2⟩ : ∃ i : Nat, Lib.indexByte r.data.toList 46 = (i : Int) := ⟨(Lib.indexByte r.data.toList 46).toNat, by omega⟩
        obtain ⟨h1, h2, h3⟩ := ix_some hi2
        have hlt : i < r.size := by simpa using h1
        have hL : res = (labB (r.extract 0 i) && (spl (r.extract (i + 1) r.size).data.toList).all labL) := by
          rw [hres.out, ext_to, ext_from, data_mk]
          conv => lhs; rw [h2]
          rw [spl_app _ _ h3, List.all_cons]; rfl
        have hz1 : (r.extract 0 i).size ≤ maxLen := by rw [ext_to, mk_size, List.length_take]; simp; unfold maxLen at *; omega
        have hz2 : (r.extract (i + 1) r.size).size ≤ maxLen := by rw [ext_from, mk_size, List.length_drop]; simp; unfold maxLen at *; omega
        have hz3 : (r.extract (i + 1) r.size).size < r.size := by rw [ext_from, mk_size, List.length_drop]; simp; omega
        have HC : Hid (∀ W, Calls Tryd.prog 44 #[.string r, .string ⟨#[46]⟩] W fun e w' => e = .returned (.tuple #[.string (r.extract 0 i), .string (r.extract (i + 1) r.size), .bool true]) ∧ Below W.heap.size W w') := fun W => cut_some r i W hi2 hr
        clear hi hi2 hge hres h1 h2 h3
        generalize r.extract 0 i = la at *
        generalize r.extract (i + 1) r.size = re at *
        rcases hb : labB la with _ | _
        · rw [hb] at hL
          have HL : Hid (res = false) := hL
          clear hL
          go_wp2_with (first | (go_at_call 44; refine (HC.out _).mono ?_; rintro e w1 ⟨rfl, hb1⟩) | (go_at_call 22; refine (isNone_any la _ hz1).mono ?_; rintro e w2 ⟨rfl, rfl⟩; rw [hb]))
          go_ret
          exact ⟨ret_bool (by rw [HL.out]; rfl), HB.out.trans (hb1.mono HB.out.size)⟩
        · rw [hb, Bool.true_and] at hL
          have HL : Hid (res = (spl re.data.toList).all labL) := hL
          clear hL
          go_wp2_with (first | (go_at_call 44; refine (HC.out _).mono ?_; rintro e w1 ⟨rfl, hb1⟩) | (go_at_call 22; refine (isNone_any la _ hz1).mono ?_; rintro e w2 ⟨rfl, rfl⟩; rw [hb]))
          exact ⟨⟨re, rfl, hz2, .inl ⟨rfl, HL⟩, HB.out.trans (hb1.mono HB.out.size)⟩, by simp [szOf, tOf]; omega⟩
    · go_wp2_with fail
      go_ret
      exact ⟨ret_bool (by rw [hres.out]; rfl), HB.out⟩

end Go.Proofs.YtogmkdhljifbpaaDoor

/- dns.Check. -/
namespace Go.Proofs.YtogmkdhljifbpaaDoor
open Go.RowKit

theorem nempty {s : ByteArray} (h : s.size ≠ 0) : (s.toList == []) = false ∧ ¬ s.toList = [] := by
  have h3 : ¬ s.toList = [] := fun e => h (by
    rw [Lib.toList_data] at e
    have : s.data.toList.length = 0 := by rw [e]; rfl
    simpa using this)
  exact ⟨by simpa using h3, h3⟩
theorem isempty {s : ByteArray} (h : s.size = 0) : s = ⟨#[]⟩ := by
  cases s with
  | mk a => simp [ByteArray.size] at h; subst h; rfl

set_option maxHeartbeats 1600000 in
theorem dnsCheck_any (s : ByteArray) (w : World) (hs : s.size ≤ maxLen) :
    Calls Tryd.prog 10 #[.string s] w fun e w' => e = .returned (.int .i64 (chkN s)) ∧ Below w.heap.size w w' := by
  by_cases h0 : s.size = 0
  · have e0 : chkN s = 0 := by unfold chkN; rw [if_pos h0]
    rw [e0]
    have := isempty h0
    subst this
    clear e0 h0 hs
    go_enter Tryd.func10, Tryd.ntmps10
    go_wp2_with fail
    go_ret
    exact ⟨rfl, Below.refl _ _⟩
  · obtain ⟨n1, n2⟩ := nempty h0
    have HL : Hid (∀ W, Calls Tryd.prog 24 #[.string s, .func (.func 22) #[] #[]] W fun e w' => e = .returned (.bool (!(spl s.data.toList).all labL)) ∧ Below W.heap.size W w') := fun W => hasLabel_any s W hs
    have HE : Hid (chkN s = if (spl s.data.toList).all labL = false then 1 else if 8 < (spl s.data.toList).length ∨ 120 < s.size then 2 else 0) := (show chkN s = _ by unfold chkN; rw [if_neg h0])
    have hlen := spl_len s.data.toList
    unfold maxLen at hs
    clear h0
    generalize chkN s = r at *
    cases hall : (spl s.data.toList).all labL with
    | false =>
      have HR : Hid (r = 1) := (show r = 1 by rw [HE.out, if_pos hall])
      rw [hall] at HL
      clear HE
      go_enter Tryd.func10, Tryd.ntmps10
      go_wp2_with (go_at_call 24; refine (HL.out _).mono ?_; rintro e w1 ⟨rfl, hb1⟩)
      go_ret
      exact ⟨ret_int HR.out.symm, hb1⟩
    | true =>
      rw [hall] at HL
      have HE2 : Hid (r = if 8 < s.data.toList.count 46 + 1 ∨ 120 < s.size then 2 else 0) := (show r = _ by rw [HE.out, hall, hlen]; rfl)
      have hcl : s.data.toList.count 46 ≤ s.size := by have := List.count_le_length (a := (46 : UInt8)) (l := s.data.toList); simpa using this
      clear HE hlen hall
      have HCT : Hid (∀ W, Calls Tryd.prog 25 #[.string s, .string ⟨#[46]⟩] W fun e w' => e = .returned (.int .i64 ((s.data.toList.count 46 : Nat) : Int)) ∧ w' = W) := fun W => Tryd.strings_Count_one s 46 W
      generalize s.data.toList.count 46 = cn at *
      by_cases h1 : 8 ≤ cn
      · have HR : Hid (r = 2) := (show r = 2 by rw [HE2.out, if_pos (.inl (by omega))])
        clear HE2
        have h2 : decide (8 ≤ (cn : Int)) = true := by simp; omega
        go_enter Tryd.func10, Tryd.ntmps10
        go_wp2_with (first | (go_at_call 24; refine (HL.out _).mono ?_; rintro e w1 ⟨rfl, hb1⟩) | (go_at_call 25; refine (HCT.out _).mono ?_; rintro e w2 ⟨rfl, rfl⟩))
        go_ret
        exact ⟨ret_int HR.out.symm, hb1⟩
      · have h2 : decide (8 ≤ (cn : Int)) = false := by simp; omega
        by_cases h3 : 120 < s.size
        · have HR : Hid (r = 2) := (show r = 2 by rw [HE2.out, if_pos (.inr h3)])
          clear HE2
          have h4 : decide (120 < (s.size : Int)) = true := by simp; omega
          go_enter Tryd.func10, Tryd.ntmps10
          go_wp2_with (first | (go_at_call 24; refine (HL.out _).mono ?_; rintro e w1 ⟨rfl, hb1⟩) | (go_at_call 25; refine (HCT.out _).mono ?_; rintro e w2 ⟨rfl, rfl⟩))
          go_ret
          exact ⟨ret_int HR.out.symm, hb1⟩
        · have HR : Hid (r = 0) := (show r = 0 by rw [HE2.out, if_neg (by omega)])
          clear HE2
          have h4 : decide (120 < (s.size : Int)) = false := by simp; omega
          go_enter Tryd.func10, Tryd.ntmps10
          go_wp2_with (first | (go_at_call 24; refine (HL.out _).mono ?_; rintro e w1 ⟨rfl, hb1⟩) | (go_at_call 25; refine (HCT.out _).mono ?_; rintro e w2 ⟨rfl, rfl⟩))
          go_ret
          exact ⟨ret_int HR.out.symm, hb1⟩

end Go.Proofs.YtogmkdhljifbpaaDoor

/- The document's labels of a name. -/
namespace Go.Proofs.YtogmkdhljifbpaaDoor
open Go.RowKit

/-- A name's labels: none of an empty one. -/
def labs (s : ByteArray) : List ByteArray := if s.size = 0 then [] else (spl s.data.toList).map mk

theorem ext_mid (s : ByteArray) (a b : Nat) : s.extract a b = mk ((s.data.toList.drop a).take (b - a)) := by
  rw [← mk_data (s.extract a b)]
  congr 1
  rw [Lib.extract_data]
theorem free_step {l : List UInt8} {a b : Nat} (hab : a ≤ b) (hb : b < l.length) (h : 46 ∉ (l.drop a).take (b - a)) (hc : l[b] ≠ 46) : 46 ∉ (l.drop a).take (b + 1 - a) := by
  have e : b + 1 - a = (b - a) + 1 := by omega
  have hl : b - a < (l.drop a).length := by rw [List.length_drop]; omega
  rw [e, List.take_succ_eq_append_getElem hl]
  intro hm
  rcases List.mem_append.1 hm with h2 | h2
  · exact h h2
  · simp only [List.mem_singleton, List.getElem_drop] at h2
    have : a + (b - a) = b := by omega
    simp only [this] at h2
    exact hc h2.symm
theorem spl_part {l : List UInt8} {a b : Nat} (hab : a ≤ b) (hb : b < l.length) (h : 46 ∉ (l.drop a).take (b - a)) (hc : l[b] = 46) : spl (l.drop a) = (l.drop a).take (b - a) :: spl (l.drop (b + 1)) := by
  have e : l.drop a = (l.drop a).take (b - a) ++ 46 :: l.drop (b + 1) := by
    have h1 : (l.drop a).drop (b - a) = l.drop b := by rw [List.drop_drop]; congr 1; omega
    have h2 : l.drop b = 46 :: l.drop (b + 1) := by rw [List.drop_eq_getElem_cons hb, hc]
    rw [← h2, ← h1, List.take_append_drop]
  conv => lhs; rw [e]
  exact spl_app _ _ h

theorem spl_le (s : ByteArray) : (spl s.data.toList).length ≤ s.size + 1 := by
  rw [spl_len]
  have h5 : s.data.toList.count 46 ≤ s.data.toList.length := List.count_le_length
  have h6 : s.data.toList.length = s.size := by simp
  omega
theorem byte_is {s : ByteArray} {k : Nat} (h : k < s.size) (hb : s[k] = 46) (hl : k < s.data.toList.length) : s.data.toList[k] = 46 := by
  rw [← hb]; simp [ByteArray.getElem_eq_getElem_data]
theorem byte_ne {s : ByteArray} {k : Nat} (h : k < s.size) (hb : s[k] ≠ 46) (hl : k < s.data.toList.length) : s.data.toList[k] ≠ 46 := fun e => hb (by
  rw [← e]; simp [ByteArray.getElem_eq_getElem_data])
theorem toNat_ne {c : UInt8} (h : c ≠ 46) : ((c.toNat : Int) == 46) = false ∧ ¬ (c.toNat : Int) = 46 := by
  have h2 : ¬ (c.toNat : Int) = 46 := fun e => h (UInt8.toNat_inj.1 (by have : c.toNat = 46 := by omega
                                                                        rw [this]; rfl))
  exact ⟨by simpa using h2, h2⟩

set_option maxHeartbeats 3200000 in
set_option maxRecDepth 100000 in
theorem labelsOf_any (s : ByteArray) (w : World) (hs : s.size ≤ 2000000) :
    Calls Tryd.prog 26 #[.string s] w fun e w' => ∃ v, e = .returned v ∧ OwnS w.heap.size w' v (labs s) ∧ Below w.heap.size w w' := by
  by_cases h0 : s.size = 0
  · have e0 : labs s = [] := by unfold labs; rw [if_pos h0]
    rw [e0]
    have := isempty h0
    subst this
    clear e0 h0 hs
    go_enter Tryd.func26, Tryd.ntmps26
    go_wp2_with fail
    go_ret
    exact ⟨_, rfl, ownS_nil _ _, Below.refl _ _⟩
  · obtain ⟨n1, n2⟩ := nempty h0
    obtain ⟨i0, hi0, hz0, hzs, hzb⟩ := info_parts Tryd.info9
    have HL : Hid (labs s = (spl s.data.toList).map mk) := (show labs s = _ by unfold labs; rw [if_neg h0])
    have HCN : Hid ((spl s.data.toList).length ≤ s.size + 1) := spl_le s
    generalize labs s = LS at *
    clear h0
    go_enter Tryd.func26, Tryd.ntmps26
    go_wp2_with fail
    go_loopw [3, 4, 5] (fun o f i wr => ∃ (a k : Nat) (D : List (List UInt8)), a ≤ k ∧ k ≤ s.size ∧ f = .int .i64 a ∧ i = .int .i64 k ∧ Hid (spl s.data.toList = D ++ spl (s.data.toList.drop a)) ∧ Hid (46 ∉ (s.data.toList.drop a).take (k - a)) ∧ Hid (Below w.heap.size w wr) ∧ Hid (OwnS w.heap.size wr o (D.map mk))) (fun _ _ i _ => s.size - (intOf i).toNat)
    case atStart => exact ⟨0, 0, [], Nat.le_refl _, Nat.zero_le _, rfl, rfl, rfl, (show 46 ∉ _ by simp), Below.refl _ _, ownS_nil _ _⟩
    case round =>
      obtain ⟨a, k, D, hak, hk, rfl, rfl, HS, HFR, HB, HO⟩ := hrel
      have hsz := HB.out.size
      have hDl : D.length ≤ s.size + 1 := by
        have h5 := HCN.out
        rw [HS.out, List.length_append] at h5
        omega
      have ha1 : (0 : Int) ≤ (a : Int) := by omega
      have ha3 : ((a : Int)).toNat = a := by omega
      have hk3 : ((k : Int)).toNat = k := by omega
      by_cases hlt : k < s.size
      · have hak2 : (a : Int) ≤ (k : Int) := by omega
        have hks : (k : Int) ≤ (s.size : Int) := by omega
        by_cases hb : s[k] = 46
        · have hn46 : ((s[k]).toNat : Int) = 46 := by rw [hb]; rfl
          have HS2 : Hid (spl s.data.toList = (D ++ [(s.data.toList.drop a).take (k - a)]) ++ spl (s.data.toList.drop (k + 1))) := (show _ = _ by
            have hlk : k < s.data.toList.length := by simpa using hlt
            rw [HS.out, spl_part hak hlk HFR.out (byte_is hlt hb hlk)]; simp)
          have HX : Hid (mk ((s.data.toList.drop a).take (k - a)) = s.extract a k) := (ext_mid s a k).symm
          clear HS HFR
          go_wp2_with (at_builtin; refine wpList_append_own _ rfl _ _ 46 rfl w.heap.size 9 i0 _ 1 16 Tryd.underlying46 hi0 hz0 hzs hzb rfl (by omega) _ (D.map mk).length ((D.map mk).map Value.string) rfl ?hown ⟨wr.heap.size, 0, none⟩ 1 1 [.string (s.extract a k)] rfl rfl ?hnews (strs_one [_]) ?h63 ?hbytes ?hbase ?_)
          case hown => exact HO.out.below ((Below.refl _ _).alloc (Nat.le_refl _) _)
          case hnews => (intro j u hj; rw [Addr.add_lit]; exact (cell_topL (by simp)).trans (by simpa using hj))
          case h63 => (rw [List.length_map]; unfold maxLen; omega)
          case hbytes => (rw [List.length_map]; omega)
          case hbase => (simp; omega)
          intro v' w2 r1 r2 r3
          have HBX : Hid (Below w.heap.size w w2) := (HB.out.alloc hsz _).grown r2 (by simp; omega) (fun j hj => (HO.out.lt j hj).1)
          have HOX : Hid (OwnS w.heap.size w2 v' ((D ++ [(s.data.toList.drop a).take (k - a)]).map mk)) := (show OwnS _ _ _ _ by
            rw [List.map_append, List.map_cons, List.map_nil, HX.out]; exact ownS_snoc (l := D.map mk) (by rw [List.length_map, List.map_map]; exact r1))
          clear r1 r2 r3 hb hn46
          go_wp2_with fail
          exact ⟨⟨k + 1, k + 1, D ++ [(s.data.toList.drop a).take (k - a)], Nat.le_refl _, by omega, by go_num, by go_num, HS2, (show 46 ∉ _ by simp), HBX, HOX⟩, by simp [intOf]; omega⟩
        · obtain ⟨hn1, hn2⟩ := toNat_ne hb
          have HF2 : Hid (46 ∉ (s.data.toList.drop a).take (k + 1 - a)) := (show 46 ∉ _ by
            have hlk : k < s.data.toList.length := by simpa using hlt
            exact free_step hak hlk HFR.out (byte_ne hlt hb hlk))
          clear hb HFR
          go_wp2_with fail
          exact ⟨⟨a, k + 1, D, by omega, by omega, rfl, by go_num, HS, HF2, HB, HO⟩, by simp [intOf]; omega⟩
      · have hkn : k = s.size := by omega
        have HX : Hid (mk (s.data.toList.drop a) = s.extract a s.size) := (ext_from s a).symm
        have HS2 : Hid (LS = D.map mk ++ [mk (s.data.toList.drop a)]) := (show LS = _ by
          have h46 : 46 ∉ s.data.toList.drop a := by
            have h := HFR.out
            rwa [List.take_of_length_le (by rw [List.length_drop]; simp; omega)] at h
          rw [HL.out, HS.out, spl_none _ h46]; simp)
        have has : (a : Int) ≤ (s.size : Int) := by omega
        clear HS HFR HL
        go_wp2_with (at_builtin; refine wpList_append_own _ rfl _ _ 46 rfl w.heap.size 9 i0 _ 1 16 Tryd.underlying46 hi0 hz0 hzs hzb rfl (by omega) _ (D.map mk).length ((D.map mk).map Value.string) rfl ?hown ⟨wr.heap.size, 0, none⟩ 1 1 [.string (s.extract a s.size)] rfl rfl ?hnews (strs_one [_]) ?h63 ?hbytes ?hbase ?_)
        case hown => exact HO.out.below ((Below.refl _ _).alloc (Nat.le_refl _) _)
        case hnews => (intro j u hj; rw [Addr.add_lit]; exact (cell_topL (by simp)).trans (by simpa using hj))
        case h63 => (rw [List.length_map]; unfold maxLen; omega)
        case hbytes => (rw [List.length_map]; omega)
        case hbase => (simp; omega)
        intro v' w2 r1 r2 r3
        have HBX : Hid (Below w.heap.size w w2) := (HB.out.alloc hsz _).grown r2 (by simp; omega) (fun j hj => (HO.out.lt j hj).1)
        have HOX : Hid (OwnS w.heap.size w2 v' LS) := (show OwnS _ _ _ _ by
          rw [HS2.out, HX.out]; exact ownS_snoc (l := D.map mk) (by rw [List.length_map, List.map_map]; exact r1))
        clear r1 r2 r3
        go_wp2_with fail
        go_ret
        exact ⟨v', rfl, HOX.out, HBX.out⟩

end Go.Proofs.YtogmkdhljifbpaaDoor

/- The document's check of a name. -/
namespace Go.Proofs.YtogmkdhljifbpaaDoor
open Go.RowKit

theorem chkN_labs (s : ByteArray) : chkN s = if (labs s).all labB = false then 1 else if 8 < (labs s).length ∨ 120 < s.size then 2 else 0 := by
  unfold chkN labs
  by_cases h0 : s.size = 0
  · rw [if_pos h0, if_pos h0]; simp [h0]
  · rw [if_neg h0, if_neg h0]
    have e : ((spl s.data.toList).map mk).all labB = (spl s.data.toList).all labL := by rw [List.all_map]; rfl
    rw [e, List.length_map]

theorem labs_len (s : ByteArray) : (labs s).length ≤ s.size + 1 := by
  unfold labs
  split
  · simp
  · rw [List.length_map]; exact spl_le s
theorem len_le_jn : ∀ {xs : List (List UInt8)} {x : List UInt8}, x ∈ xs → x.length ≤ (jn xs).length
  | [y], x, h => by simp at h; subst h; exact Nat.le_refl _
  | y :: z :: r, x, h => by
    have e : (jn (y :: z :: r)).length = y.length + 1 + (jn (z :: r)).length := by
      show (y ++ 46 :: jn (z :: r)).length = _
      simp; omega
    rcases List.mem_cons.1 h with rfl | h2
    · omega
    · have := len_le_jn h2; omega
theorem labs_size (s : ByteArray) (hs : s.size ≤ maxLen) : ∀ j, ((labs s).getD j ByteArray.empty).size ≤ maxLen := fun j => by
  by_cases hj : j < (labs s).length
  · rw [show (labs s).getD j ByteArray.empty = (labs s)[j] by simp [List.getD, List.getElem?_eq_getElem hj]]
    have hm : (labs s)[j] ∈ labs s := List.getElem_mem hj
    revert hm
    generalize (labs s)[j] = x
    unfold labs
    split
    · simp
    · intro hm
      obtain ⟨y, hy, rfl⟩ := List.mem_map.1 hm
      rw [mk_size]
      have h := len_le_jn hy
      rw [jn_spl] at h
      have h6 : s.data.toList.length = s.size := by simp
      omega
  · rw [show (labs s).getD j ByteArray.empty = ByteArray.empty by simp [List.getD, List.getElem?_eq_none (by omega : (labs s).length ≤ j)]]; decide

set_option maxHeartbeats 1600000 in
theorem rCheckName_any (s : ByteArray) (w : World) (hs : s.size ≤ 2000000) :
    Calls Tryd.prog 11 #[.string s] w fun e w' => e = .returned (.int .i64 (chkN s)) ∧ Below w.heap.size w w' := by
  have HLO : Hid (Calls Tryd.prog 26 #[.string s] w fun e w' => ∃ v, e = .returned v ∧ OwnS w.heap.size w' v (labs s) ∧ Below w.heap.size w w') := labelsOf_any s w hs
  have hsm : s.size ≤ maxLen := by unfold maxLen; omega
  have HZ : Hid (∀ j, ((labs s).getD j ByteArray.empty).size ≤ maxLen) := labs_size s hsm
  have HE : Hid (chkN s = if (labs s).all labB = false then 1 else if 8 < (labs s).length ∨ 120 < s.size then 2 else 0) := chkN_labs s
  have hln := labs_len s
  have H0 : Hid ((∀ j, j < (labs s).length → labB ((labs s).getD j ByteArray.empty) = true) → (labs s).all labB = true) := fun h => by
    rw [List.all_eq_true]
    intro x hx
    obtain ⟨j, hj, rfl⟩ := List.getElem_of_mem hx
    have := h j hj
    simpa [List.getD, List.getElem?_eq_getElem hj] using this
  have H1 : Hid (∀ j, j < (labs s).length → labB ((labs s).getD j ByteArray.empty) = false → (labs s).all labB = false) := fun j hj h => by
    rw [List.all_eq_false]
    refine ⟨(labs s)[j], List.getElem_mem hj, ?_⟩
    rw [show (labs s).getD j ByteArray.empty = (labs s)[j] by simp [List.getD, List.getElem?_eq_getElem hj]] at h
    simp [h]
  generalize chkN s = r at *
  generalize labs s = L at *
  generalize L.all labB = al at *
  go_enter Tryd.func11, Tryd.ntmps11
  go_wp2_with (go_at_call 26; refine HLO.out.mono ?_; rintro e w1 ⟨v, rfl, hO, hb1⟩)
  have HB1 : Hid (Below w.heap.size w w1) := hb1
  obtain ⟨p, c, hv, hcl⟩ : ∃ p c, v = .slice p L.length c ∧ Hid (0 < L.length → ∃ g, p = some ⟨g, 0, none⟩ ∧ ∀ j, j < L.length → w1.cell? ⟨g, j, none⟩ = some (.string (L.getD j ByteArray.empty))) := by
    rcases OwnS.form hO with ⟨h1, h2⟩ | ⟨g, c, h1, _, _, _, h5⟩
    · exact ⟨none, 0, by rw [h1, h2]; rfl, fun h => by rw [h2] at h; simp at h⟩
    · exact ⟨_, c, h1, fun _ => ⟨g, rfl, h5⟩⟩
  subst hv
  clear hO hb1 HLO
  generalize hna : L.length = n at *
  clear hna
  go_loop [4] (fun i => ∃ k : Nat, k ≤ n ∧ i = .int .i64 k ∧ Hid (∀ j, j < k → labB (L.getD j ByteArray.empty) = true)) (fun i => n - (intOf i).toNat)
  case atStart => exact ⟨0, Nat.zero_le _, rfl, fun j h => absurd h (Nat.not_lt_zero _)⟩
  case round =>
    obtain ⟨k, hk, rfl, hz⟩ := hrel
    by_cases hlt : k < n
    · obtain ⟨g, hp, hc⟩ := hcl.out (by omega)
      subst hp
      have hck := hc k hlt
      have hsk := HZ.out k
      have HZ2 : Hid (labB (L.getD k ByteArray.empty) = true → ∀ j, j < k + 1 → labB (L.getD j ByteArray.empty) = true) := fun h j hj => by
        rcases Nat.lt_succ_iff_lt_or_eq.1 hj with h2 | rfl
        · exact hz.out j h2
        · exact h
      have HFF : Hid (labB (L.getD k ByteArray.empty) = false → r = 1) := fun h => by rw [HE.out, H1.out k hlt h]; rfl
      clear hc
      generalize L.getD k ByteArray.empty = x at *
      rcases hl : labB x with _ | _
      · have HR : Hid (r = 1) := HFF.out hl
        go_wp2_with (go_at_call 27; refine (isLabel_any _ _ hsk).mono ?_; rintro e w' ⟨rfl, rfl⟩; rw [hl])
        go_ret
        exact ⟨ret_int HR.out.symm, HB1.out⟩
      · have HZ3 := HZ2.out hl
        have HZ4 : Hid (∀ j, j < k + 1 → labB (L.getD j ByteArray.empty) = true) := HZ3
        clear HZ2 HFF HZ3
        go_wp2_with (go_at_call 27; refine (isLabel_any _ _ hsk).mono ?_; rintro e w' ⟨rfl, rfl⟩; rw [hl])
        go_round
        case rel => exact ⟨k + 1, by omega, by go_num, HZ4.out⟩
        case measure => simp [intOf]; omega
    · have HAL : al = true := H0.out fun j hj => hz.out j (by omega)
      have HR0 : Hid (r = if 8 < n ∨ 120 < s.size then 2 else 0) := (show r = _ by rw [HE.out, HAL]; rfl)
      clear hz HE HAL
      by_cases h8 : 8 < n
      · have HR : Hid (r = 2) := (show r = 2 by rw [HR0.out, if_pos (.inl h8)])
        have h9 : decide (8 < (n : Int)) = true := by simp; omega
        clear HR0
        go_wp2_with fail
        go_ret
        exact ⟨ret_int HR.out.symm, HB1.out⟩
      · have h9 : decide (8 < (n : Int)) = false := by simp; omega
        by_cases h120 : 120 < s.size
        · have HR : Hid (r = 2) := (show r = 2 by rw [HR0.out, if_pos (.inr h120)])
          have h10 : decide (120 < (s.size : Int)) = true := by simp; omega
          clear HR0
          go_wp2_with fail
          go_ret
          exact ⟨ret_int HR.out.symm, HB1.out⟩
        · have HR : Hid (r = 0) := (show r = 0 by rw [HR0.out, if_neg (by omega)])
          have h10 : decide (120 < (s.size : Int)) = false := by simp; omega
          clear HR0
          go_wp2_with fail
          go_ret
          exact ⟨ret_int HR.out.symm, HB1.out⟩

end Go.Proofs.YtogmkdhljifbpaaDoor

