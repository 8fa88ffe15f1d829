/- RU3, RU4, Shelf, RU5, RU7, ML -/
import Derived.Test.YtigffgjkakalfaaGreatDoorV4
import Derived.Deep.RegionHeld3
import Derived.Shelf.Strings.Builder1
import Derived.Shelf.Strings.Builder2
import Derived.Shelf.Strings.OnBuilder
import Derived.Shelf.Small.Bits
import Derived.Shelf.Small.Strs
import Derived.Shelf.Small.Wraps
import Derived.Shelf.Strconv.Itoa0
import Derived.Shelf.LaysM
import Derived.Shelf.Strconv.Clone
import Derived.Shelf.Strings.Search1
import Derived.Shelf.Strings.Search2
import Derived.Shelf.Strings.Search3
import Derived.Shelf.Strings.Cut
import Derived.Shelf.Strings.Count
import Derived.Shelf.Strings.Shaped
import Derived.Shelf.Strings.Split
import Derived.Shelf.Strings.SplitShaped
import Derived.Shelf.Unicode.DecodeSlow
import Derived.Ground.SlsfProg
import Derived.Shelf.SlSortCmp.Insertion
import Derived.Shelf.SlSortCmp.SiftDown1
import Derived.Shelf.SlSortCmp.HeapSort1
import Derived.Shelf.SlSortCmp.Insertion1
import Derived.Shelf.SlSortCmp.Median1
import Derived.Shelf.SlSortCmp.Pivot1
import Derived.Shelf.SlSortCmp.ReverseRange1
import Derived.Shelf.SlSortCmp.PartialInsertion1
import Derived.Shelf.SlSortCmp.PartitionEqual1
import Derived.Shelf.SlSortCmp.Partition1
import Derived.Shelf.SlSortCmp.Pdq1
import Derived.Shelf.SlSortCmp.Whole1
import Derived.Shelf.SlSortCmp.NoneTotal
import Derived.Test.YtigffgjkakalfaaGreatDoorProg
import Derived.Deep.RegionHeld
import Derived.Deep.RegionLaw
import Derived.Laws.OwnMore
/- Lists of rumors that a call owns: Clone, append. -/
namespace Go.Proofs.YtigffgjkakalfaaGreatDoor
open Go.RowKit

def Rum.cs (r : Rum) : List Value := [.string r.m.name, .int .i64 r.m.state, .int .i64 r.m.life, .int .i64 r.m.addr, .bool r.m.server, .int .i64 r.told]
def flR (rs : List Rum) : List Value := rs.flatMap Rum.cs
theorem rcs_len (r : Rum) : r.cs.length = 6 := rfl
theorem flR_cons (m : Rum) (r : List Rum) : flR (m :: r) = m.cs ++ flR r := by simp [flR]
theorem flR_append (a b : List Rum) : flR (a ++ b) = flR a ++ flR b := by simp [flR]
theorem flR_len : ∀ ms : List Rum, (flR ms).length = ms.length * 6
  | [] => rfl
  | m :: r => by rw [flR_cons, List.length_append, flR_len r, rcs_len, List.length_cons]; omega
theorem flR_take : ∀ (ms : List Rum) (i : Nat), (flR ms).take (i * 6) = flR (ms.take i)
  | [], i => by simp [flR]
  | m :: r, 0 => by simp [flR]
  | m :: r, i + 1 => by
    rw [flR_cons, List.take_succ_cons, flR_cons, show (i + 1) * 6 = m.cs.length + i * 6 by rw [rcs_len]; omega, List.take_length_add_append, flR_take r i]
theorem flR_drop : ∀ (ms : List Rum) (i : Nat), (flR ms).drop (i * 6) = flR (ms.drop i)
  | [], i => by simp [flR]
  | m :: r, 0 => by simp
  | m :: r, i + 1 => by
    rw [flR_cons, List.drop_succ_cons, show (i + 1) * 6 = m.cs.length + i * 6 by rw [rcs_len]; omega, List.drop_length_add_append, flR_drop r i]
theorem rcs_one (m : Rum) : ∀ v ∈ m.cs, v.oneCell' = true := by
  intro v hv; simp [Rum.cs] at hv; rcases hv with rfl | rfl | rfl | rfl | rfl | rfl <;> rfl
theorem flR_one (ms : List Rum) : ∀ v ∈ flR ms, v.oneCell' = true := by
  intro v hv
  obtain ⟨m, _, h⟩ := List.mem_flatMap.1 hv
  exact rcs_one m v h
theorem flR_get (ms : List Rum) (j : Nat) (hj : j < ms.length) (t : Nat) (ht : t < 6) : (flR ms)[j * 6 + t]? = (ms.getD j dr).cs[t]? := by
  induction ms generalizing j with
  | nil => simp at hj
  | cons m r ih =>
    rw [flR_cons]
    cases j with
    | zero => rw [List.getElem?_append_left (by rw [rcs_len]; omega)]; simp
    | succ j =>
      rw [List.getElem?_append_right (by rw [rcs_len]; omega), rcs_len, show (j + 1) * 6 + t - 6 = j * 6 + t by omega, ih j (by simpa using hj)]
      simp
abbrev ROwn (base : Nat) (w : World) (v : Value) (ms : List Rum) : Prop := w.ownsRow base 57 6 v ms.length (flR ms)
theorem rown_nil (base : Nat) (w : World) : ROwn base w (.slice none 0 0) [] := World.ownsRow_nil w base 57 6
theorem rown_snoc {base : Nat} {w : World} {v : Value} {L : List Rum} {m : Rum} (h : w.ownsRow base 57 6 v (L.length + 1) (flR L ++ m.cs)) : ROwn base w v (L ++ [m]) := by
  have e : flR (L ++ [m]) = flR L ++ m.cs := by rw [flR_append, flR_cons]; simp [flR]
  show w.ownsRow base 57 6 v (L ++ [m]).length (flR (L ++ [m]))
  rw [e, List.length_append]
  exact h
theorem rns_get {rs : List Rum} (h : ∀ r ∈ rs, r.m.name.size ≤ maxLen) : ∀ j, (rs.getD j dr).m.name.size ≤ maxLen := fun j => by
  by_cases hj : j < rs.length
  · rw [show rs.getD j dr = rs[j] by simp [List.getD, List.getElem?_eq_getElem hj]]
    exact h _ (List.getElem_mem hj)
  · rw [show rs.getD j dr = dr by simp [List.getD, List.getElem?_eq_none (by omega : rs.length ≤ j)]]
    exact Nat.zero_le _
theorem rns_mem {rs : List Rum} (h : ∀ j, (rs.getD j dr).m.name.size ≤ maxLen) : ∀ m ∈ rs, m.m.name.size ≤ maxLen := by
  intro m hm
  obtain ⟨j, hj, rfl⟩ := List.getElem_of_mem hm
  have := h j
  rwa [show rs.getD j dr = rs[j] by simp [List.getD, List.getElem?_eq_getElem hj]] at this
/-- What a call owns is a slice as any. -/
theorem ROwn.sl {base : Nat} {w : World} {v : Value} {ms : List Rum} (h : ROwn base w v ms) (hs : ∀ j, (ms.getD j dr).m.name.size ≤ maxLen) : RSl w v ms := by
  rcases h.2 with ⟨rfl, h0⟩ | ⟨g, c, cur, rfl, hbg, hg, hnc, hcm, hcs, htake⟩
  · exact ⟨none, 0, by rw [h0], hs, .inl (List.eq_nil_of_length_eq_zero h0)⟩
  · refine ⟨_, c, rfl, hs, .inr ⟨g, 0, rfl, (Array.getElem?_eq_some_iff.1 hg).1, fun j hj => ?_⟩⟩
    have hc : ∀ t, t < 6 → w.cell? ⟨g, 0 + j * 6 + t, none⟩ = (ms.getD j dr).cs[t]? := fun t ht => by
      rw [cellsAt hg, ← flR_get ms j hj t ht, ← htake, List.getElem?_take_of_lt (by omega)]; simp
    exact ⟨hc 0 (by omega), hc 1 (by omega), hc 2 (by omega), hc 3 (by omega), hc 4 (by omega), hc 5 (by omega)⟩

theorem ROwn.below {base : Nat} {w w' : World} {v : Value} {ms : List Rum} (h : ROwn base w v ms) (hb : Below w.heap.size w w') : ROwn base w' v ms := by
  obtain ⟨h1, h2⟩ := h
  refine ⟨h1, ?_⟩
  rcases h2 with h2 | ⟨g, c, cur, hv, hbg, hg, hr⟩
  · exact .inl h2
  · exact .inr ⟨g, c, cur, hv, hbg, by rw [hb.block g (Array.getElem?_eq_some_iff.1 hg).1]; exact hg, hr⟩
theorem ROwn.base {b b' : Nat} {w : World} {v : Value} {ms : List Rum} (h : ROwn b w v ms) (hb : b' ≤ b) : ROwn b' w v ms := by
  obtain ⟨h1, h2⟩ := h
  refine ⟨h1, ?_⟩
  rcases h2 with h2 | ⟨g, c, cur, hv, hbg, hr⟩
  · exact .inl h2
  · exact .inr ⟨g, c, cur, hv, Nat.le_trans hb hbg, hr⟩
theorem ROwn.lt {base : Nat} {w : World} {v : Value} {ms : List Rum} (h : ROwn base w v ms) (k : Nat) (hk : v.ownBlock = some k) : base ≤ k ∧ k < w.heap.size := World.ownsRow.lt h k hk
theorem ROwn.slice {base : Nat} {w : World} {v : Value} {ms : List Rum} (h : ROwn base w v ms) : ∃ a c, v = .slice a ms.length c := by
  rcases h.2 with ⟨rfl, h0⟩ | ⟨g, c, cur, rfl, _⟩
  · exact ⟨none, 0, by rw [h0]⟩
  · exact ⟨_, c, rfl⟩

theorem Tryz.infoR : (Tryz.prog.info? 57).map (fun i => (i.zero, i.size, i.bytes)) = some (some (.agg #[.string ⟨#[]⟩, .int .i64 0, .int .i64 0, .int .i64 0, .bool false, .int .i64 0]), 6, 56) := by kernel_rfl

theorem rrow_cell {rs : List Rum} {w : World} {b off : Nat} (hr : RRow w b off rs) {j : Nat} {u : Value} (hj : (flR rs)[j]? = some u) : w.cell? ⟨b, off + j, none⟩ = some u := by
  have hjl : j < rs.length * 6 := by rw [← flR_len]; exact (List.getElem?_eq_some_iff.1 hj).1
  have h1 := flR_get rs (j / 6) (by omega) (j % 6) (by omega)
  rw [show j / 6 * 6 + j % 6 = j by omega, hj] at h1
  obtain ⟨c0, c1, c2, c3, c4, c5⟩ := hr (j / 6) (by omega)
  have hcs : j % 6 = 0 ∨ j % 6 = 1 ∨ j % 6 = 2 ∨ j % 6 = 3 ∨ j % 6 = 4 ∨ j % 6 = 5 := by omega
  rcases hcs with e | e | e | e | e | e
  · rw [show off + j = off + j / 6 * 6 by omega, c0]; rw [e] at h1; simpa [Rum.cs] using h1.symm
  · rw [show off + j = off + j / 6 * 6 + 1 by omega, c1]; rw [e] at h1; simpa [Rum.cs] using h1.symm
  · rw [show off + j = off + j / 6 * 6 + 2 by omega, c2]; rw [e] at h1; simpa [Rum.cs] using h1.symm
  · rw [show off + j = off + j / 6 * 6 + 3 by omega, c3]; rw [e] at h1; simpa [Rum.cs] using h1.symm
  · rw [show off + j = off + j / 6 * 6 + 4 by omega, c4]; rw [e] at h1; simpa [Rum.cs] using h1.symm
  · rw [show off + j = off + j / 6 * 6 + 5 by omega, c5]; rw [e] at h1; simpa [Rum.cs] using h1.symm

set_option maxHeartbeats 800000 in
theorem rclone_any (rs : List Rum) (v : Value) (w : World) (h : RSl w v rs) (hn : rs.length ≤ 1000) :
    Calls Tryz.prog 27 #[v] w fun e w' => ∃ v', e = .returned v' ∧ ROwn w.heap.size w' v' rs ∧ Below w.heap.size w w' := by
  obtain ⟨a, cap, rfl, hs, h⟩ := h
  obtain ⟨i0, hi0, hz0, hzs, hzb⟩ := info_parts Tryz.infoR
  cases a with
  | none =>
    have he : rs = [] := by
      rcases h with h | ⟨b, off, h, _⟩
      · exact h
      · cases h
    subst he
    clear h hs
    have hnil := fun (w : World) => Lib.run_eql_slice_nil (P := Tryz.prog) w 25 57 none 0 cap 0 0 Tryz.underlying25
    simp only [List.length_nil, Option.isNone_none] at hnil ⊢
    go_enter Tryz.func27, Tryz.ntmps27
    go_wp2_with fail
    go_ret
    exact ⟨_, rfl, rown_nil _ _, Below.refl _ _⟩
  | some a =>
    have hnil := fun (w : World) => Lib.run_eql_slice_nil (P := Tryz.prog) w 25 57 (some a) rs.length cap 0 0 Tryz.underlying25
    simp only [Option.isNone_some] at hnil
    have hnews : Hid (∀ j u, (flR rs)[j]? = some u → (w.alloc (.cells #[] 57)).cell? (a.add j) = some u) := by
      intro j u hj
      rcases h with h | ⟨b, off, h, hb, hr⟩
      · subst h; simp [flR] at hj
      · cases h
        rw [Addr.add_lit, World.cell?_alloc_past (w := w) _ b _ hb]
        exact rrow_cell hr hj
    have HO : Hid ((w.alloc (.cells #[] 57)).ownsRow w.heap.size 57 6 (.slice (some ⟨w.heap.size, 0, none⟩) 0 0) 0 []) := World.ownsRow_made w #[] 0 (Nat.le_refl _) (by unfold maxLen; omega) rfl
    clear h hs
    go_enter Tryz.func27, Tryz.ntmps27
    go_wp2_with (at_builtin; refine wpList_append_own _ rfl _ _ 25 rfl w.heap.size 57 i0 _ 6 56 Tryz.underlying25 hi0 hz0 hzs hzb rfl (by omega) _ 0 [] rfl HO.out a rs.length cap (flR rs) rfl (flR_len rs) hnews.out (flR_one rs) (by unfold maxLen; omega) (by omega) (by simp) ?_)
    intro v' w' r1 r2 r3
    go_wp2_with fail
    go_ret
    refine ⟨v', rfl, ?_, ?_⟩
    · simpa using r1
    · exact ((Below.refl _ _).alloc (Nat.le_refl _) _).grown r2 (by simp) (fun k hk => by simp [Value.ownBlock] at hk; omega)

end Go.Proofs.YtigffgjkakalfaaGreatDoor

/- Put of a rumor that is new. -/
namespace Go.Proofs.YtigffgjkakalfaaGreatDoor
open Go.RowKit Go.WideMaps Go.Maps

theorem look_any {w : World} {b n : Nat} {D : DataW Unit} (h : w.ownsMap Tryz.prog 9 (plainElem (H := Unit) Tryz.prog 3) b n D) {s : ByteArray} (hs : s.size ≤ maxLen) :
    ∃ c : Int, (Instr.lookup 91 (.map (some b)) (.string s) true).run Tryz.prog w = .ok (.tuple #[.int .i64 c, .bool (Maps.has D (kS s))]) w ∧ D.atKey (kS s) (.lit (.int .i64 0)) = .lit (.int .i64 c) := by
  obtain ⟨v, ps, hrun, hv⟩ := h.look_ok law9 Tryz.underlying91 (zero3' _) (plainElem_int Tryz.underlying3 (by decide)) (keyOf_string_mk Tryz.underlying9 hs)
  obtain ⟨c, rfl, hc, _⟩ := plainElem_int_inv Tryz.underlying3 hv
  exact ⟨c, hrun, congrArg Prod.fst hc⟩

def NotIn (rs : List Rum) (nm : ByteArray) : Prop := ∀ j, j < rs.length → (rs.getD j dr).m.name ≠ nm
theorem has_not {rs : List Rum} {nm : ByteArray} (h : NotIn rs nm) : Maps.has (Dm (rnames rs) rs.length) (kS nm) = false := by
  cases hh : Maps.has (Dm (rnames rs) rs.length) (kS nm)
  · rfl
  · obtain ⟨j, hj, e⟩ := (Dm_has _ _ _).1 hh
    rw [rnames_get] at e
    exact absurd e (h j hj)

set_option maxHeartbeats 3200000 in
set_option maxRecDepth 100000 in
theorem put_new (rs : List Rum) (v : Value) (m : Mem) (w : World) (hv : RSl w v rs) (hm : m.name.size ≤ maxLen) (h0 : chkR rs = 0) (he : m.e = 0) (hno : NotIn rs m.name) (hl : rs.length < 20) :
    Calls Tryz.prog 20 #[v, .agg #[.string m.name, .int .i64 m.state, .int .i64 m.life, .int .i64 m.addr, .bool m.server]] w fun e w' => ∃ v', e = .returned (.tuple #[v', .int .i64 0]) ∧ ROwn w.heap.size w' v' (rs ++ [⟨m, 0⟩]) ∧ Below w.heap.size w w' := by
  obtain ⟨i0, hi0, hz0, hzs, hzb⟩ := info_parts Tryz.infoR
  have HV : Hid (RSl w v rs) := hv
  have hchk := fun (w : World) (h : RSl w v rs) => checkR_any rs v w h
  rw [h0] at hchk
  have hcm := fun w => checkMember_any m w hm
  rw [he] at hcm
  have HH : Hid (Maps.has (Dm (rnames rs) rs.length) (kS m.name) = false) := has_not hno
  clear h0 he hv
  obtain ⟨nm, st, lf, ad, sv⟩ := m
  simp only at *
  have hB0 : Below w.heap.size w (w.alloc (.cells #[.string nm, .int .i64 st, .int .i64 lf, .int .i64 ad, .bool sv] 24)) := (Below.refl _ _).alloc (Nat.le_refl _) _
  go_enter Tryz.func20, Tryz.ntmps20
  go_wp2_with fail
  refine (hchk _ (HV.out.below hB0)).mono ?_
  rintro e w1 ⟨rfl, hb1⟩
  have c1 : ∀ o, w1.cell? ⟨w.heap.size, o, none⟩ = #[Value.string nm, .int .i64 st, .int .i64 lf, .int .i64 ad, .bool sv][o]? := fun o => by
    rw [hb1.cell (p := ⟨w.heap.size, o, none⟩) (by simp)]; exact cell_top' rfl
  have HB1 : Hid (Below w.heap.size w w1) := hB0.trans (hb1.mono (by simp))
  have hz1 : w.heap.size < w1.heap.size := by have := hb1.size; simp at this; omega
  clear hb1 hB0 hchk
  go_wp2_with fail
  refine (hcm _).mono ?_
  rintro e w2 ⟨rfl, hb2⟩
  have c2 : ∀ o, w2.cell? ⟨w.heap.size, o, none⟩ = #[Value.string nm, .int .i64 st, .int .i64 lf, .int .i64 ad, .bool sv][o]? := fun o => by
    rw [hb2.cell (p := ⟨w.heap.size, o, none⟩) (by simp only; omega)]; exact c1 o
  have HB2 : Hid (Below w.heap.size w w2) := HB1.out.trans (hb2.mono HB1.out.size)
  have hz2 : w.heap.size < w2.heap.size := by have := hb2.size; omega
  clear hb2 c1 hz1 HB1 hcm
  go_wp2_with fail
  refine (rclone_any rs v _ (HV.out.below HB2.out) (by omega)).mono ?_
  rintro e w3 ⟨v3, rfl, ho3, hb3⟩
  have HO3 : Hid (ROwn w2.heap.size w3 v3 rs) := ho3
  have c3 : w3.cell? ⟨w.heap.size, 0, none⟩ = some (.string nm) := by
    rw [hb3.cell (p := ⟨w.heap.size, 0, none⟩) (by simp only; omega)]; exact c2 0
  have C3 : Hid (∀ o, w3.cell? ⟨w.heap.size, o, none⟩ = #[Value.string nm, .int .i64 st, .int .i64 lf, .int .i64 ad, .bool sv][o]?) := fun o => by
    rw [hb3.cell (p := ⟨w.heap.size, o, none⟩) (by simp only; omega)]; exact c2 o
  have HB3 : Hid (Below w.heap.size w w3) := HB2.out.trans (hb3.mono HB2.out.size)
  have hz3 : w.heap.size < w3.heap.size := by have := hb3.size; omega
  have hz23 : w2.heap.size ≤ w3.heap.size := hb3.size
  clear hb3 ho3 c2
  go_wp2_with fail
  go_region_held3 (fun w' => w'.cell? ⟨w.heap.size, 0, none⟩ = some (.string nm)) (first | assumption | go_keep) (first | (go_at_call 49; refine (met_any rs v _ ((HV.out.below HB3.out).below (Below.refl _ _).drew) (by omega)).mono ?_; rintro e w4 ⟨rfl, hown, hb4⟩; obtain ⟨cq, hrun, hat⟩ := look_any hown hm; rw [HH.out] at hrun; have hr2 : (Instr.lookup 91 (.map (some w3.heap.size)) (.string nm) true).run Tryz.prog w4 = .ok (.tuple #[.int .i64 cq, .bool false]) w4 := hrun; clear hrun hat hown; have HB4 : Hid (Below w3.heap.size w3 w4) := (Below.refl w3.heap.size w3).drew.trans hb4; have hS : w4.cell? ⟨w.heap.size, 0, none⟩ = some (.string nm) := ((hb4.cell (p := ⟨w.heap.size, 0, none⟩) hz3).trans c3); clear hb4))
  obtain ⟨a3, ca3, hv3⟩ := HO3.out.slice
  subst hv3
  have C4 : ∀ o, w4.cell? ⟨w.heap.size, o, none⟩ = #[Value.string nm, .int .i64 st, .int .i64 lf, .int .i64 ad, .bool sv][o]? := fun o => by
    rw [HB4.out.cell (p := ⟨w.heap.size, o, none⟩) hz3]; exact C3.out o
  have HO4 : Hid (ROwn w2.heap.size w4 (.slice a3 rs.length ca3) rs) := HO3.out.below HB4.out
  have HB5 : Hid (Below w.heap.size w w4) := HB3.out.trans (HB4.out.mono HB3.out.size)
  have hz5 : w2.heap.size ≤ w4.heap.size := by have := HB4.out.size; omega
  have HO5 : Hid (∀ ob, (w4.alloc ob).ownsRow w2.heap.size 57 6 (.slice a3 rs.length ca3) rs.length (flR rs)) := fun ob => HO4.out.below ((Below.refl _ _).alloc (Nat.le_refl _) _)
  have HLT : Hid (∀ k, (Value.slice a3 rs.length ca3).ownBlock = some k → w.heap.size ≤ k) := fun k hk => by have := (HO4.out.lt k hk).1; omega
  have HSN : Hid (∀ (w' : World) (v' : Value), w'.ownsRow w2.heap.size 57 6 v' (rs.length + 1) (flR rs ++ (Rum.mk ⟨nm, st, lf, ad, sv⟩ 0).cs) → ROwn w.heap.size w' v' (rs ++ [⟨⟨nm, st, lf, ad, sv⟩, 0⟩])) := fun w' v' h => (rown_snoc h).base (by omega)
  clear HO3 C3 HB4 HB3 c3 hr2 HO4
  generalize hN : rs.length = n at *
  have HN : Hid (rs.length = n) := hN
  clear hN
  go_wp2_with (at_builtin; refine wpList_append_own _ rfl _ _ 25 rfl w2.heap.size 57 i0 _ 6 56 Tryz.underlying25 hi0 hz0 hzs hzb rfl (by omega) _ n (flR rs) rfl ?hown ⟨w4.heap.size, 0, none⟩ 1 1 (Rum.mk ⟨nm, st, lf, ad, sv⟩ 0).cs rfl rfl ?hnews (rcs_one _) ?h63 ?hbytes ?hbase ?_)
  case hown => exact HO5.out _
  case hnews => (intro j u hj; rw [Addr.add_lit]; exact (cellsAt (heap_alloc_new w4 (.cells #[.string nm, .int .i64 st, .int .i64 lf, .int .i64 ad, .bool sv, .int .i64 0] 57)) (0 + j)).trans (by simpa [Rum.cs] using hj))
  case h63 => (unfold maxLen; omega)
  case hbytes => omega
  case hbase => (simp; omega)
  intro v' w5 r1 r2 r3
  have R1 : Hid (ROwn w.heap.size w5 v' (rs ++ [⟨⟨nm, st, lf, ad, sv⟩, 0⟩])) := HSN.out w5 v' r1
  have R2 : Hid (Below w.heap.size w w5) := (HB5.out.alloc HB5.out.size _).grown r2 (by have := HB5.out.size; simp; omega) (fun k hk => HLT.out k hk)
  clear r1 r2 r3
  go_wp2_with fail
  go_ret2
  exact ⟨v', rfl, R1.out, R2.out⟩

end Go.Proofs.YtigffgjkakalfaaGreatDoor

/- Contracts of the library, laid at this program. -/
namespace Go.Proofs
open Go.Shelf
def Tryz.lays125_ren : Go.Shelf.Ren := ⟨fun | 125 => 88 | 128 => 114 | 129 => 115 | n => n, fun | 46 => 131 | 3 => 3 | 51 => 151 | 53 => 153 | 4 => 4 | 5 => 5 | 9 => 9 | n => n, fun | n => n⟩
theorem Tryz.lays125 : Go.Proofs.Lays.n125 Tryz.prog Tryz.lays125_ren := {
  mixed := by kernel_rfl
  f125 := Tryz.func88.trans (congrArg some (by kernel_rfl))
  f128 := Tryz.func114.trans (congrArg some (by kernel_rfl))
  f129 := Tryz.func115.trans (congrArg some (by kernel_rfl))
  t3 := Tryz.underlying3
  a3 := Tryz.isAgg3
  z3 := Tryz.sizeOf3
  v3 := Tryz.zeroValue3
  t4 := Tryz.underlying4
  a4 := Tryz.isAgg4
  z4 := Tryz.sizeOf4
  v4 := Tryz.zeroValue4
  t5 := Tryz.underlying5
  a5 := Tryz.isAgg5
  z5 := Tryz.sizeOf5
  v5 := Tryz.zeroValue5
  t9 := Tryz.underlying9
  a9 := Tryz.isAgg9
  z9 := Tryz.sizeOf9
  v9 := Tryz.zeroValue9
  t46 := Tryz.underlying131
  a46 := Tryz.isAgg131
  z46 := Tryz.sizeOf131
  v46 := Tryz.zeroValue131
  t51 := Tryz.underlying151
  a51 := Tryz.isAgg151
  z51 := Tryz.sizeOf151
  v51 := Tryz.zeroValue151
  t53 := Tryz.underlying153
  a53 := Tryz.isAgg153
  z53 := Tryz.sizeOf153
  v53 := Tryz.zeroValue153 }
theorem Tryz.bits_Len (x : Int) (w : World) (h0 : 0 ≤ x) (h1 : x ≤ 18446744073709551615) :
    Calls Tryz.prog 88 #[.int .u64 x] w fun e w' => e = .returned (.int .i64 (Lib.bitLen x.toNat)) ∧ w' = w := Any.bits_Len Tryz.lays125 x w h0 h1
def Tryz.lays219_ren : Go.Shelf.Ren := ⟨fun | 219 => 147 | 217 => 149 | 225 => 150 | 224 => 151 | 267 => 152 | 266 => 154 | 314 => 155 | n => n, fun | 9 => 9 | 3 => 3 | 4 => 4 | 5 => 5 | 46 => 131 | 146 => 183 | 51 => 151 | n => n, fun | 1 => 0 | n => n⟩
theorem Tryz.lays219 : Go.Proofs.Lays.n219 Tryz.prog Tryz.lays219_ren := {
  mixed := by kernel_rfl
  f217 := Tryz.func149.trans (congrArg some (by kernel_rfl))
  f219 := Tryz.func147.trans (congrArg some (by kernel_rfl))
  f224 := Tryz.func151.trans (congrArg some (by kernel_rfl))
  f225 := Tryz.func150.trans (congrArg some (by kernel_rfl))
  f266 := Tryz.func154.trans (congrArg some (by kernel_rfl))
  f267 := Tryz.func152.trans (congrArg some (by kernel_rfl))
  f314 := Tryz.func155.trans (congrArg some (by kernel_rfl))
  t3 := Tryz.underlying3
  a3 := Tryz.isAgg3
  z3 := Tryz.sizeOf3
  v3 := Tryz.zeroValue3
  t4 := Tryz.underlying4
  a4 := Tryz.isAgg4
  z4 := Tryz.sizeOf4
  v4 := Tryz.zeroValue4
  t5 := Tryz.underlying5
  a5 := Tryz.isAgg5
  z5 := Tryz.sizeOf5
  v5 := Tryz.zeroValue5
  t9 := Tryz.underlying9
  a9 := Tryz.isAgg9
  z9 := Tryz.sizeOf9
  v9 := Tryz.zeroValue9
  t46 := Tryz.underlying131
  a46 := Tryz.isAgg131
  z46 := Tryz.sizeOf131
  v46 := Tryz.zeroValue131
  t51 := Tryz.underlying151
  a51 := Tryz.isAgg151
  z51 := Tryz.sizeOf151
  v51 := Tryz.zeroValue151
  t146 := Tryz.underlying183
  a146 := Tryz.isAgg183
  z146 := Tryz.sizeOf183
  v146 := Tryz.zeroValue183
  g1 := by kernel_rfl }
open Go.RowKit Go.Lib in
theorem Tryz.stringslite_Index_one (s : ByteArray) (c : UInt8) (w : World) :
    Calls Tryz.prog 147 #[.string s, .string ⟨#[c]⟩] w fun e w' => e = .returned (.int .i64 (Lib.indexByte s.data.toList c)) ∧ w' = w := Any.stringslite_Index_one Tryz.lays219 s c w
def Tryz.lays138_ren : Go.Shelf.Ren := ⟨fun | 138 => 121 | 195 => 138 | 218 => 139 | 143 => 140 | 219 => 147 | 217 => 149 | 225 => 150 | 224 => 151 | 267 => 152 | 266 => 154 | 314 => 155 | n => n, fun | 9 => 9 | 3 => 3 | 4 => 4 | 5 => 5 | 0 => 0 | 46 => 131 | 146 => 183 | 51 => 151 | n => n, fun | 1 => 0 | n => n⟩
theorem Tryz.lays138 : Go.Proofs.Lays.n138 Tryz.prog Tryz.lays138_ren := {
  mixed := by kernel_rfl
  f138 := Tryz.func121.trans (congrArg some (by kernel_rfl))
  f143 := Tryz.func140.trans (congrArg some (by kernel_rfl))
  f195 := Tryz.func138.trans (congrArg some (by kernel_rfl))
  f217 := Tryz.func149.trans (congrArg some (by kernel_rfl))
  f218 := Tryz.func139.trans (congrArg some (by kernel_rfl))
  f219 := Tryz.func147.trans (congrArg some (by kernel_rfl))
  f224 := Tryz.func151.trans (congrArg some (by kernel_rfl))
  f225 := Tryz.func150.trans (congrArg some (by kernel_rfl))
  f266 := Tryz.func154.trans (congrArg some (by kernel_rfl))
  f267 := Tryz.func152.trans (congrArg some (by kernel_rfl))
  f314 := Tryz.func155.trans (congrArg some (by kernel_rfl))
  t0 := Tryz.underlying0
  a0 := Tryz.isAgg0
  z0 := Tryz.sizeOf0
  v0 := Tryz.zeroValue0
  t3 := Tryz.underlying3
  a3 := Tryz.isAgg3
  z3 := Tryz.sizeOf3
  v3 := Tryz.zeroValue3
  t4 := Tryz.underlying4
  a4 := Tryz.isAgg4
  z4 := Tryz.sizeOf4
  v4 := Tryz.zeroValue4
  t5 := Tryz.underlying5
  a5 := Tryz.isAgg5
  z5 := Tryz.sizeOf5
  v5 := Tryz.zeroValue5
  t9 := Tryz.underlying9
  a9 := Tryz.isAgg9
  z9 := Tryz.sizeOf9
  v9 := Tryz.zeroValue9
  t46 := Tryz.underlying131
  a46 := Tryz.isAgg131
  z46 := Tryz.sizeOf131
  v46 := Tryz.zeroValue131
  t51 := Tryz.underlying151
  a51 := Tryz.isAgg151
  z51 := Tryz.sizeOf151
  v51 := Tryz.zeroValue151
  t146 := Tryz.underlying183
  a146 := Tryz.isAgg183
  z146 := Tryz.sizeOf183
  v146 := Tryz.zeroValue183
  g1 := by kernel_rfl }
open Go.RowKit Go.Lib in
theorem Tryz.strings_Count_one (s : ByteArray) (c : UInt8) (w : World) :
    Calls Tryz.prog 121 #[.string s, .string ⟨#[c]⟩] w fun e w' => e = .returned (.int .i64 (Lib.countByte s.data.toList c)) ∧ w' = w := Any.strings_Count_one Tryz.lays138 s c w
end Go.Proofs

/- Take of one rumor: what must be in any case. -/
namespace Go.Proofs.YtigffgjkakalfaaGreatDoor
open Go.RowKit

set_option maxHeartbeats 800000 in
theorem insertion_one (b off c : Nat) (f : Value) (w : World) :
    Calls Tryz.prog 106 #[.slice (some ⟨b, off, none⟩) 1 c, .int .i64 0, .int .i64 1, f] w fun e w' => e = .returned (.tuple #[]) ∧ w' = w := by
  go_enter Tryz.func106, Tryz.ntmps106
  go_wp2_with fail
  refine wp_loop_rounds 1 ?_
  rw [rounds_succ]
  go_wp2_with fail
  go_end0
  exact ⟨rfl, rfl⟩
set_option maxHeartbeats 1600000 in
theorem pdq_one (b off c : Nat) (k : Int) (f : Value) (w : World) :
    Calls Tryz.prog 87 #[.slice (some ⟨b, off, none⟩) 1 c, .int .i64 0, .int .i64 1, .int .i64 k, f] w fun e w' => e = .returned (.tuple #[]) ∧ w' = w := by
  go_enter Tryz.func87, Tryz.ntmps87
  go_wp2_with fail
  refine wp_loop_rounds 1 ?_
  rw [rounds_succ]
  go_wp2_with (go_at_call 106; refine (insertion_one _ _ _ _ _).mono ?_; rintro e w' ⟨rfl, rfl⟩)
  (try simp only [Exit.inBlock, Exit.then]); refine bodyPost_ret (results_none rfl _ _ _) rfl ?_
  exact ⟨rfl, rfl⟩
set_option maxHeartbeats 800000 in
theorem sortFunc_one (b off c : Nat) (f : Value) (w : World) :
    Calls Tryz.prog 57 #[.slice (some ⟨b, off, none⟩) 1 c, f] w fun e w' => e = .returned (.tuple #[]) ∧ w' = w := by
  go_enter Tryz.func57, Tryz.ntmps57
  go_wp2_with (go_at_call 88; refine (Tryz.bits_Len _ _ (by omega) (by omega)).mono ?_; rintro e w' ⟨rfl, rfl⟩)
  refine (pdq_one _ _ _ _ _ _).mono ?_
  rintro e w' ⟨rfl, rfl⟩
  go_wp2_with fail
  go_end0
  exact ⟨rfl, rfl⟩

set_option maxHeartbeats 800000 in
theorem takeF_any (r : Rum) (tb : Nat) (times : Int) (w : World) (ht : w.cell? ⟨tb, 0, none⟩ = some (.int .i64 times)) (hlt : r.told < times) :
    Calls Tryz.prog 30 #[.agg #[.string r.m.name, .int .i64 r.m.state, .int .i64 r.m.life, .int .i64 r.m.addr, .bool r.m.server, .int .i64 r.told], .pointer (some ⟨tb, 0, none⟩)] w fun e w' => e = .returned (.bool false) ∧ Below w.heap.size w w' := by
  have hb : tb < w.heap.size := World.block_lt_of_cell? w _ ht
  have ht2 : ∀ ob, (w.alloc ob).cell? ⟨tb, 0, none⟩ = some (.int .i64 times) := fun ob => by
    rw [((Below.refl w.heap.size w).alloc (Nat.le_refl _) ob).cell (p := ⟨tb, 0, none⟩) hb]; exact ht
  go_enter Tryz.func30, Tryz.ntmps30
  go_wp2_with fail
  go_ret
  exact ⟨ret_bool (decide_eq_false (by omega)), (Below.refl _ _).alloc (Nat.le_refl _) _⟩

set_option maxHeartbeats 800000 in
theorem indexFunc_one (r : Rum) (b off c tb : Nat) (times : Int) (w : World) (hr : RRow w b off [r]) (ht : w.cell? ⟨tb, 0, none⟩ = some (.int .i64 times)) (hlt : r.told < times) :
    Calls Tryz.prog 61 #[.slice (some ⟨b, off, none⟩) 1 c, .func (.func 30) #[] #[.pointer (some ⟨tb, 0, none⟩)]] w fun e w' => e = .returned (.int .i64 (-1)) ∧ Below w.heap.size w w' := by
  obtain ⟨c0, c1, c2, c3, c4, c5⟩ := hr 0 (by simp)
  simp only [Nat.zero_mul, Nat.add_zero, List.getD_cons_zero] at c0 c1 c2 c3 c4 c5
  go_enter Tryz.func61, Tryz.ntmps61
  go_wp2_with fail
  refine wp_loop_rounds 2 ?_
  rw [rounds_succ]
  go_wp2_with fail
  refine (takeF_any r tb times _ ht hlt).mono ?_
  rintro e w1 ⟨rfl, hb1⟩
  clear c0 c1 c2 c3 c4 c5
  go_wp2_with fail
  rw [rounds_succ]
  go_wp2_with fail
  go_ret
  exact ⟨rfl, hb1⟩

set_option maxHeartbeats 800000 in
theorem deleteFunc_one (r : Rum) (b off c tb : Nat) (times : Int) (w : World) (hr : RRow w b off [r]) (ht : w.cell? ⟨tb, 0, none⟩ = some (.int .i64 times)) (hlt : r.told < times) :
    Calls Tryz.prog 29 #[.slice (some ⟨b, off, none⟩) 1 c, .func (.func 30) #[] #[.pointer (some ⟨tb, 0, none⟩)]] w fun e w' => e = .returned (.slice (some ⟨b, off, none⟩) 1 c) ∧ Below w.heap.size w w' := by
  go_enter Tryz.func29, Tryz.ntmps29
  go_wp2_with fail
  refine (indexFunc_one r b off c tb times _ hr ht hlt).mono ?_
  rintro e w1 ⟨rfl, hb1⟩
  go_wp2_with fail
  go_ret
  exact ⟨rfl, hb1⟩

theorem Tryz.infoI : (Tryz.prog.info? 3).map (fun i => (i.zero, i.size, i.bytes)) = some (some (.int .i64 0), 1, 8) := by kernel_rfl

set_option maxHeartbeats 1600000 in
theorem turns_one (v : Value) (r : Rum) (w : World) (hv : RSl w v [r]) :
    Calls Tryz.prog 28 #[v] w fun e w' => ∃ g c, e = .returned (.slice (some ⟨g, 0, none⟩) 1 c) ∧ w'.cell? ⟨g, 0, none⟩ = some (.int .i64 0) ∧ 1 ≤ c ∧ Below w.heap.size w w' := by
  obtain ⟨i0, hi0, hz0, hzs, hzb⟩ := info_parts Tryz.infoI
  obtain ⟨pa, ca, rfl, _, _⟩ := hv
  go_enter Tryz.func28, Tryz.ntmps28
  go_wp2_with fail
  refine wp_loop_rounds 2 ?_
  rw [rounds_succ]
  go_wp2_with (at_builtin; refine wpList_append_own _ rfl _ _ 65 rfl w.heap.size 3 i0 _ 1 8 Tryz.underlying65 hi0 hz0 hzs hzb rfl (by omega) _ 0 [] rfl (World.ownsRow_nil _ _ _ _) ⟨w.heap.size + 1, 0, none⟩ 1 1 [.int .i64 0] rfl rfl ?hnews (by simp [Value.oneCell']) ?h63 ?hbytes ?hbase ?_)
  case hnews => (intro j u hj; rw [Addr.add_lit]; exact (cell_top' (by simp)).trans (by simpa using hj))
  case h63 => (unfold maxLen; omega)
  case hbytes => omega
  case hbase => (simp; omega)
  intro v' w1 r1 r2 r3
  obtain ⟨g, c, hv', hbg, hcell, hc1⟩ : ∃ g c, v' = .slice (some ⟨g, 0, none⟩) 1 c ∧ w.heap.size ≤ g ∧ w1.cell? ⟨g, 0, none⟩ = some (.int .i64 0) ∧ 1 ≤ c := by
    rcases r1.2 with ⟨h, _⟩ | ⟨g, c, cur, h, hbg, hg, hnc, hcm, hcs, htake⟩
    · exact absurd h r3
    · refine ⟨g, c, h, hbg, ?_, hnc⟩
      rw [cellsAt hg, ← Array.getElem?_toList, show cur.toList[0]? = (cur.toList.take (1 * 1))[0]? by simp, htake]
      rfl
  subst hv'
  have HB : Hid (Below w.heap.size w w1) := (((Below.refl _ _).alloc (Nat.le_refl _) _).alloc (by simp) _).grown r2 (by simp; omega) (fun k hk => by simp [Value.ownBlock] at hk)
  have HC : Hid (w1.cell? ⟨g, 0, none⟩ = some (.int .i64 0)) := hcell
  clear r1 r2 r3 hcell
  go_wp2_with fail
  rw [rounds_succ]
  go_wp2_with (go_at_call 57; refine (sortFunc_one _ _ _ _ _).mono ?_; rintro e w' ⟨rfl, rfl⟩)
  go_ret
  exact ⟨g, c, rfl, HC.out, hc1, HB.out⟩

theorem flR_told (r : Rum) (t : Int) : (flR [r]).set 5 (.int .i64 t) = flR [⟨r.m, t⟩] := by simp [flR, Rum.cs]

theorem rown_row {base g c n : Nat} {w : World} {rs : List Rum} (h : w.ownsRow base 57 6 (.slice (some ⟨g, 0, none⟩) n c) rs.length (flR rs)) : RRow w g 0 rs := by
  rcases h.2 with ⟨hv, _⟩ | ⟨g', c', cur, hv, hbg, hg, hnc, hcm, hcs, htake⟩
  · cases hv
  · simp only [Value.slice.injEq, Option.some.injEq, Addr.mk.injEq, and_true] at hv
    obtain ⟨rfl, _, _⟩ := hv
    intro j hj
    have hc : ∀ t, t < 6 → w.cell? ⟨g, 0 + j * 6 + t, none⟩ = (rs.getD j dr).cs[t]? := fun t ht => by
      rw [cellsAt hg, ← flR_get rs j hj t ht, ← htake, List.getElem?_take_of_lt (by omega)]; simp
    exact ⟨hc 0 (by omega), hc 1 (by omega), hc 2 (by omega), hc 3 (by omega), hc 4 (by omega), hc 5 (by omega)⟩

set_option maxHeartbeats 3200000 in
theorem take_one (v : Value) (r : Rum) (most times : Int) (w : World) (hv : RSl w v [r]) (h0 : chkR [r] = 0) (hm : within most 1 20 = true) (ht : within times 1 100 = true) (hlt : r.told + 1 < times) (hr0 : 0 ≤ r.told) :
    Calls Tryz.prog 9 #[v, .int .i64 most, .int .i64 times] w fun e w' => ∃ v1 v2, e = .returned (.tuple #[v1, v2, .int .i64 0]) ∧ Own w.heap.size w' v1 [r.m] ∧ ROwn w.heap.size w' v2 [⟨r.m, r.told + 1⟩] ∧ Below w.heap.size w w' := by
  obtain ⟨j0, hj0, hk0, hks, hkb⟩ := info_parts Tryz.info24
  have HV : Hid (RSl w v [r]) := hv
  have hm1 : 1 ≤ most := by simp [within] at hm; omega
  have ht1 : times ≤ 100 := by simp [within] at ht; omega
  have hchk := fun (w : World) (h : RSl w v [r]) => checkR_any [r] v w h
  rw [h0] at hchk
  clear h0
  obtain ⟨pa, ca, rfl, _, _⟩ := hv
  simp only [List.length_cons, List.length_nil] at *
  have hB0 : Below w.heap.size w (w.alloc (.cells #[.int .i64 times] 3)) := (Below.refl _ _).alloc (Nat.le_refl _) _
  go_enter Tryz.func9, Tryz.ntmps9
  go_wp2_with fail
  refine (hchk _ (HV.out.below hB0)).mono ?_
  rintro e w1 ⟨rfl, hb1⟩
  have c1 : w1.cell? ⟨w.heap.size, 0, none⟩ = some (.int .i64 times) := by
    rw [hb1.cell (p := ⟨w.heap.size, 0, none⟩) (by simp)]; exact cell_top' rfl
  have HB1 : Hid (Below w.heap.size w w1) := hB0.trans (hb1.mono (by simp))
  have hz1 : w.heap.size < w1.heap.size := by have := hb1.size; simp at this; omega
  clear hb1 hB0 hchk
  go_wp2_with (go_at_call 26; refine (within_any _ _ _ _).mono ?_; rintro e w' ⟨rfl, rfl⟩; first | rw [hm] | rw [ht])
  refine (rclone_any [r] _ _ (HV.out.below HB1.out) (by simp)).mono ?_
  rintro e w3 ⟨v3, rfl, ho3, hb3⟩
  have HO3 : Hid (ROwn (w.heap.size + 1) w3 v3 [r]) := ho3.base hz1
  have c3 : w3.cell? ⟨w.heap.size, 0, none⟩ = some (.int .i64 times) := by
    rw [hb3.cell (p := ⟨w.heap.size, 0, none⟩) (by simp only; omega)]; exact c1
  have HB3 : Hid (Below w.heap.size w w3) := HB1.out.trans (hb3.mono HB1.out.size)
  have hz3 : w.heap.size < w3.heap.size := by have := hb3.size; omega
  clear hb3 ho3 c1
  go_wp2_with fail
  refine (turns_one _ r _ (HV.out.below HB3.out)).mono ?_
  rintro e w4 ⟨gt, ct, rfl, hct, hcc, hb4⟩
  have HB4 : Hid (Below w.heap.size w w4) := HB3.out.trans (hb4.mono HB3.out.size)
  have c4 : w4.cell? ⟨w.heap.size, 0, none⟩ = some (.int .i64 times) := by
    rw [hb4.cell (p := ⟨w.heap.size, 0, none⟩) (by simp only; omega)]; exact c3
  have HO4 : Hid (ROwn (w.heap.size + 1) w4 v3 [r]) := HO3.out.below hb4
  have hz4 : w3.heap.size ≤ w4.heap.size := hb4.size
  clear hb4 c3 HO3
  obtain ⟨g, c, hv3⟩ : ∃ g c, v3 = .slice (some ⟨g, 0, none⟩) 1 c := by
    rcases HO4.out.2 with ⟨_, h0⟩ | ⟨g, c, cur, h, _⟩
    · simp at h0
    · exact ⟨g, c, h⟩
  subst hv3
  obtain ⟨hgl, hgh⟩ := HO4.out.lt g rfl
  have d0 : w4.cell? ⟨g, 0, none⟩ = some (.string r.m.name) := World.ownsRow.cellAt HO4.out 0 (by decide)
  have d1 : w4.cell? ⟨g, 1, none⟩ = some (.int .i64 r.m.state) := World.ownsRow.cellAt HO4.out 1 (by decide)
  have d2 : w4.cell? ⟨g, 2, none⟩ = some (.int .i64 r.m.life) := World.ownsRow.cellAt HO4.out 2 (by decide)
  have d3 : w4.cell? ⟨g, 3, none⟩ = some (.int .i64 r.m.addr) := World.ownsRow.cellAt HO4.out 3 (by decide)
  have d4 : w4.cell? ⟨g, 4, none⟩ = some (.bool r.m.server) := World.ownsRow.cellAt HO4.out 4 (by decide)
  have d5 : w4.cell? ⟨g, 5, none⟩ = some (.int .i64 r.told) := World.ownsRow.cellAt HO4.out 5 (by decide)
  have hfz : ∀ o, w4.frozen? ⟨g, o, none⟩ = false := fun o => World.ownsRow.frozenAt HO4.out o
  have hmin : min most (1 : Int) = 1 := by omega
  go_wp2_with fail
  refine wp_loop_rounds 2 ?_
  rw [rounds_succ]
  have HS5 := World.ownsRow.stored HO4.out 5 (.int .i64 (r.told + 1))
  have HO5 : Hid (ROwn (w.heap.size + 1) (w4.setCell ⟨g, 5, none⟩ (.int .i64 (r.told + 1))) (.slice (some ⟨g, 0, none⟩) 1 c) [⟨r.m, r.told + 1⟩]) := by
    have h := HS5.1
    rw [flR_told] at h
    exact h
  clear HS5
  go_wp2_with (at_builtin; refine wpList_append_own _ rfl _ _ 22 rfl (w.heap.size + 1) 24 j0 _ 5 48 Tryz.underlying22 hj0 hk0 hks hkb rfl (by omega) _ 0 [] rfl (World.ownsRow_nil _ _ _ _) ⟨w4.heap.size, 0, none⟩ 1 1 r.m.cs rfl rfl ?hnews (cs_one _) ?h63 ?hbytes ?hbase ?_)
  case hnews => (intro j u hj; rw [Addr.add_lit]; exact (cell_top' (by simp)).trans (by simpa [Mem.cs] using hj))
  case h63 => (unfold maxLen; omega)
  case hbytes => omega
  case hbase => (simp; omega)
  intro v1 w5 r1 r2 r3
  have hb5 : Below (w4.setCell ⟨g, 5, none⟩ (.int .i64 (r.told + 1))).heap.size (w4.setCell ⟨g, 5, none⟩ (.int .i64 (r.told + 1))) w5 :=
    ((Below.refl _ _).alloc (Nat.le_refl _) _).grown r2 (by simp) (fun k hk => by simp [Value.ownBlock] at hk)
  have HO6 : Hid (ROwn (w.heap.size + 1) w5 (.slice (some ⟨g, 0, none⟩) 1 c) [⟨r.m, r.told + 1⟩]) := HO5.out.below hb5
  have HT6 : Hid (Own (w.heap.size + 1) w5 v1 [r.m]) := (show w5.ownsRow (w.heap.size + 1) 24 5 v1 1 (fl [r.m]) by rw [show fl [r.m] = r.m.cs by simp [fl]]; exact r1)
  have HB6 : Hid (Below w.heap.size w w5) := (HB4.out.setCell (p := ⟨g, 5, none⟩) (by simp only; omega) _).trans (hb5.mono (by have := HB4.out.size; simp; omega))
  have C6 : Hid (w5.cell? ⟨w.heap.size, 0, none⟩ = some (.int .i64 times)) := by
    have h1 : (w4.setCell ⟨g, 5, none⟩ (.int .i64 (r.told + 1))).cell? ⟨w.heap.size, 0, none⟩ = some (.int .i64 times) := by
      rw [World.cell?_setCell_far _ _ _ _ (by simp only; omega)]; exact c4
    have h2 := hb5.cell (p := ⟨w.heap.size, 0, none⟩) (by simp; omega)
    exact h2.trans h1
  clear r1 r2 r3 hb5 HO5 d0 d1 d2 d3 d4 d5 c4 HO4 hfz
  go_wp2_with fail
  rw [rounds_succ]
  go_wp2_with fail
  refine (deleteFunc_one ⟨r.m, r.told + 1⟩ g 0 c w.heap.size times _ (rown_row HO6.out) C6.out hlt).mono ?_
  rintro e w6 ⟨rfl, hb6⟩
  have R1 : Hid (Own w.heap.size w6 v1 [r.m]) := by
    have h := HT6.out.below hb6
    obtain ⟨h1, h2⟩ := h
    refine ⟨h1, ?_⟩
    rcases h2 with h2 | ⟨g, c, cur, hv, hbg, hr⟩
    · exact .inl h2
    · exact .inr ⟨g, c, cur, hv, by omega, hr⟩
  have R2 : Hid (ROwn w.heap.size w6 (.slice (some ⟨g, 0, none⟩) 1 c) [⟨r.m, r.told + 1⟩]) := (HO6.out.below hb6).base (by omega)
  have R3 : Hid (Below w.heap.size w w6) := HB6.out.trans (hb6.mono HB6.out.size)
  clear hb6 HO6 HT6 HB6 C6
  go_wp2_with fail
  go_ret3
  exact ⟨v1, _, rfl, R1.out, R2.out, R3.out⟩

end Go.Proofs.YtigffgjkakalfaaGreatDoor

/- Delete of one rumor, out of a list that a call owns. -/
namespace Go.Proofs.YtigffgjkakalfaaGreatDoor
open Go.RowKit

def wrs : List Value → Nat → List Value → List Value
  | xs, _, [] => xs
  | xs, o, v :: r => wrs (xs.set o v) (o + 1) r
theorem wrs_len : ∀ (vs xs : List Value) (o : Nat), (wrs xs o vs).length = xs.length
  | [], _, _ => rfl
  | v :: r, xs, o => by rw [wrs, wrs_len r, List.length_set]
theorem wrs_out : ∀ (vs xs : List Value) (o k : Nat), k < o ∨ o + vs.length ≤ k → (wrs xs o vs)[k]? = xs[k]?
  | [], _, _, _, _ => rfl
  | v :: r, xs, o, k, h => by
    simp only [List.length_cons] at h
    rw [wrs, wrs_out r _ _ k (by omega), List.getElem?_set_ne (by omega)]
theorem wrs_in : ∀ (vs xs : List Value) (o j : Nat), j < vs.length → o + vs.length ≤ xs.length → (wrs xs o vs)[o + j]? = vs[j]?
  | [], _, _, _, h, _ => by simp at h
  | v :: r, xs, o, 0, _, h2 => by
    simp only [List.length_cons] at h2
    rw [wrs, wrs_out r _ _ _ (by omega)]
    simp [List.getElem?_set_self (show o < xs.length by omega)]
  | v :: r, xs, o, j + 1, h, h2 => by
    simp only [List.length_cons] at h h2
    rw [wrs, show o + (j + 1) = (o + 1) + j by omega, wrs_in r _ _ j (by omega) (by rw [List.length_set]; omega)]
    simp
theorem stored_all {base g n cap : Nat} {e : TypeId} {size : Nat} : ∀ (vs xs : List Value) (o : Nat) (w : World), w.ownsRow base e size (.slice (some ⟨g, 0, none⟩) n cap) n xs → (w.setCells g o vs).ownsRow base e size (.slice (some ⟨g, 0, none⟩) n cap) n (wrs xs o vs)
  | [], _, _, _, h => h
  | v :: r, _, o, _, h => stored_all r _ _ _ (World.ownsRow.stored h o v).1
theorem below_setCells {base g : Nat} (hg : base ≤ g) : ∀ (vs : List Value) (o : Nat) (w0 w : World), Below base w0 w → Below base w0 (w.setCells g o vs)
  | [], _, _, _, h => h
  | v :: r, o, w0, _, h => below_setCells hg r _ w0 _ (h.setCell (p := ⟨g, o, none⟩) hg v)
theorem owns_shrink {w : World} {base g n m cap : Nat} {e : TypeId} {size : Nat} {xs : List Value} (h : w.ownsRow base e size (.slice (some ⟨g, 0, none⟩) n cap) n xs) (hm : m ≤ n) : w.ownsRow base e size (.slice (some ⟨g, 0, none⟩) m cap) m (xs.take (m * size)) := by
  obtain ⟨h1, h2⟩ := h
  have hle : m * size ≤ n * size := Nat.mul_le_mul_right _ hm
  refine ⟨by rw [List.length_take, h1]; omega, ?_⟩
  rcases h2 with ⟨hv, _⟩ | ⟨g', c', cur, hv, hbg, hg, hnc, hcm, hcs, htake⟩
  · cases hv
  · simp only [Value.slice.injEq, Option.some.injEq, Addr.mk.injEq, and_true, true_and] at hv
    obtain ⟨rfl, rfl⟩ := hv
    refine .inr ⟨g, cap, cur, rfl, hbg, hg, by omega, hcm, hcs, ?_⟩
    rw [← htake, List.take_take, Nat.min_eq_left hle]

def zR : List Value := [.string ⟨#[]⟩, .int .i64 0, .int .i64 0, .int .i64 0, .bool false, .int .i64 0]
theorem take_eq_of {xs ys : List Value} {k : Nat} (hl : k ≤ xs.length) (hy : ys.length = k) (h : ∀ j, j < k → xs[j]? = ys[j]?) : xs.take k = ys := by
  apply List.ext_getElem?
  intro j
  by_cases hj : j < k
  · rw [List.getElem?_take_of_lt hj, h j hj]
  · rw [List.getElem?_eq_none (by rw [List.length_take]; omega), List.getElem?_eq_none (by omega)]
theorem erase_cells {rs : List Rum} {p n : Nat} (hn : rs.length = n) (hp : p < n) : (wrs (wrs (flR rs) (p * 6) (flR (rs.drop (p + 1)))) ((n - 1) * 6) zR).take ((n - 1) * 6) = flR (rs.eraseIdx p) := by
  have hl : (flR rs).length = n * 6 := by rw [flR_len, hn]
  have hd : (flR (rs.drop (p + 1))).length = (n - (p + 1)) * 6 := by rw [flR_len, List.length_drop, hn]
  refine take_eq_of (by rw [wrs_len, wrs_len, hl]; omega) (by rw [flR_len, List.length_eraseIdx, if_pos (by omega), hn]) (fun j hj => ?_)
  rw [wrs_out _ _ _ _ (by omega), List.eraseIdx_eq_take_drop_succ, flR_append]
  have ht : (flR (rs.take p)).length = p * 6 := by rw [flR_len, List.length_take, hn]; omega
  by_cases hjp : j < p * 6
  · rw [wrs_out _ _ _ _ (by omega), List.getElem?_append_left (by omega), ← flR_take, List.getElem?_take_of_lt hjp]
  · rw [List.getElem?_append_right (by omega), ht]
    have := wrs_in (flR (rs.drop (p + 1))) (flR rs) (p * 6) (j - p * 6) (by rw [hd]; omega) (by rw [hd, hl]; omega)
    rw [show p * 6 + (j - p * 6) = j by omega] at this
    exact this

theorem zeroR (w : World) : (zeroValue 57).run Tryz.prog w = .ok (.agg #[.string ⟨#[]⟩, .int .i64 0, .int .i64 0, .int .i64 0, .bool false, .int .i64 0]) w := by kernel_rfl
theorem run_clear_one (w : World) (ty : TypeId) (b o c : Nat) (hc : ∀ j, j < 6 → (w.cell? ⟨b, o + j, none⟩).isSome = true) (hf : ∀ j, j < 6 → w.frozen? ⟨b, o + j, none⟩ = false) :
    (Builtin.clear_ #[25] ty #[.slice (some ⟨b, o, none⟩) 1 c]).run Tryz.prog w = .ok (.tuple #[]) (w.setCells b o zR) := by
  have hzc : (Builtin.zeroCells (Value.agg #[.string ⟨#[]⟩, .int .i64 0, .int .i64 0, .int .i64 0, .bool false, .int .i64 0]).cells 1).toList = zR := by kernel_rfl
  have hst := run_storeCells_cells (P := Tryz.prog) b o zR 0 w (fun j hj => by simpa using hc j (by simpa [zR] using hj)) (fun j hj => by simpa using hf j (by simpa [zR] using hj)) (by intro v hv; simp [zR] at hv; rcases hv with rfl | rfl | rfl | rfl <;> rfl)
  simp only [Nat.add_zero] at hst
  simp [Builtin.clear_, run_underlying Tryz.underlying25, hzc, hst]

set_option maxHeartbeats 3200000 in
set_option maxRecDepth 1000000 in
theorem delete_any (rs : List Rum) (n p g c base : Nat) (w : World) (hn : rs.length = n) (ho : ROwn base w (.slice (some ⟨g, 0, none⟩) n c) rs) (hp : p < n) (hsm : n ≤ 1000) :
    Calls Tryz.prog 51 #[.slice (some ⟨g, 0, none⟩) n c, .int .i64 p, .int .i64 (p + 1)] w fun e w' => e = .returned (.slice (some ⟨g, 0, none⟩) (n - 1) c) ∧ ROwn base w' (.slice (some ⟨g, 0, none⟩) (n - 1) c) (rs.eraseIdx p) ∧ Below base w w' := by
  obtain ⟨i0, hi0, hz0, hz1, hz2⟩ := info_parts Tryz.infoR
  have HO : Hid (w.ownsRow base 57 6 (.slice (some ⟨g, 0, none⟩) n c) n (flR rs)) := by rw [← hn]; rw [← hn] at ho; exact ho
  obtain ⟨hgl, hnc, hcm⟩ : base ≤ g ∧ n ≤ c ∧ c ≤ maxLen := by
    rcases HO.out.2 with ⟨hv, _⟩ | ⟨g', c', cur, hv, hbg, hg, hnc, hcm, hcs, htake⟩
    · cases hv
    · simp only [Value.slice.injEq, Option.some.injEq, Addr.mk.injEq, and_true, true_and] at hv
      obtain ⟨rfl, rfl⟩ := hv
      exact ⟨hbg, hnc, hcm⟩
  unfold maxLen at hcm
  have hp0 : (0 : Int) ≤ (p : Int) + 1 := by omega
  have hp1 : (p : Int) + 1 ≤ (n : Int) := by omega
  have hp2 : ((p : Int) + 1).toNat = p + 1 := by omega
  have hic : p ≤ c := by omega
  have hcell : ∀ k, k < n * 6 → w.cell? ⟨g, k, none⟩ = (flR rs)[k]? := fun k hk => by
    rcases HO.out.2 with ⟨hv, _⟩ | ⟨g', c', cur, hv, hbg, hg, _, _, hcs, htake⟩
    · cases hv
    · simp only [Value.slice.injEq, Option.some.injEq, Addr.mk.injEq, and_true, true_and] at hv
      obtain ⟨rfl, rfl⟩ := hv
      rw [cellsAt hg, ← htake, List.getElem?_take_of_lt hk, Array.getElem?_toList]
  have hfl : (flR rs).length = n * 6 := by rw [flR_len, hn]
  have S1 : Hid ((flR (rs.drop (p + 1))).length = (n - (p + 1)) * 6) := (show (flR (rs.drop (p + 1))).length = _ by rw [flR_len, List.length_drop, hn])
  obtain ⟨A, hA, hnews⟩ : ∃ A : Addr, (if c = p + 1 then some (⟨g, 0, none⟩ : Addr) else some ⟨g, (p + 1) * 6, none⟩) = some A ∧ Hid (∀ j u, (flR (rs.drop (p + 1)))[j]? = some u → w.drew.cell? (A.add j) = some u) := by
    by_cases h : c = p + 1
    · refine ⟨_, if_pos h, fun j u hj => ?_⟩
      have : j < (flR (rs.drop (p + 1))).length := (List.getElem?_eq_some_iff.1 hj).1
      rw [S1.out] at this
      omega
    · refine ⟨_, if_neg h, fun j u hj => ?_⟩
      have hj1 : j < (flR (rs.drop (p + 1))).length := (List.getElem?_eq_some_iff.1 hj).1
      rw [S1.out] at hj1
      rw [Addr.add_lit]
      show w.cell? _ = _
      rw [hcell _ (by omega), ← hj, ← flR_drop, List.getElem?_drop]
  have S2 : Hid (∀ u ∈ flR (rs.drop (p + 1)), u.oneCell' = true) := flR_one _
  have S3 : Hid (∀ j, j < (flR (rs.drop (p + 1))).length → (w.drew.cell? ⟨g, 0 + p * 6 + j, none⟩).isSome = true ∧ w.drew.frozen? ⟨g, 0 + p * 6 + j, none⟩ = false) := fun j hj => by
    rw [S1.out] at hj
    refine ⟨?_, World.ownsRow.frozenAt HO.out _⟩
    show (w.cell? _).isSome = true
    rw [hcell _ (by omega), List.getElem?_eq_getElem (by omega)]
    rfl
  have HD : Hid ((w.drew.setCells g (p * 6) (flR (rs.drop (p + 1)))).ownsRow base 57 6 (.slice (some ⟨g, 0, none⟩) n c) n (wrs (flR rs) (p * 6) (flR (rs.drop (p + 1))))) := stored_all _ _ _ _ (show w.drew.ownsRow base 57 6 (.slice (some ⟨g, 0, none⟩) n c) n (flR rs) from HO.out)
  have hclear : ∀ ty, (Builtin.clear_ #[25] ty #[.slice (some ⟨g, (p + (n - (p + 1))) * 6, none⟩) (n - (p + (n - (p + 1)))) (c - (p + (n - (p + 1))))]).run Tryz.prog (w.drew.setCells g (p * 6) (flR (rs.drop (p + 1)))) = .ok (.tuple #[]) ((w.drew.setCells g (p * 6) (flR (rs.drop (p + 1)))).setCells g ((n - 1) * 6) zR) := fun ty => by
    rw [show p + (n - (p + 1)) = n - 1 by omega, show n - (n - 1) = 1 by omega]
    exact run_clear_one _ ty g _ _ (fun j hj => by rw [World.ownsRow.cellAt HD.out _ (by omega), List.getElem?_eq_getElem (by rw [wrs_len, hfl]; omega)]; rfl) (fun j _ => World.ownsRow.frozenAt HD.out _)
  have HF : Hid (((w.drew.setCells g (p * 6) (flR (rs.drop (p + 1)))).setCells g ((n - 1) * 6) zR).ownsRow base 57 6 (.slice (some ⟨g, 0, none⟩) (n - 1) c) (n - 1) (flR (rs.eraseIdx p))) := by
    have h := owns_shrink (m := n - 1) (stored_all zR _ ((n - 1) * 6) _ HD.out) (by omega)
    rw [erase_cells hn hp] at h
    exact h
  have HL : Hid ((rs.eraseIdx p).length = n - 1) := (show (rs.eraseIdx p).length = n - 1 by rw [List.length_eraseIdx, if_pos (by omega), hn])
  have HBL : Hid (Below base w ((w.drew.setCells g (p * 6) (flR (rs.drop (p + 1)))).setCells g ((n - 1) * 6) zR)) := below_setCells hgl _ _ _ _ (below_setCells hgl _ _ _ _ (Below.refl _ _).drew)
  have HPN : Hid (p + (n - (p + 1)) = n - 1) := (show p + (n - (p + 1)) = n - 1 by omega)
  clear ho hcell
  go_enter Tryz.func51, Tryz.ntmps51
  go_wp2_with fail
  go_region_law (refine step_append_room rfl (.tmp 22) (.tmp 25) 25 rfl 57 i0 6 Tryz.underlying25 hi0 hz1 g 0 p c (by simp [Act.eval, Act.put]) A (n - (p + 1)) (c - (p + 1)) (flR (rs.drop (p + 1))) (by simp [Act.eval, Act.put]) S1.out hnews.out S2.out (by omega) S3.out ?_)
  go_wp2_with fail
  go_ret
  refine ⟨?_, ?_, HBL.out⟩
  · have hpn := HPN.out
    simp only [hpn]
    rfl
  · show World.ownsRow _ _ _ _ _ (rs.eraseIdx p).length _
    rw [HL.out]
    exact HF.out

end Go.Proofs.YtigffgjkakalfaaGreatDoor

/- What must be in any case; Newer. -/
namespace Go.Proofs.YtigffgjkakalfaaGreatDoor
open Go.RowKit

def mA : Mem := ⟨⟨#[97]⟩, 2, 1, 0, false⟩

theorem lab_a : labB ⟨#[97]⟩ = true := by decide
theorem chk_mA : chk [mA] = 0 := by
  have h : mA.e = 0 := by decide
  simp [chk, firstE, h, risesB]
theorem join_mA : joinE [] [mA] = 0 := by
  simp [joinE, chkTwo, chk_nil, chk_mA, joinL, hearL]
theorem hear_mA : hearL [] mA = [mA] := rfl
theorem at_mA : At [mA] ⟨#[97]⟩ 0 true := ⟨by simp, fun j h => by omega, fun j h hl => by
  have : j = 0 := by simpa using hl
  subst this
  have : cmpI mA.name ⟨#[97]⟩ = 0 := by rw [cmpI_eq]; rfl
  simp [this], by
  have : cmpI mA.name ⟨#[97]⟩ = 0 := by rw [cmpI_eq]; rfl
  simp [this]⟩

set_option maxHeartbeats 800000 in
theorem begun_any (w : World) : Calls Tryz.prog 4 #[] w fun e w' => e = .returned (.bool true) ∧ Below w.heap.size w w' := by
  go_enter Tryz.func4, Tryz.ntmps4
  go_wp2_with fail
  refine (hear_any [] mA _ _ ⟨none, 0, rfl, ns_get (by simp), .inl rfl⟩ (by decide)).mono ?_
  rintro e w1 ⟨v1, r1, rfl, hb1, _, h1⟩
  obtain ⟨ho1, hr1⟩ := h1 join_mA
  have hr1' : r1 = true := hr1.2 (by rw [hear_mA]; simp)
  subst hr1'
  clear h1 hr1
  rw [join_mA]
  have HO1 : Hid (Own w.heap.size w1 v1 [mA]) := ho1
  clear ho1
  go_wp2_with fail
  refine (refute_good [mA] v1 ⟨#[97]⟩ _ (own_names HO1.out (by simp; decide)) chk_mA (by decide) lab_a 0 true at_mA).mono ?_
  rintro e w2 ⟨v2, rfl, hb2, _, h2⟩
  have e1 : refR [mA] 0 true = true := by decide
  have e2 : refE [mA] 0 true = 0 := by decide
  have e3 : refL [mA] 0 true = [⟨⟨#[97]⟩, 1, 2, 0, false⟩] := by rw [refL, if_pos e1]; rfl
  have ho2 := h2 e2
  rw [e3] at ho2
  rw [e1, e2]
  clear h2 e3
  have HO2 : Hid (Own w1.heap.size w2 v2 [⟨⟨#[97]⟩, 1, 2, 0, false⟩]) := ho2
  clear ho2
  obtain ⟨g, c, hv2⟩ : ∃ g c, v2 = .slice (some ⟨g, 0, none⟩) 1 c := by
    rcases HO2.out.2 with ⟨_, h0⟩ | ⟨g, c, cur, h, _⟩
    · simp at h0
    · exact ⟨g, c, h⟩
  subst hv2
  have c1 : w2.cell? ⟨g, 1, none⟩ = some (.int .i64 1) := World.ownsRow.cellAt HO2.out 1 (by decide)
  have c2 : w2.cell? ⟨g, 2, none⟩ = some (.int .i64 2) := World.ownsRow.cellAt HO2.out 2 (by decide)
  have HB : Hid (Below w.heap.size w w2) := hb1.trans (hb2.mono hb1.size)
  clear hb1 hb2
  go_wp2_with fail
  go_ret
  exact ⟨rfl, HB.out⟩

end Go.Proofs.YtigffgjkakalfaaGreatDoor

