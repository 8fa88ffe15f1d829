
/- Put of a rumor that is new. -/
import Derived.Test.YtdcekfbejjjkkaaRU3
import Derived.Deep.RegionHeld3
namespace Go.Proofs.Ytdcekfbejjjkkaa
open Go.RowKit Go.WideMaps Go.Maps

theorem look_any {w : World} {b n : Nat} {D : DataW Unit} (h : w.ownsMap Try.prog 9 (plainElem (H := Unit) Try.prog 3) b n D) {s : ByteArray} (hs : s.size ≤ maxLen) :
    ∃ c : Int, (Instr.lookup 50 (.map (some b)) (.string s) true).run Try.prog w = .ok (.tuple #[.int .i64 c, .bool (Maps.has D (kS s))]) w ∧ D.atKey (kS s) (.lit (.int .i64 0)) = .lit (.int .i64 c) := by
  obtain ⟨v, ps, hrun, hv⟩ := h.look_ok law9 Try.underlying50 (zero3' _) (plainElem_int Try.underlying3 (by decide)) (keyOf_string_mk Try.underlying9 hs)
  obtain ⟨c, rfl, hc, _⟩ := plainElem_int_inv Try.underlying3 hv
  exact ⟨c, hrun, congrArg Prod.fst hc⟩

def NotIn (rs : List Rum) (nm : ByteArray) : Prop := ∀ j, j < rs.length → (rs.getD j dr).m.name ≠ nm
theorem has_not {rs : List Rum} {nm : ByteArray} (h : NotIn rs nm) : Maps.has (Dm (rnames rs) rs.length) (kS nm) = false := by
  cases hh : Maps.has (Dm (rnames rs) rs.length) (kS nm)
  · rfl
  · obtain ⟨j, hj, e⟩ := (Dm_has _ _ _).1 hh
    rw [rnames_get] at e
    exact absurd e (h j hj)

set_option maxHeartbeats 3200000 in
set_option maxRecDepth 100000 in
theorem put_new (rs : List Rum) (v : Value) (m : Mem) (w : World) (hv : RSl w v rs) (hm : m.name.size ≤ maxLen) (h0 : chkR rs = 0) (he : m.e = 0) (hno : NotIn rs m.name) (hl : rs.length < 20) :
    Calls Try.prog 7 #[v, .agg #[.string m.name, .int .i64 m.state, .int .i64 m.life, .int .i64 m.addr, .bool m.server]] w fun e w' => ∃ v', e = .returned (.tuple #[v', .int .i64 0]) ∧ ROwn w.heap.size w' v' (rs ++ [⟨m, 0⟩]) ∧ Below w.heap.size w w' := by
  obtain ⟨i0, hi0, hz0, hzs, hzb⟩ := info_parts Try.infoR
  have HV : Hid (RSl w v rs) := hv
  have hchk := fun (w : World) (h : RSl w v rs) => checkR_any rs v w h
  rw [h0] at hchk
  have hcm := fun w => checkMember_any m w hm
  rw [he] at hcm
  have HH : Hid (Maps.has (Dm (rnames rs) rs.length) (kS m.name) = false) := has_not hno
  clear h0 he hv
  obtain ⟨nm, st, lf, ad, sv⟩ := m
  simp only at *
  have hB0 : Below w.heap.size w (w.alloc (.cells #[.string nm, .int .i64 st, .int .i64 lf, .int .i64 ad, .bool sv] 24)) := (Below.refl _ _).alloc (Nat.le_refl _) _
  go_enter Try.func7, Try.ntmps7
  go_wp2_with fail
  refine (hchk _ (HV.out.below hB0)).mono ?_
  rintro e w1 ⟨rfl, hb1⟩
  have c1 : ∀ o, w1.cell? ⟨w.heap.size, o, none⟩ = #[Value.string nm, .int .i64 st, .int .i64 lf, .int .i64 ad, .bool sv][o]? := fun o => by
    rw [hb1.cell (p := ⟨w.heap.size, o, none⟩) (by simp)]; exact cell_top' rfl
  have HB1 : Hid (Below w.heap.size w w1) := hB0.trans (hb1.mono (by simp))
  have hz1 : w.heap.size < w1.heap.size := by have := hb1.size; simp at this; omega
  clear hb1 hB0 hchk
  go_wp2_with fail
  refine (hcm _).mono ?_
  rintro e w2 ⟨rfl, hb2⟩
  have c2 : ∀ o, w2.cell? ⟨w.heap.size, o, none⟩ = #[Value.string nm, .int .i64 st, .int .i64 lf, .int .i64 ad, .bool sv][o]? := fun o => by
    rw [hb2.cell (p := ⟨w.heap.size, o, none⟩) (by simp only; omega)]; exact c1 o
  have HB2 : Hid (Below w.heap.size w w2) := HB1.out.trans (hb2.mono HB1.out.size)
  have hz2 : w.heap.size < w2.heap.size := by have := hb2.size; omega
  clear hb2 c1 hz1 HB1 hcm
  go_wp2_with fail
  refine (rclone_any rs v _ (HV.out.below HB2.out) (by omega)).mono ?_
  rintro e w3 ⟨v3, rfl, ho3, hb3⟩
  have HO3 : Hid (ROwn w2.heap.size w3 v3 rs) := ho3
  have c3 : w3.cell? ⟨w.heap.size, 0, none⟩ = some (.string nm) := by
    rw [hb3.cell (p := ⟨w.heap.size, 0, none⟩) (by simp only; omega)]; exact c2 0
  have C3 : Hid (∀ o, w3.cell? ⟨w.heap.size, o, none⟩ = #[Value.string nm, .int .i64 st, .int .i64 lf, .int .i64 ad, .bool sv][o]?) := fun o => by
    rw [hb3.cell (p := ⟨w.heap.size, o, none⟩) (by simp only; omega)]; exact c2 o
  have HB3 : Hid (Below w.heap.size w w3) := HB2.out.trans (hb3.mono HB2.out.size)
  have hz3 : w.heap.size < w3.heap.size := by have := hb3.size; omega
  have hz23 : w2.heap.size ≤ w3.heap.size := hb3.size
  clear hb3 ho3 c2
  go_wp2_with fail
  go_region_held3 (fun w' => w'.cell? ⟨w.heap.size, 0, none⟩ = some (.string nm)) (first | assumption | go_keep) (first | (go_at_call 22; refine (met_any rs v _ ((HV.out.below HB3.out).below (Below.refl _ _).drew) (by omega)).mono ?_; rintro e w4 ⟨rfl, hown, hb4⟩; obtain ⟨cq, hrun, hat⟩ := look_any hown hm; rw [HH.out] at hrun; have hr2 : (Instr.lookup 50 (.map (some w3.heap.size)) (.string nm) true).run Try.prog w4 = .ok (.tuple #[.int .i64 cq, .bool false]) w4 := hrun; clear hrun hat hown; have HB4 : Hid (Below w3.heap.size w3 w4) := (Below.refl w3.heap.size w3).drew.trans hb4; have hS : w4.cell? ⟨w.heap.size, 0, none⟩ = some (.string nm) := ((hb4.cell (p := ⟨w.heap.size, 0, none⟩) hz3).trans c3); clear hb4))
  obtain ⟨a3, ca3, hv3⟩ := HO3.out.slice
  subst hv3
  have C4 : ∀ o, w4.cell? ⟨w.heap.size, o, none⟩ = #[Value.string nm, .int .i64 st, .int .i64 lf, .int .i64 ad, .bool sv][o]? := fun o => by
    rw [HB4.out.cell (p := ⟨w.heap.size, o, none⟩) hz3]; exact C3.out o
  have HO4 : Hid (ROwn w2.heap.size w4 (.slice a3 rs.length ca3) rs) := HO3.out.below HB4.out
  have HB5 : Hid (Below w.heap.size w w4) := HB3.out.trans (HB4.out.mono HB3.out.size)
  have hz5 : w2.heap.size ≤ w4.heap.size := by have := HB4.out.size; omega
  have HO5 : Hid (∀ ob, (w4.alloc ob).ownsRow w2.heap.size 47 6 (.slice a3 rs.length ca3) rs.length (flR rs)) := fun ob => HO4.out.below ((Below.refl _ _).alloc (Nat.le_refl _) _)
  have HLT : Hid (∀ k, (Value.slice a3 rs.length ca3).ownBlock = some k → w.heap.size ≤ k) := fun k hk => by have := (HO4.out.lt k hk).1; omega
  have HSN : Hid (∀ (w' : World) (v' : Value), w'.ownsRow w2.heap.size 47 6 v' (rs.length + 1) (flR rs ++ (Rum.mk ⟨nm, st, lf, ad, sv⟩ 0).cs) → ROwn w.heap.size w' v' (rs ++ [⟨⟨nm, st, lf, ad, sv⟩, 0⟩])) := fun w' v' h => (rown_snoc h).base (by omega)
  clear HO3 C3 HB4 HB3 c3 hr2 HO4
  generalize hN : rs.length = n at *
  have HN : Hid (rs.length = n) := hN
  clear hN
  go_wp2_with (at_builtin; refine wpList_append_own _ rfl _ _ 22 rfl w2.heap.size 47 i0 _ 6 56 Try.underlying22 hi0 hz0 hzs hzb rfl (by omega) _ n (flR rs) rfl ?hown ⟨w4.heap.size, 0, none⟩ 1 1 (Rum.mk ⟨nm, st, lf, ad, sv⟩ 0).cs rfl rfl ?hnews (rcs_one _) ?h63 ?hbytes ?hbase ?_)
  case hown => exact HO5.out _
  case hnews => (intro j u hj; rw [Addr.add_lit]; exact (cellsAt (heap_alloc_new w4 (.cells #[.string nm, .int .i64 st, .int .i64 lf, .int .i64 ad, .bool sv, .int .i64 0] 47)) (0 + j)).trans (by simpa [Rum.cs] using hj))
  case h63 => (unfold maxLen; omega)
  case hbytes => omega
  case hbase => (simp; omega)
  intro v' w5 r1 r2 r3
  have R1 : Hid (ROwn w.heap.size w5 v' (rs ++ [⟨⟨nm, st, lf, ad, sv⟩, 0⟩])) := HSN.out w5 v' r1
  have R2 : Hid (Below w.heap.size w w5) := (HB5.out.alloc HB5.out.size _).grown r2 (by have := HB5.out.size; simp; omega) (fun k hk => HLT.out k hk)
  clear r1 r2 r3
  go_wp2_with fail
  go_ret2
  exact ⟨v', rfl, R1.out, R2.out⟩

end Go.Proofs.Ytdcekfbejjjkkaa
