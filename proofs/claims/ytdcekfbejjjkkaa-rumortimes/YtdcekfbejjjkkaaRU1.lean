
/- Rumors in memory; met. -/
import Derived.Test.YtdcekfbejjjkkaaRU0
import Derived.Test.YtdcekfbejjjkkaaMK
namespace Go.Proofs.Ytdcekfbejjjkkaa
open Go.RowKit Go.WideMaps Go.Maps

structure Rum where
  m : Mem
  told : Int
def dr : Rum := ⟨dm, 0⟩
def RRow (w : World) (b off : Nat) (rs : List Rum) : Prop := ∀ j, j < rs.length →
  w.cell? ⟨b, off + j * 6, none⟩ = some (.string (rs.getD j dr).m.name) ∧ w.cell? ⟨b, off + j * 6 + 1, none⟩ = some (.int .i64 (rs.getD j dr).m.state) ∧
  w.cell? ⟨b, off + j * 6 + 2, none⟩ = some (.int .i64 (rs.getD j dr).m.life) ∧ w.cell? ⟨b, off + j * 6 + 3, none⟩ = some (.int .i64 (rs.getD j dr).m.addr) ∧
  w.cell? ⟨b, off + j * 6 + 4, none⟩ = some (.bool (rs.getD j dr).m.server) ∧ w.cell? ⟨b, off + j * 6 + 5, none⟩ = some (.int .i64 (rs.getD j dr).told)
theorem RRow.below {w w' : World} {b off B : Nat} {rs : List Rum} (h : RRow w b off rs) (hb : Below B w w') (hB : b < B) : RRow w' b off rs := fun k hk => by
  obtain ⟨h0, h1, h2, h3, h4, h5⟩ := h k hk
  exact ⟨by rw [hb.cell hB]; exact h0, by rw [hb.cell hB]; exact h1, by rw [hb.cell hB]; exact h2, by rw [hb.cell hB]; exact h3, by rw [hb.cell hB]; exact h4, by rw [hb.cell hB]; exact h5⟩
/-- A slice's value, and the rumors that it holds in a world. -/
def RSl (w : World) (v : Value) (rs : List Rum) : Prop :=
  ∃ (a : Option Addr) (cap : Nat), v = .slice a rs.length cap ∧ (∀ j, (rs.getD j dr).m.name.size ≤ maxLen) ∧
    (rs = [] ∨ ∃ b off, a = some ⟨b, off, none⟩ ∧ b < w.heap.size ∧ RRow w b off rs)
theorem RSl.below {w w' : World} {v : Value} {rs : List Rum} (h : RSl w v rs) (hb : Below w.heap.size w w') : RSl w' v rs := by
  obtain ⟨a, c, hv, hn, h⟩ := h
  refine ⟨a, c, hv, hn, ?_⟩
  rcases h with h | ⟨b, off, ha, hlt, hr⟩
  · exact .inl h
  · exact .inr ⟨b, off, ha, Nat.lt_of_lt_of_le hlt hb.size, hr.below hb hlt⟩
def rnames (rs : List Rum) : List ByteArray := rs.map (·.m.name)
theorem rnames_get (rs : List Rum) (k : Nat) : (rnames rs).getD k ByteArray.empty = (rs.getD k dr).m.name := by
  by_cases h : k < rs.length
  · simp [rnames, List.getD, List.getElem?_eq_getElem h]
  · simp [rnames, List.getD, List.getElem?_eq_none (by omega : rs.length ≤ k), dr, dm]

theorem law9 : Keyed Try.prog 9 := string_keyed Try.underlying9
theorem zero3' (w : World) : (zeroValue 3).run Try.prog w = .ok (.int .i64 0) w := by kernel_rfl
theorem run_makeMapHint (n : Int) (w : World) : (Instr.makeMap 50 (some (.int .i64 n))).run Try.prog w = .ok (.map (some w.heap.size)) (w.alloc (.map #[] 0)) := by
  have h := run_underlying Try.underlying50
  simp [Instr.makeMap, h, asInt, newObj]
  rfl

set_option maxHeartbeats 3200000 in
set_option maxRecDepth 100000 in
theorem met_any (rs : List Rum) (v : Value) (w : World) (hv : RSl w v rs) (hn : rs.length ≤ 1000) :
    Calls Try.prog 22 #[v] w fun e w' => e = .returned (.map (some w.heap.size)) ∧ w'.ownsMap Try.prog 9 (plainElem (H := Unit) Try.prog 3) w.heap.size rs.length (Dm (rnames rs) rs.length) ∧ Below w.heap.size w w' := by
  obtain ⟨pa, ca, rfl, hsz, ha⟩ := hv
  have HA : Hid (rs = [] ∨ ∃ b off, pa = some ⟨b, off, none⟩ ∧ b < w.heap.size ∧ RRow w b off rs) := ha
  have HS : Hid (∀ j, (rs.getD j dr).m.name.size ≤ maxLen) := hsz
  clear ha hsz
  generalize hN : rs.length = n at *
  have HN : Hid (rs.length = n) := hN
  clear hN
  have hmm := run_makeMapHint
  go_enter Try.func22, Try.ntmps22
  go_wp2
  go_loopw [11] (fun i wr => ∃ k : Nat, k ≤ n ∧ i = .int .i64 k ∧ Hid (wr.ownsMap Try.prog 9 (plainElem (H := Unit) Try.prog 3) w.heap.size k (Dm (rnames rs) k)) ∧ Hid (Below w.heap.size w wr))
    (fun i _ => n - (intOf i).toNat)
  case atStart => exact ⟨0, Nat.zero_le _, rfl, World.ownsMap_made _ _ _ _, (Below.refl _ _).alloc (Nat.le_refl _) _⟩
  case round =>
    obtain ⟨k, hk, rfl, HO, HB⟩ := hrel
    by_cases hlt : k < n
    · obtain ⟨b, off, hp, hl, hr⟩ : ∃ b off, pa = some ⟨b, off, none⟩ ∧ b < w.heap.size ∧ RRow w b off rs := by
        rcases HA.out with h | h
        · have := HN.out; rw [h] at this; simp at this; omega
        · exact h
      subst hp
      obtain ⟨c0, c1, c2, c3, c4, c5⟩ := hr.below HB.out hl k (by rw [HN.out]; exact hlt)
      have hkey : keyOf Try.prog 9 (.string (rs.getD k dr).m.name) = some (kS (rs.getD k dr).m.name) := keyOf_string_mk Try.underlying9 (HS.out k)
      have HST : Hid (∀ w1 : World, w1.ownsMap Try.prog 9 (plainElem (H := Unit) Try.prog 3) w.heap.size (k + 1) ((Dm (rnames rs) k).put (kS (rs.getD k dr).m.name) (.lit (.int .i64 k))) → w1.ownsMap Try.prog 9 (plainElem (H := Unit) Try.prog 3) w.heap.size (k + 1) (Dm (rnames rs) (k + 1))) := fun w1 h => by
        rw [Dm, rnames_get]; exact h
      generalize (rs.getD k dr) = rk at *
      obtain ⟨⟨nm, st, lf, ad, sv⟩, td⟩ := rk
      simp only at c0 c1 c2 c3 c4 c5 hkey HST
      clear hr
      go_wp2_with (first
        | (at_mapUpdate; refine wpList_mapUpdate_own _ rfl _ _ _ 50 rfl 9 3 law9 Try.underlying50 _ w.heap.size k _ rfl (HO.out.alloc _) (by unfold maxLen; omega) _ _ _ rfl rfl hkey _ [] (plainElem_int Try.underlying3 (WalkArith.wf_i64 (by omega))) ?_)
        | fail)
      intro w1 hown1 hgrow1
      have R1 : Hid (w1.ownsMap Try.prog 9 (plainElem (H := Unit) Try.prog 3) w.heap.size (k + 1) (Dm (rnames rs) (k + 1))) := HST.out w1 hown1
      have R2 : Hid (Below w.heap.size w w1) := (HB.out.alloc HB.out.size _).grown hgrow1 (by have := HB.out.size; simp; omega) (fun j hj => by cases hj; exact Nat.le_refl _)
      clear hown1 hgrow1 HO HB c0 c1 c2 c3 c4 c5 HST
      go_wp2_with fail
      go_roundw
      case rel => exact ⟨k + 1, by omega, by go_num, R1, R2⟩
      case measure => simp [intOf]; omega
    · have hkn : k = n := by omega
      subst hkn
      go_wp2_with fail
      go_ret
      exact ⟨rfl, HO.out, HB.out⟩

end Go.Proofs.Ytdcekfbejjjkkaa
