
/- Register and Find; what must be in any case of services. -/
import Derived.Test.YtjpcngkddejdjafSK8
namespace Go.Proofs.Ytjpcngkddejdjaf
namespace Sv
open Go.RowKit

theorem e_zero {m : Svc} (h : m.e = 0) : labB m.node = true ∧ labB m.idn = true ∧ labB m.name = true ∧ tagB m.tag = true ∧ 1 ≤ m.version ∧ m.version ≤ 1000000 := by
  unfold Svc.e at h
  split at h
  · rename_i h1
    split at h
    · rename_i h2
      simp [within] at h1 h2
      exact ⟨h1.1, h1.2.1, h1.2.2.1, h1.2.2.2, h2.2.2.1, h2.2.2.2⟩
    · omega
  · omega
theorem e_at {ms : List Svc} (h : firstE ms = 0) (p : Nat) (hp : p < ms.length) : (ms.getD p dm).e = 0 := by
  have := firstE_mem ms h ms[p] (List.getElem_mem hp)
  simpa [List.getD, List.getElem?_eq_getElem hp] using this
theorem fnd_ver {ms : List Svc} {t : Svc} (h : firstE ms = 0) {p : Nat} {f : Bool} (hat : At ms t p f) : 0 ≤ (fnd ms p f).version ∧ (fnd ms p f).version ≤ 1000000 := by
  cases f
  · exact ⟨by show (0 : Int) ≤ 0; omega, by show (0 : Int) ≤ 1000000; omega⟩
  · have := (e_zero (e_at h p (hat.is.1 rfl).1)).2.2.2.2
    rw [fnd, if_pos rfl]
    omega

set_option maxHeartbeats 400000 in
theorem aloneE_any (m : Svc) (w : World) :
    Calls Try.prog 47 #[.agg #[.string m.node, .string m.idn, .string m.name, .string m.tag, .int .i64 m.addr, .int .i64 m.port, .bool m.passing, .int .i64 m.version, .bool m.gone]] w fun e w' => e = .returned (.slice (some ⟨w.heap.size + 1, 0, none⟩) 1 1) ∧ w' = (w.alloc (.cells #[.string m.node, .string m.idn, .string m.name, .string m.tag, .int .i64 m.addr, .int .i64 m.port, .bool m.passing, .int .i64 m.version, .bool m.gone] 24)).alloc (.cells #[.string m.node, .string m.idn, .string m.name, .string m.tag, .int .i64 m.addr, .int .i64 m.port, .bool m.passing, .int .i64 m.version, .bool m.gone] 24) := by
  go_enter Try.func47, Try.ntmps47
  go_wp2
  go_ret
  exact ⟨rfl, rfl⟩

set_option maxHeartbeats 1600000 in
theorem replace_any (ms : List Svc) (v : Value) (m : Svc) (w : World) (hv : Sl w v ms) (hm : m.ok) :
    Calls Try.prog 30 #[v, .agg #[.string m.node, .string m.idn, .string m.name, .string m.tag, .int .i64 m.addr, .int .i64 m.port, .bool m.passing, .int .i64 m.version, .bool m.gone]] w fun e w' => ∃ v', e = .returned (.tuple #[v', .int .i64 (joinE ms [m])]) ∧ Below w.heap.size w w' ∧
      (joinE ms [m] ≠ 0 → v' = .slice none 0 0) ∧ (joinE ms [m] = 0 → Own w.heap.size w' v' (joinL ms [m])) := by
  have HV : Hid (Sl w v ms) := hv
  have HM : Hid m.ok := hm
  obtain ⟨pa, ca, rfl, _, _⟩ := hv
  obtain ⟨W, hW⟩ : ∃ W, W = ((w.alloc (.cells #[.string m.node, .string m.idn, .string m.name, .string m.tag, .int .i64 m.addr, .int .i64 m.port, .bool m.passing, .int .i64 m.version, .bool m.gone] 24)).alloc (.cells #[.string m.node, .string m.idn, .string m.name, .string m.tag, .int .i64 m.addr, .int .i64 m.port, .bool m.passing, .int .i64 m.version, .bool m.gone] 24)).alloc (.cells #[.string m.node, .string m.idn, .string m.name, .string m.tag, .int .i64 m.addr, .int .i64 m.port, .bool m.passing, .int .i64 m.version, .bool m.gone] 24) := ⟨_, rfl⟩
  have hbW : Below w.heap.size w W := by rw [hW]; exact (((Below.refl _ _).alloc (Nat.le_refl _) _).alloc (by simp) _).alloc (by simp; omega) _
  have hsW : W.heap.size = w.heap.size + 1 + 1 + 1 := by rw [hW]; simp
  have hgW : W.heap[w.heap.size + 1 + 1]? = some (.cells #[.string m.node, .string m.idn, .string m.name, .string m.tag, .int .i64 m.addr, .int .i64 m.port, .bool m.passing, .int .i64 m.version, .bool m.gone] 24 (0, 0)) := by
    have h := heap_alloc_new ((w.alloc (.cells #[.string m.node, .string m.idn, .string m.name, .string m.tag, .int .i64 m.addr, .int .i64 m.port, .bool m.passing, .int .i64 m.version, .bool m.gone] 24)).alloc (.cells #[.string m.node, .string m.idn, .string m.name, .string m.tag, .int .i64 m.addr, .int .i64 m.port, .bool m.passing, .int .i64 m.version, .bool m.gone] 24)) (.cells #[.string m.node, .string m.idn, .string m.name, .string m.tag, .int .i64 m.addr, .int .i64 m.port, .bool m.passing, .int .i64 m.version, .bool m.gone] 24)
    rw [hW]; simpa using h
  have HW : Hid (W = ((w.alloc (.cells #[.string m.node, .string m.idn, .string m.name, .string m.tag, .int .i64 m.addr, .int .i64 m.port, .bool m.passing, .int .i64 m.version, .bool m.gone] 24)).alloc (.cells #[.string m.node, .string m.idn, .string m.name, .string m.tag, .int .i64 m.addr, .int .i64 m.port, .bool m.passing, .int .i64 m.version, .bool m.gone] 24)).alloc (.cells #[.string m.node, .string m.idn, .string m.name, .string m.tag, .int .i64 m.addr, .int .i64 m.port, .bool m.passing, .int .i64 m.version, .bool m.gone] 24)) := hW
  clear hW hm
  go_enter Try.func30, Try.ntmps30
  go_wp2_with (go_at_call 47; refine (aloneE_any m _).mono ?_; rintro e w' ⟨rfl, rfl⟩)
  rw [← HW.out]
  refine (join_any ms [m] (.slice pa ms.length ca) (.slice (some ⟨w.heap.size + 1 + 1, 0, none⟩) 1 1) _ _ _ ?ha ?hb ?hpb ?hc0 ?hc1).mono ?_
  case ha => exact HV.out.below (hbW.alloc hbW.size _)
  case hb => exact sl_one _ _ _ m HM.out ((Below.heap_alloc _ _ _ (by omega)).trans hgW)
  case hpb => simp; omega
  case hc0 => exact (cell_topL (by omega)).trans rfl
  case hc1 => exact (cell_topL (by omega)).trans rfl
  rintro e w3 ⟨v', rfl, hb3, hbad, hgood⟩
  have HBAD : Hid (joinE ms [m] ≠ 0 → v' = .slice none 0 0) := hbad
  have HB3 : Hid (Below w.heap.size w w3) := (hbW.alloc hbW.size _).trans (hb3.mono (by simp; omega))
  have HGOOD : Hid (joinE ms [m] = 0 → Own w.heap.size w3 v' (joinL ms [m])) := fun h => (hgood h).mono (by simp; omega)
  clear hbad hgood hb3 hgW hsW hbW
  go_wp2_with fail
  go_ret2
  exact ⟨v', rfl, HB3.out, HBAD.out, HGOOD.out⟩

/-- E3: the service as it is registered: by one more version, not gone. -/
def reg (ms : List Svc) (p : Nat) (f : Bool) (s : Svc) : Svc := { s with version := (fnd ms p f).version + 1, gone := false }
theorem reg_ok {ms : List Svc} {p : Nat} {f : Bool} {s : Svc} (h : s.ok) : (reg ms p f s).ok := h
/-- The key of a service. -/
def keyOf (s : Svc) : Svc := ⟨s.node, s.idn, ⟨#[]⟩, ⟨#[]⟩, 0, 0, false, 0, false⟩

set_option maxHeartbeats 400000 in
theorem register_bad (ms : List Svc) (v : Value) (s : Svc) (w : World) (hv : Sl w v ms) (hne : chk ms ≠ 0) :
    Calls Try.prog 9 #[v, .agg #[.string s.node, .string s.idn, .string s.name, .string s.tag, .int .i64 s.addr, .int .i64 s.port, .bool s.passing, .int .i64 s.version, .bool s.gone]] w fun e w' => e = .returned (.tuple #[.slice none 0 0, .int .i64 (chk ms)]) ∧ Below w.heap.size w w' := by
  have he : (chk ms != 0) = true := by simpa using hne
  have hb0 : Below w.heap.size w (w.alloc (.cells #[.string s.node, .string s.idn, .string s.name, .string s.tag, .int .i64 s.addr, .int .i64 s.port, .bool s.passing, .int .i64 s.version, .bool s.gone] 24)) := (Below.refl _ _).alloc (Nat.le_refl _) _
  have HV : Hid (Sl (w.alloc (.cells #[.string s.node, .string s.idn, .string s.name, .string s.tag, .int .i64 s.addr, .int .i64 s.port, .bool s.passing, .int .i64 s.version, .bool s.gone] 24)) v ms) := hv.below hb0
  clear hne hv
  go_enter Try.func9, Try.ntmps9
  go_wp2_with (go_at_call 12; refine (check_any ms _ _ HV.out).mono ?_; rintro e w' ⟨rfl, hb2⟩)
  go_ret2
  exact ⟨rfl, hb0.trans (hb2.mono (by simp))⟩

set_option maxHeartbeats 3200000 in
set_option maxRecDepth 100000 in
theorem register_good (ms : List Svc) (v : Value) (s : Svc) (w : World) (hv : Sl w v ms) (h0 : chk ms = 0) (hs : s.ok) (p : Nat) (f : Bool) (hat : At ms (keyOf s) p f) :
    Calls Try.prog 9 #[v, .agg #[.string s.node, .string s.idn, .string s.name, .string s.tag, .int .i64 s.addr, .int .i64 s.port, .bool s.passing, .int .i64 s.version, .bool s.gone]] w fun e w' => ∃ v', e = .returned (.tuple #[v', .int .i64 (joinE ms [reg ms p f s])]) ∧ Below w.heap.size w w' ∧
      (joinE ms [reg ms p f s] ≠ 0 → v' = .slice none 0 0) ∧ (joinE ms [reg ms p f s] = 0 → Own w.heap.size w' v' (joinL ms [reg ms p f s])) := by
  have he : (chk ms != 0) = false := by simpa using h0
  have hz := chk_zero h0
  have hb0 : Below w.heap.size w (w.alloc (.cells #[.string s.node, .string s.idn, .string s.name, .string s.tag, .int .i64 s.addr, .int .i64 s.port, .bool s.passing, .int .i64 s.version, .bool s.gone] 24)) := (Below.refl _ _).alloc (Nat.le_refl _) _
  have HV : Hid (Sl (w.alloc (.cells #[.string s.node, .string s.idn, .string s.name, .string s.tag, .int .i64 s.addr, .int .i64 s.port, .bool s.passing, .int .i64 s.version, .bool s.gone] 24)) v ms) := hv.below hb0
  have HV0 : Hid (Sl w v ms) := hv
  have HR : Hid (Rise ms) := hz.2.1
  have hlen := hz.1
  have HF : Hid (firstE ms = 0) := hz.2.2
  have HAT : Hid (At ms (keyOf s) p f) := hat
  have HS : Hid ((reg ms p f s).ok) := hs
  have HG : Hid (reg ms p f s = { s with version := (fnd ms p f).version + 1, gone := false }) := rfl
  generalize reg ms p f s = g at *
  clear hv h0 hz hat hs
  go_enter Try.func9, Try.ntmps9
  go_wp2_with fail
  refine (check_any ms _ _ HV.out).mono ?_
  rintro e w1 ⟨rfl, hb1⟩
  have hs1 : w.heap.size + 1 ≤ w1.heap.size := by have := hb1.size; simpa using this
  have t0 : w1.cell? ⟨w.heap.size, 0, none⟩ = some (.string s.node) := (hb1.cell (p := ⟨w.heap.size, 0, none⟩) (by simp)).trans ((cell_topL rfl).trans rfl)
  have t1 : w1.cell? ⟨w.heap.size, 1, none⟩ = some (.string s.idn) := (hb1.cell (p := ⟨w.heap.size, 1, none⟩) (by simp)).trans ((cell_topL rfl).trans rfl)
  have t2 : w1.cell? ⟨w.heap.size, 2, none⟩ = some (.string s.name) := (hb1.cell (p := ⟨w.heap.size, 2, none⟩) (by simp)).trans ((cell_topL rfl).trans rfl)
  have t3 : w1.cell? ⟨w.heap.size, 3, none⟩ = some (.string s.tag) := (hb1.cell (p := ⟨w.heap.size, 3, none⟩) (by simp)).trans ((cell_topL rfl).trans rfl)
  have t4 : w1.cell? ⟨w.heap.size, 4, none⟩ = some (.int .i64 s.addr) := (hb1.cell (p := ⟨w.heap.size, 4, none⟩) (by simp)).trans ((cell_topL rfl).trans rfl)
  have t5 : w1.cell? ⟨w.heap.size, 5, none⟩ = some (.int .i64 s.port) := (hb1.cell (p := ⟨w.heap.size, 5, none⟩) (by simp)).trans ((cell_topL rfl).trans rfl)
  have t6 : w1.cell? ⟨w.heap.size, 6, none⟩ = some (.bool s.passing) := (hb1.cell (p := ⟨w.heap.size, 6, none⟩) (by simp)).trans ((cell_topL rfl).trans rfl)
  have t7 : w1.cell? ⟨w.heap.size, 7, none⟩ = some (.int .i64 s.version) := (hb1.cell (p := ⟨w.heap.size, 7, none⟩) (by simp)).trans ((cell_topL rfl).trans rfl)
  have t8 : w1.cell? ⟨w.heap.size, 8, none⟩ = some (.bool s.gone) := (hb1.cell (p := ⟨w.heap.size, 8, none⟩) (by simp)).trans ((cell_topL rfl).trans rfl)
  have hfz1 : ∀ o, w1.frozen? ⟨w.heap.size, o, none⟩ = false := fun o => (hb1.frozen (p := ⟨w.heap.size, o, none⟩) (by simp)).trans (by simp)
  go_wp2_with fail
  refine (find2_any ms _ s.node s.idn _ (HV.out.below hb1) hlen HR.out).mono ?_
  rintro e w2 ⟨p', f', rfl, hb2, hat'⟩
  obtain ⟨rfl, rfl⟩ := at_uniq HAT.out hat'
  have hver := fnd_ver HF.out hat'
  have hs2 : w1.heap.size ≤ w2.heap.size := hb2.size
  have hw2 : w.heap.size < w2.heap.size := by omega
  have r0 : w2.cell? ⟨w.heap.size, 0, none⟩ = some (.string s.node) := (hb2.cell (p := ⟨w.heap.size, 0, none⟩) (by show w.heap.size < w1.heap.size; omega)).trans t0
  have r1 : w2.cell? ⟨w.heap.size, 1, none⟩ = some (.string s.idn) := (hb2.cell (p := ⟨w.heap.size, 1, none⟩) (by show w.heap.size < w1.heap.size; omega)).trans t1
  have r2 : w2.cell? ⟨w.heap.size, 2, none⟩ = some (.string s.name) := (hb2.cell (p := ⟨w.heap.size, 2, none⟩) (by show w.heap.size < w1.heap.size; omega)).trans t2
  have r3 : w2.cell? ⟨w.heap.size, 3, none⟩ = some (.string s.tag) := (hb2.cell (p := ⟨w.heap.size, 3, none⟩) (by show w.heap.size < w1.heap.size; omega)).trans t3
  have r4 : w2.cell? ⟨w.heap.size, 4, none⟩ = some (.int .i64 s.addr) := (hb2.cell (p := ⟨w.heap.size, 4, none⟩) (by show w.heap.size < w1.heap.size; omega)).trans t4
  have r5 : w2.cell? ⟨w.heap.size, 5, none⟩ = some (.int .i64 s.port) := (hb2.cell (p := ⟨w.heap.size, 5, none⟩) (by show w.heap.size < w1.heap.size; omega)).trans t5
  have r6 : w2.cell? ⟨w.heap.size, 6, none⟩ = some (.bool s.passing) := (hb2.cell (p := ⟨w.heap.size, 6, none⟩) (by show w.heap.size < w1.heap.size; omega)).trans t6
  have r7 : w2.cell? ⟨w.heap.size, 7, none⟩ = some (.int .i64 s.version) := (hb2.cell (p := ⟨w.heap.size, 7, none⟩) (by show w.heap.size < w1.heap.size; omega)).trans t7
  have r8 : w2.cell? ⟨w.heap.size, 8, none⟩ = some (.bool s.gone) := (hb2.cell (p := ⟨w.heap.size, 8, none⟩) (by show w.heap.size < w1.heap.size; omega)).trans t8
  have hfz : ∀ o, w2.frozen? ⟨w.heap.size, o, none⟩ = false := fun o => (hb2.frozen (p := ⟨w.heap.size, o, none⟩) (by show w.heap.size < w1.heap.size; omega)).trans (hfz1 o)
  have HB2 : Hid (Below w.heap.size w w2) := hb0.trans ((hb1.trans (hb2.mono hb1.size)).mono (by simp))
  have HV2 : Hid (Sl w2 v ms) := (HV.out.below hb1).below hb2
  clear hat' hb1 hb2 HV t0 t1 t2 t3 t4 t5 t6 t7 t8 hfz1 hb0
  generalize fnd ms p f = kn at *
  obtain ⟨k_node, k_idn, k_name, k_tag, k_addr, k_port, k_passing, k_version, k_gone⟩ := kn
  simp only at hver
  obtain ⟨hv0, hv1⟩ := hver
  go_wp2_with fail
  have hg := HG.out
  refine (show Calls Try.prog 30 #[v, .agg #[.string g.node, .string g.idn, .string g.name, .string g.tag, .int .i64 g.addr, .int .i64 g.port, .bool g.passing, .int .i64 g.version, .bool g.gone]] _ _ → _ from fun h => by rw [hg] at h; exact h) ?_
  have hBx := ((HB2.out.setCell (p := ⟨w.heap.size, 7, none⟩) (Nat.le_refl _) (.int .i64 (k_version + 1))).setCell (p := ⟨w.heap.size, 8, none⟩) (Nat.le_refl _) (.bool false)).alloc (by simp; omega) (.cells #[.string k_node, .string k_idn, .string k_name, .string k_tag, .int .i64 k_addr, .int .i64 k_port, .bool k_passing, .int .i64 k_version, .bool k_gone] 24)
  refine (replace_any ms v g _ (HV0.out.below hBx) HS.out).mono ?_
  rintro e w3 ⟨v', rfl, hb3, hbad, hgood⟩
  have HBAD : Hid (joinE ms [g] ≠ 0 → v' = .slice none 0 0) := hbad
  have HB3 : Hid (Below w.heap.size w w3) := hBx.trans (hb3.mono (by simp; omega))
  have HGOOD : Hid (joinE ms [g] = 0 → Own w.heap.size w3 v' (joinL ms [g])) := fun h => (hgood h).mono (by simp; omega)
  clear hbad hgood hb3 hBx hg
  go_wp2_with fail
  go_ret2
  exact ⟨v', rfl, HB3.out, HBAD.out, HGOOD.out⟩

/-- E4: is a service one that Find tells? -/
def keep (name tag : ByteArray) (m : Svc) : Bool := (m.name.toList == name.toList) && ((tag.toList == []) || (m.tag.toList == tag.toList)) && m.passing && !m.gone
def findL (ms : List Svc) (name tag : ByteArray) : List Svc := ms.filter (keep name tag)
def findE (name tag : ByteArray) : Int := if (labB name && tagB tag) = true then 0 else 1

theorem findL_yes {ms : List Svc} {name tag : ByteArray} {k : Nat} (hk : k < ms.length) (h : keep name tag (ms.getD k dm) = true) : findL (ms.take (k + 1)) name tag = findL (ms.take k) name tag ++ [ms.getD k dm] := by
  rw [RL.getD_el dm hk] at h ⊢
  rw [findL, findL, List.take_succ_eq_append_getElem hk, List.filter_append, List.filter_cons_of_pos h]
  rfl
theorem findL_no {ms : List Svc} {name tag : ByteArray} {k : Nat} (hk : k < ms.length) (h : keep name tag (ms.getD k dm) = false) : findL (ms.take (k + 1)) name tag = findL (ms.take k) name tag := by
  rw [RL.getD_el dm hk] at h
  rw [findL, findL, List.take_succ_eq_append_getElem hk, List.filter_append, List.filter_cons_of_neg (by rw [h]; exact Bool.false_ne_true)]
  simp
theorem findL_len (ms : List Svc) (name tag : ByteArray) : (findL ms name tag).length ≤ ms.length := List.length_filter_le _ _
theorem findL_ok {ms : List Svc} {name tag : ByteArray} (h : ∀ m ∈ ms, m.ok) : ∀ m ∈ findL ms name tag, m.ok := fun m hm => h m (List.mem_filter.1 hm).1

/-- Why a service is not told, or is. -/
theorem keep_why (name tag : ByteArray) (m : Svc) :
    (keep name tag m = false ∧ ((m.name.toList == name.toList) = false ∨ ((m.name.toList == name.toList) = true ∧ (tag.toList == []) = false ∧ (m.tag.toList == tag.toList) = false)
      ∨ ((m.name.toList == name.toList) = true ∧ (tag.toList == []) = true ∧ m.passing = false) ∨ ((m.name.toList == name.toList) = true ∧ (tag.toList == []) = false ∧ (m.tag.toList == tag.toList) = true ∧ m.passing = false)
      ∨ ((m.name.toList == name.toList) = true ∧ (tag.toList == []) = true ∧ m.passing = true ∧ m.gone = true) ∨ ((m.name.toList == name.toList) = true ∧ (tag.toList == []) = false ∧ (m.tag.toList == tag.toList) = true ∧ m.passing = true ∧ m.gone = true)))
    ∨ (keep name tag m = true ∧ (((m.name.toList == name.toList) = true ∧ (tag.toList == []) = true ∧ m.passing = true ∧ m.gone = false) ∨ ((m.name.toList == name.toList) = true ∧ (tag.toList == []) = false ∧ (m.tag.toList == tag.toList) = true ∧ m.passing = true ∧ m.gone = false))) := by
  unfold keep
  generalize (m.name.toList == name.toList) = b1
  generalize (tag.toList == []) = b2
  generalize (m.tag.toList == tag.toList) = b3
  generalize m.passing = b4
  generalize m.gone = b5
  cases b1 <;> cases b2 <;> cases b3 <;> cases b4 <;> cases b5 <;> simp

set_option maxHeartbeats 400000 in
theorem findS_bad (ms : List Svc) (v : Value) (name tag : ByteArray) (w : World) (hv : Sl w v ms) (hne : chk ms ≠ 0) :
    Calls Try.prog 10 #[v, .string name, .string tag] w fun e w' => e = .returned (.tuple #[.slice none 0 0, .int .i64 (chk ms)]) ∧ Below w.heap.size w w' := by
  have he : (chk ms != 0) = true := by simpa using hne
  have HV : Hid (Sl w v ms) := hv
  clear hne hv
  go_enter Try.func10, Try.ntmps10
  go_wp2_with (go_at_call 12; refine (check_any ms _ _ HV.out).mono ?_; rintro e w' ⟨rfl, hb2⟩)
  go_ret2
  exact ⟨rfl, hb2⟩

set_option maxHeartbeats 800000 in
theorem findS_form (ms : List Svc) (v : Value) (name tag : ByteArray) (w : World) (hv : Sl w v ms) (h0 : chk ms = 0) (hn : name.size ≤ maxLen) (ht : tag.size ≤ maxLen) (hl : findE name tag ≠ 0) :
    Calls Try.prog 10 #[v, .string name, .string tag] w fun e w' => e = .returned (.tuple #[.slice none 0 0, .int .i64 (findE name tag)]) ∧ Below w.heap.size w w' := by
  have he : (chk ms != 0) = false := by simpa using h0
  have HV : Hid (Sl w v ms) := hv
  have HE : Hid (findE name tag = 1) := by
    show findE name tag = 1
    unfold findE at hl ⊢
    split at hl
    · exact absurd rfl hl
    · rename_i h; rw [if_neg h]
  have hll : (labB name && tagB tag) = false := by
    unfold findE at hl
    cases h : (labB name && tagB tag)
    · rfl
    · rw [h, if_pos rfl] at hl; exact absurd rfl hl
  clear hv h0 hl
  rcases h1 : labB name with _ | _
  · go_enter Try.func10, Try.ntmps10
    go_wp2_with (first | (go_at_call 12; refine (check_any ms _ _ HV.out).mono ?_; rintro e w' ⟨rfl, hb2⟩) | (go_at_call 31; refine (label_any _ _ hn).mono ?_; rintro e w' ⟨rfl, rfl⟩; rw [h1]))
    go_ret2
    exact ⟨by rw [HE.out]; rfl, hb2⟩
  · have h2 : tagB tag = false := by rw [h1] at hll; simpa using hll
    go_enter Try.func10, Try.ntmps10
    go_wp2_with (first | (go_at_call 12; refine (check_any ms _ _ HV.out).mono ?_; rintro e w' ⟨rfl, hb2⟩) | (go_at_call 31; refine (label_any _ _ hn).mono ?_; rintro e w' ⟨rfl, rfl⟩; rw [h1]) | (go_at_call 32; refine (tag_any tag _ _ ht (heap_new1 _ _)).mono ?_; rintro e w3 ⟨rfl, rfl⟩; rw [h2]))
    go_ret2
    exact ⟨by rw [HE.out]; rfl, hb2.alloc hb2.size _⟩

set_option maxHeartbeats 6400000 in
set_option maxRecDepth 100000 in
theorem findS_good (ms : List Svc) (v : Value) (name tag : ByteArray) (w : World) (hv : Sl w v ms) (h0 : chk ms = 0) (hn : name.size ≤ maxLen) (ht : tag.size ≤ maxLen) (hl : findE name tag = 0) :
    Calls Try.prog 10 #[v, .string name, .string tag] w fun e w' => ∃ v', e = .returned (.tuple #[v', .int .i64 0]) ∧ Own w.heap.size w' v' (findL ms name tag) ∧ Below w.heap.size w w' := by
  obtain ⟨i0, hi0, hz0, hzs, hzb⟩ := info_parts Try.info24
  have he : (chk ms != 0) = false := by simpa using h0
  have hlen := (chk_zero h0).1
  have HV : Hid (Sl w v ms) := hv
  have hll : labB name = true ∧ tagB tag = true := by
    unfold findE at hl
    split at hl
    · rename_i h; simpa using h
    · cases hl
  obtain ⟨h1, h2⟩ := hll
  obtain ⟨pa, ca, rfl, _, ha⟩ := hv
  have HA : Hid (ms = [] ∨ ∃ b off, pa = some ⟨b, off, none⟩ ∧ b < w.heap.size ∧ Row w b off ms) := ha
  clear ha h0 hl
  generalize hna : ms.length = n at *
  have HN : Hid (ms.length = n) := hna
  clear hna
  go_enter Try.func10, Try.ntmps10
  go_wp2_with (first | (go_at_call 12; refine (check_any ms _ _ HV.out).mono ?_; rintro e w1 ⟨rfl, hb1⟩) | (go_at_call 31; refine (label_any _ _ hn).mono ?_; rintro e w' ⟨rfl, rfl⟩; rw [h1]) | (go_at_call 32; refine (tag_any tag _ _ ht (heap_new1 _ _)).mono ?_; rintro e w3 ⟨rfl, rfl⟩; rw [h2]))
  have HB1 : Hid (Below w.heap.size w _) := hb1.alloc hb1.size (.cells #[.string tag] 9)
  have hs1 := HB1.out.size
  clear hb1 HV
  go_loopw [9, 28] (fun kn i w' => ∃ k : Nat, k ≤ n ∧ i = .int .i64 k ∧ Below w.heap.size w w' ∧ Hid (Own w.heap.size w' kn (findL (ms.take k) name tag))) (fun _ i _ => n - (intOf i).toNat)
  case atStart => exact ⟨0, Nat.zero_le _, rfl, HB1.out, own_nil _ _⟩
  case round =>
    obtain ⟨k, hk, rfl, hbl, HO⟩ := hrel
    obtain ⟨hbc, hbf⟩ := bcell hbl
    have hsz := hbl.size
    have hll2 : (findL (ms.take k) name tag).length ≤ 40 := by have h1 := findL_len (ms.take k) name tag; have h2 : (ms.take k).length ≤ k := List.length_take_le _ _; omega
    by_cases hlt : k < n
    · obtain ⟨b1, o1, hp1, hl1, hr1⟩ : ∃ b off, pa = some ⟨b, off, none⟩ ∧ b < w.heap.size ∧ Row w b off ms := by
        rcases HA.out with h | h
        · have := HN.out; rw [h] at this; simp at this; omega
        · exact h
      subst hp1
      obtain ⟨c0, c1, c2, c3, c4, c5, c6, c7, c8⟩ := hr1 k (by rw [HN.out]; exact hlt)
      clear hr1
      have hkl : k < ms.length := by rw [HN.out]; exact hlt
      have HY : Hid (keep name tag (ms.getD k dm) = true → findL (ms.take (k + 1)) name tag = findL (ms.take k) name tag ++ [ms.getD k dm]) := fun h => findL_yes hkl h
      have HNO : Hid (keep name tag (ms.getD k dm) = false → findL (ms.take (k + 1)) name tag = findL (ms.take k) name tag) := fun h => findL_no hkl h
      generalize ms.getD k dm = m at *
      rcases keep_why name tag m with ⟨hkp, hw⟩ | ⟨hkp, hw⟩
      · have HST : Hid (findL (ms.take (k + 1)) name tag = findL (ms.take k) name tag) := HNO.out hkp
        clear HY HNO hkp
        rcases hw with h | ⟨h, g1, g2⟩ | ⟨h, g1, g2⟩ | ⟨h, g1, g2, g3⟩ | ⟨h, g1, g2, g3⟩ | ⟨h, g1, g2, g3, g4⟩
        all_goals
          go_wp2_with fail
          go_roundw
          case rel => exact ⟨k + 1, by omega, by go_num, hbl.alloc hsz _, by rw [HST.out]; exact HO.out.below ((Below.refl _ _).alloc (Nat.le_refl _) _)⟩
          case measure => simp [intOf]; omega
      · have HST : Hid (findL (ms.take (k + 1)) name tag = findL (ms.take k) name tag ++ [m]) := HY.out hkp
        clear HY HNO hkp
        generalize findL (ms.take k) name tag = L at *
        rcases hw with ⟨h, g1, gp, gg⟩ | ⟨h, g1, g2, gp, gg⟩
        all_goals
          go_wp2_with (at_builtin; refine wpList_append_own _ rfl _ _ 22 rfl w.heap.size 24 i0 _ 9 104 Try.underlying22 hi0 hz0 hzs hzb rfl (by omega) _ L.length (fl L) rfl ?hown ⟨wr.heap.size + 1, 0, none⟩ 1 1 m.cs rfl rfl ?hnews (cs_one _) ?h63 ?hbytes ?hbase ?_)
          case hown => exact HO.out.below (((Below.refl _ _).alloc (Nat.le_refl _) _).alloc (by simp) _)
          case hnews => (intro j u hj; rw [Addr.add_lit]; exact (cell_topL (by simp)).trans (by simpa [Svc.cs, gp, gg] using hj))
          case h63 => (unfold maxLen; omega)
          case hbytes => omega
          case hbase => (simp; omega)
          all_goals
            intro v' w2 r1 r2 r3
            have HBX : Hid (Below w.heap.size w w2) := ((hbl.alloc hsz _).alloc (by simp; omega) _).grown r2 (by simp; omega) (fun j hj => (HO.out.lt j hj).1)
            have HOX : Hid (Own w.heap.size w2 v' (L ++ [m])) := own_snoc r1
            clear r1 r2 r3
            go_wp2_with fail
            go_roundw
            case rel => exact ⟨k + 1, by omega, by go_num, HBX.out, by rw [HST.out]; exact HOX.out⟩
            case measure => simp [intOf]; omega
    · have hkn : k = n := by omega
      subst hkn
      have HFO : Hid (Own w.heap.size wr u9 (findL ms name tag)) := by
        have h := HO.out
        rw [List.take_of_length_le (by rw [HN.out]; exact Nat.le_refl _)] at h
        exact h
      go_wp2_with fail
      go_ret2
      exact ⟨u9, rfl, HFO.out, hbl⟩

end Sv
end Go.Proofs.Ytjpcngkddejdjaf
