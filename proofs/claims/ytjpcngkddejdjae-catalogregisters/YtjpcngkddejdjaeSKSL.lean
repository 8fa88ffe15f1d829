/- The law CatalogRegisters. -/
import Derived.Test.YtjpcngkddejdjaeSKSE
namespace Go.Proofs.Ytjpcngkddejdjae
namespace Sv
open Go.RowKit

set_option maxHeartbeats 6400000 in
set_option maxRecDepth 100000 in
theorem catalogRegisters_walk (ms : List Svc) (v : Value) (s : Svc) (w : World) (hv : Sl w v ms) (hs : s.ok) :
    Calls Try.prog 5 #[v, .agg #[.string s.node, .string s.idn, .string s.name, .string s.tag, .int .i64 s.addr, .int .i64 s.port, .bool s.passing, .int .i64 s.version, .bool s.gone]] w fun e w' => e = .returned (.bool true) ∧ Below w.heap.size w w' := by
  have hb0 : Below w.heap.size w (w.alloc (.cells #[.string s.node, .string s.idn, .string s.name, .string s.tag, .int .i64 s.addr, .int .i64 s.port, .bool s.passing, .int .i64 s.version, .bool s.gone] 28)) := (Below.refl _ _).alloc (Nat.le_refl _) _
  have HV : Hid (Sl (w.alloc (.cells #[.string s.node, .string s.idn, .string s.name, .string s.tag, .int .i64 s.addr, .int .i64 s.port, .bool s.passing, .int .i64 s.version, .bool s.gone] 28)) v ms) := hv.below hb0
  have HOKS : Hid (∀ m ∈ ms, m.ok) := sl_ok hv
  clear hv
  by_cases hc : chk ms = 0
  · have hec : (chk ms == 0) = true := by simpa using hc
    obtain ⟨p, f, hat⟩ := at_any ms (chk_zero hc).2.1 (keyOf s)
    have hlen := (chk_zero hc).1
    obtain ⟨hj1, hj2⟩ := reg_join hc hat
    have HRG : Hid (∀ W, Sl W v ms → Calls Try.prog 15 #[v, .agg #[.string s.node, .string s.idn, .string s.name, .string s.tag, .int .i64 s.addr, .int .i64 s.port, .bool s.passing, .int .i64 s.version, .bool s.gone]] W fun e w' => ∃ v', e = .returned (.tuple #[v', .int .i64 (regE ms p f s)]) ∧ Below W.heap.size W w' ∧ Hid ((regE ms p f s ≠ 0 → v' = .slice none 0 0) ∧ (regE ms p f s = 0 → Own W.heap.size w' v' (RL.put ms (reg ms p f s) p f)))) := fun W h => by
      refine (register_good ms v s W h hc hs p f hat).mono ?_
      rw [hj1, hj2]
      rintro e w' ⟨v', rfl, h1, h2, h3⟩
      exact ⟨v', rfl, h1, h2, h3⟩
    have HDG : Hid (∀ W, Sl W v ms → Calls Try.prog 16 #[v, .string s.node, .string s.idn] W fun e w' => ∃ v', e = .returned (.tuple #[v', .int .i64 (dropE ms p f s.node s.idn)]) ∧ Below W.heap.size W w' ∧ Hid ((dropE ms p f s.node s.idn ≠ 0 → v' = .slice none 0 0) ∧ (dropE ms p f s.node s.idn = 0 → Own W.heap.size w' v' (RL.put ms (drp ms p f) p f)))) := fun W h => drop_good ms v s.node s.idn W h hc hs.1 hs.2.1 p f hat
    have HRR : Hid (∀ W, Sl W v ms → Calls Try.prog 17 #[v, .agg #[.string s.node, .string s.idn, .string s.name, .string s.tag, .int .i64 s.addr, .int .i64 s.port, .bool s.passing, .int .i64 s.version, .bool s.gone]] W fun e w' => ∃ v', e = .returned (.tuple #[v', .int .i64 (regE ms p f s)]) ∧ Below W.heap.size W w' ∧ Hid (regE ms p f s = 0 → Sl w' v' (RL.put ms (reg ms p f s) p f))) := fun W h => refReg_any ms v s W h hc hs p f hat
    have HDR : Hid (∀ W, Sl W v ms → Calls Try.prog 18 #[v, .string s.node, .string s.idn] W fun e w' => ∃ v', e = .returned (.tuple #[v', .int .i64 (dropE ms p f s.node s.idn)]) ∧ Below W.heap.size W w' ∧ Hid (dropE ms p f s.node s.idn = 0 → Sl w' v' (RL.put ms (drp ms p f) p f))) := fun W h => refDrop_any ms v s.node s.idn W h hc hs.1 hs.2.1 p f hat
    have HPO : Hid (∀ m ∈ RL.put ms (reg ms p f s) p f, m.ok) := put_ok HOKS.out (reg_ok hs)
    have hdok : (drp ms p f).ok := by
      have h : (fnd ms p f).ok := by
        cases f
        · exact dm_ok
        · rw [fnd, if_pos rfl]; exact ns_get HOKS.out p
      exact h
    have HPD : Hid (∀ m ∈ RL.put ms (drp ms p f) p f, m.ok) := put_ok HOKS.out hdok
    have HPL : Hid ((RL.put ms (reg ms p f s) p f).length ≤ 1000) := by
      show (RL.put ms (reg ms p f s) p f).length ≤ 1000
      have h := hat.le
      unfold RL.put
      simp only [List.length_append, List.length_cons, List.length_take, List.length_drop]
      split <;> omega
    have HPM : Hid ((RL.put ms (drp ms p f) p f).length ≤ 1000) := by
      show (RL.put ms (drp ms p f) p f).length ≤ 1000
      have h := hat.le
      unfold RL.put
      simp only [List.length_append, List.length_cons, List.length_take, List.length_drop]
      split <;> omega
    clear hc hat hj1 hj2 hs hdok
    generalize regE ms p f s = re at *
    generalize dropE ms p f s.node s.idn = de at *
    generalize RL.put ms (reg ms p f s) p f = pr at *
    generalize RL.put ms (drp ms p f) p f = pd at *
    go_enter Try.func5, Try.ntmps5
    go_wp2_with fail
    refine (HRG.out _ HV.out).mono ?_
    rintro e w1 ⟨v1, rfl, hb1, hv1⟩
    have HV1 : Hid (Sl w1 v ms) := HV.out.below hb1
    have HS1 : Hid (re = 0 → Sl w1 v1 pr) := fun h => own_names (hv1.out.2 h) HPO.out
    have HN1 : Hid (re ≠ 0 → v1 = .slice none 0 0) := hv1.out.1
    have HB1 : Hid (Below w.heap.size w w1) := hb0.trans (hb1.mono (by simp))
    have hbc1 : ∀ o, w1.cell? ⟨w.heap.size, o, none⟩ = (w.alloc (.cells #[.string s.node, .string s.idn, .string s.name, .string s.tag, .int .i64 s.addr, .int .i64 s.port, .bool s.passing, .int .i64 s.version, .bool s.gone] 28)).cell? ⟨w.heap.size, o, none⟩ := fun o => (hb1.cell (p := ⟨w.heap.size, o, none⟩) (by simp))
    have hs1 : w.heap.size + 1 ≤ w1.heap.size := by have := hb1.size; simpa using this
    clear hb1 hv1 hb0
    go_wp2_with fail
    refine (HDG.out _ HV1.out).mono ?_
    rintro e w2 ⟨v2, rfl, hb2, hv2⟩
    have HV2 : Hid (Sl w2 v ms) := HV1.out.below hb2
    have HS2 : Hid (re = 0 → Sl w2 v1 pr) := fun h => (HS1.out h).below hb2
    have HT2 : Hid (de = 0 → Sl w2 v2 pd) := fun h => own_names (hv2.out.2 h) HPD.out
    have HN2 : Hid (de ≠ 0 → v2 = .slice none 0 0) := hv2.out.1
    have HB2 : Hid (Below w.heap.size w w2) := HB1.out.trans (hb2.mono HB1.out.size)
    have hbc2 : ∀ o, w2.cell? ⟨w.heap.size, o, none⟩ = (w.alloc (.cells #[.string s.node, .string s.idn, .string s.name, .string s.tag, .int .i64 s.addr, .int .i64 s.port, .bool s.passing, .int .i64 s.version, .bool s.gone] 28)).cell? ⟨w.heap.size, o, none⟩ := fun o => (hb2.cell (p := ⟨w.heap.size, o, none⟩) (by show w.heap.size < w1.heap.size; omega)).trans (hbc1 o)
    have hs2 : w.heap.size + 1 ≤ w2.heap.size := by have := hb2.size; omega
    clear hb2 hv2 HS1
    go_wp2_with fail
    refine (refCheck_any ms _ _ HV2.out).mono ?_
    rintro e w3 ⟨rfl, hb3⟩
    have HV3 : Hid (Sl w3 v ms) := HV2.out.below hb3
    have HS3 : Hid (re = 0 → Sl w3 v1 pr) := fun h => (HS2.out h).below hb3
    have HT3 : Hid (de = 0 → Sl w3 v2 pd) := fun h => (HT2.out h).below hb3
    have HB3 : Hid (Below w.heap.size w w3) := HB2.out.trans (hb3.mono HB2.out.size)
    have hbc3 : ∀ o, w3.cell? ⟨w.heap.size, o, none⟩ = (w.alloc (.cells #[.string s.node, .string s.idn, .string s.name, .string s.tag, .int .i64 s.addr, .int .i64 s.port, .bool s.passing, .int .i64 s.version, .bool s.gone] 28)).cell? ⟨w.heap.size, o, none⟩ := fun o => (hb3.cell (p := ⟨w.heap.size, o, none⟩) (by show w.heap.size < w2.heap.size; omega)).trans (hbc2 o)
    have hs3 : w.heap.size + 1 ≤ w3.heap.size := by have := hb3.size; omega
    clear hb3 HS2 HT2
    go_wp2_with fail
    refine (HRR.out _ HV3.out).mono ?_
    rintro e w4 ⟨v4, rfl, hb4, hv4⟩
    have HV4 : Hid (Sl w4 v ms) := HV3.out.below hb4
    have HS4 : Hid (re = 0 → Sl w4 v1 pr) := fun h => (HS3.out h).below hb4
    have HT4 : Hid (de = 0 → Sl w4 v2 pd) := fun h => (HT3.out h).below hb4
    have HB4 : Hid (Below w.heap.size w w4) := HB3.out.trans (hb4.mono HB3.out.size)
    have hbc4 : ∀ o, w4.cell? ⟨w.heap.size, o, none⟩ = (w.alloc (.cells #[.string s.node, .string s.idn, .string s.name, .string s.tag, .int .i64 s.addr, .int .i64 s.port, .bool s.passing, .int .i64 s.version, .bool s.gone] 28)).cell? ⟨w.heap.size, o, none⟩ := fun o => (hb4.cell (p := ⟨w.heap.size, o, none⟩) (by show w.heap.size < w3.heap.size; omega)).trans (hbc3 o)
    have hs4 : w.heap.size + 1 ≤ w4.heap.size := by have := hb4.size; omega
    clear hb4 HS3 HT3
    go_wp2_with fail
    refine (HDR.out _ HV4.out).mono ?_
    rintro e w5 ⟨v5, rfl, hb5, hv5⟩
    have HS5 : Hid (re = 0 → Sl w5 v1 pr) := fun h => (HS4.out h).below hb5
    have HT5 : Hid (de = 0 → Sl w5 v2 pd) := fun h => (HT4.out h).below hb5
    have HU5 : Hid (re = 0 → Sl w5 v4 pr) := fun h => (hv4.out h).below hb5
    have HB5 : Hid (Below w.heap.size w w5) := HB4.out.trans (hb5.mono HB4.out.size)
    clear hb5 HS4 HT4 hv4
    go_wp2_with fail
    refine (begun_any _).mono ?_
    rintro e w6 ⟨rfl, hb6⟩
    have HS6 : Hid (re = 0 → Sl w6 v1 pr) := fun h => (HS5.out h).below hb6
    have HT6 : Hid (de = 0 → Sl w6 v2 pd) := fun h => (HT5.out h).below hb6
    have HU6 : Hid (re = 0 → Sl w6 v4 pr) := fun h => (HU5.out h).below hb6
    have HX6 : Hid (de = 0 → Sl w6 v5 pd) := fun h => (hv5.out h).below hb6
    have HB6 : Hid (Below w.heap.size w w6) := HB5.out.trans (hb6.mono HB5.out.size)
    clear hb6 HS5 HT5 HU5 hv5
    have HAR : Hid (∀ W, (re = 0 → Sl W v1 pr) → (re = 0 → Sl W v4 pr) → Calls Try.prog 19 #[v1, .int .i64 re, .int .i64 re, v4] W fun e w' => e = .returned (.bool true) ∧ Below W.heap.size W w') := fun W h1 h2 => by
      by_cases h : re = 0
      · exact are_ok pr re re v1 v4 W h rfl (h1 h) (h2 h) HPL.out
      · rw [HN1.out h]; exact are_bad re re v4 W h rfl
    have HAD : Hid (∀ W, (de = 0 → Sl W v2 pd) → (de = 0 → Sl W v5 pd) → Calls Try.prog 19 #[v2, .int .i64 de, .int .i64 de, v5] W fun e w' => e = .returned (.bool true) ∧ Below W.heap.size W w') := fun W h1 h2 => by
      by_cases h : de = 0
      · exact are_ok pd de de v2 v5 W h rfl (h1 h) (h2 h) HPM.out
      · rw [HN2.out h]; exact are_bad de de v5 W h rfl
    go_wp2_with fail
    refine (HAR.out _ HS6.out HU6.out).mono ?_
    rintro e w7 ⟨rfl, hb7⟩
    have HT7 : Hid (de = 0 → Sl w7 v2 pd) := fun h => (HT6.out h).below hb7
    have HX7 : Hid (de = 0 → Sl w7 v5 pd) := fun h => (HX6.out h).below hb7
    have HB7 : Hid (Below w.heap.size w w7) := HB6.out.trans (hb7.mono HB6.out.size)
    clear hb7
    go_wp2_with fail
    refine (HAD.out _ HT7.out HX7.out).mono ?_
    rintro e w8 ⟨rfl, hb8⟩
    have HB8 : Hid (Below w.heap.size w w8) := HB7.out.trans (hb8.mono HB7.out.size)
    clear hb8
    go_wp2_with fail
    go_ret
    exact ⟨rfl, HB8.out⟩
  · have hec : (chk ms == 0) = false := by simpa using hc
    have HNE : Hid (chk ms ≠ 0) := hc
    clear hc hs
    go_enter Try.func5, Try.ntmps5
    go_wp2_with fail
    refine (register_bad ms _ s _ HV.out HNE.out).mono ?_
    rintro e w1 ⟨rfl, hb1⟩
    have HV1 : Hid (Sl w1 v ms) := HV.out.below hb1
    have HB1 : Hid (Below w.heap.size w w1) := hb0.trans (hb1.mono (by simp))
    have hbc1 : ∀ o, w1.cell? ⟨w.heap.size, o, none⟩ = (w.alloc (.cells #[.string s.node, .string s.idn, .string s.name, .string s.tag, .int .i64 s.addr, .int .i64 s.port, .bool s.passing, .int .i64 s.version, .bool s.gone] 28)).cell? ⟨w.heap.size, o, none⟩ := fun o => (hb1.cell (p := ⟨w.heap.size, o, none⟩) (by simp))
    have hs1 : w.heap.size + 1 ≤ w1.heap.size := by have := hb1.size; simpa using this
    clear hb1 hb0
    go_wp2_with fail
    refine (drop_bad ms _ _ _ _ HV1.out HNE.out).mono ?_
    rintro e w2 ⟨rfl, hb2⟩
    have HV2 : Hid (Sl w2 v ms) := HV1.out.below hb2
    have HB2 : Hid (Below w.heap.size w w2) := HB1.out.trans (hb2.mono HB1.out.size)
    clear hb2
    go_wp2_with fail
    refine (refCheck_any ms _ _ HV2.out).mono ?_
    rintro e w3 ⟨rfl, hb3⟩
    have HB3 : Hid (Below w.heap.size w w3) := HB2.out.trans (hb3.mono HB2.out.size)
    clear hb3
    go_wp2_with fail
    refine (begun_any _).mono ?_
    rintro e w6 ⟨rfl, hb6⟩
    have HB6 : Hid (Below w.heap.size w w6) := HB3.out.trans (hb6.mono HB3.out.size)
    clear hb6
    go_wp2_with fail
    refine (are_bad _ _ _ _ HNE.out rfl).mono ?_
    rintro e w7 ⟨rfl, hb7⟩
    have HB7 : Hid (Below w.heap.size w w7) := HB6.out.trans (hb7.mono HB6.out.size)
    clear hb7
    go_wp2_with fail
    refine (are_bad _ _ _ _ HNE.out rfl).mono ?_
    rintro e w8 ⟨rfl, hb8⟩
    have HB8 : Hid (Below w.heap.size w w8) := HB7.out.trans (hb8.mono HB7.out.size)
    clear hb8
    go_wp2_with fail
    go_ret
    exact ⟨rfl, HB8.out⟩

end Sv
end Go.Proofs.Ytjpcngkddejdjae
