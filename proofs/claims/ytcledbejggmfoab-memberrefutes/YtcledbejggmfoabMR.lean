/- The laws MemberHears and MemberJoins. -/
import Derived.Test.YtcledbejggmfoabMQ
namespace Go.Proofs.Ytcledbejggmfoab
open Go.RowKit

theorem chk_one (m : Mem) : chk [m] = m.e := by
  unfold chk
  simp only [List.length_cons, List.length_nil, firstE, risesB]
  by_cases h : m.e = 0 <;> simp [h]

theorem sl_nil (w : World) : Sl w (.slice none 0 0) [] := ⟨none, 0, rfl, fun j => by simp [dm], .inl rfl⟩

set_option maxHeartbeats 800000 in
theorem membersAre_bad (e1 e2 : Int) (v2 : Value) (w : World) (hne : e2 ≠ 0) (heq : e1 = e2) :
    Calls Try.prog 17 #[.slice none 0 0, .int .i64 e1, .int .i64 e2, v2] w fun e w' => e = .returned (.bool true) ∧ Below w.heap.size w w' := by
  have he : (e2 != 0) = true := by simpa using hne
  have he2 : (e1 == e2) = true := by simpa using heq
  clear hne heq
  go_enter Try.func17, Try.ntmps17
  go_wp2_with (go_at_call 26; refine (same_any [] [] _ _ _ (sl_nil _) (sl_nil _) (by simp)).mono ?_; rintro e w' ⟨r, rfl, h1, h2⟩)
  go_ret
  exact ⟨ret_bool (by simpa using h1), h2⟩

set_option maxHeartbeats 800000 in
theorem membersAre_ok (L : List Mem) (e1 e2 : Int) (v1 v2 : Value) (w : World) (hz : e2 = 0) (heq : e1 = e2) (h1 : Sl w v1 L) (h2 : Sl w v2 L) (hn : L.length ≤ 1000) :
    Calls Try.prog 17 #[v1, .int .i64 e1, .int .i64 e2, v2] w fun e w' => e = .returned (.bool true) ∧ Below w.heap.size w w' := by
  have H1 : Hid (Sl w v1 L) := h1
  have H2 : Hid (Sl w v2 L) := h2
  have he : (e2 != 0) = false := by simpa using hz
  have he2 : (e1 == e2) = true := by simpa using heq
  clear h1 h2 hz heq
  go_enter Try.func17, Try.ntmps17
  go_wp2_with (go_at_call 26; refine (same_any L L _ _ _ H1.out H2.out hn).mono ?_; rintro e w' ⟨r, rfl, h1, h2⟩)
  go_ret
  exact ⟨ret_bool (by simpa using h1), h2⟩

set_option maxHeartbeats 1000000 in
theorem joinMembers_any (a b : List Mem) (va vb : Value) (w : World) (ha : Sl w va a) (hb : Sl w vb b) (hla : a.length ≤ 100) (hlb : b.length ≤ 100) (hr : Rise a) :
    Calls Try.prog 19 #[va, vb] w fun e w' => ∃ v', e = .returned v' ∧ Hid (Sl w' v' (joinL a b)) ∧ Below w.heap.size w w' := by
  obtain ⟨pv, cb, rfl, nsb, hb⟩ := hb
  have HA : Hid (Sl w va a) := ha
  have HB : Hid (b = [] ∨ ∃ b_1 off, pv = some ⟨b_1, off, none⟩ ∧ b_1 < w.heap.size ∧ Row w b_1 off b) := hb
  have NB : Hid (∀ m ∈ b, m.name.size ≤ maxLen) := ns_mem nsb
  have RA : Hid (Rise a) := hr
  clear ha hb nsb hr
  generalize hnb : b.length = nb at *
  have HNB : Hid (b.length = nb) := hnb
  clear hnb
  go_enter Try.func19, Try.ntmps19
  go_wp2_with fail
  go_loopw [0, 5] (fun kn i w' => ∃ k : Nat, k ≤ nb ∧ i = .int .i64 k ∧ Below w.heap.size w w' ∧ Hid (Sl w' kn (joinL a (b.take k)))) (fun _ i _ => nb - (intOf i).toNat)
  case atStart => exact ⟨0, Nat.zero_le _, rfl, Below.refl _ _, HA⟩
  case round =>
    obtain ⟨k, hk, rfl, hbl, HO⟩ := hrel
    obtain ⟨hbc, hbf⟩ := bcell hbl
    have hsz := hbl.size
    by_cases hlt : k < nb
    · obtain ⟨b2, o2, hp2, hl2, hr2⟩ : ∃ b_1 off, pv = some ⟨b_1, off, none⟩ ∧ b_1 < w.heap.size ∧ Row w b_1 off b := by
        rcases HB.out with h | h
        · have := HNB.out; rw [h] at this; simp at this; omega
        · exact h
      subst hp2
      obtain ⟨c0, c1, c2, c3, c4⟩ := hr2 k (by rw [HNB.out]; exact hlt)
      clear hr2
      have HJ : Hid (joinL a (b.take (k + 1)) = hearL (joinL a (b.take k)) (b.getD k dm)) := joinL_take a b k (by rw [HNB.out]; exact hlt)
      have HR : Hid (Rise (joinL a (b.take k))) := joinL_rise _ _ RA.out
      have HL : Hid ((joinL a (b.take k)).length ≤ 1000) := by
        have h1 := joinL_len (b.take k) a
        have h2 : (b.take k).length ≤ k := List.length_take_le _ _
        show (joinL a (b.take k)).length ≤ 1000
        omega
      have HM : Hid ((b.getD k dm).name.size ≤ maxLen) := ns_get NB.out k
      generalize b.getD k dm = m at *
      generalize joinL a (b.take k) = known at *
      go_wp2_with (go_at_call 16; refine (hearMember_any known _ m _ HO.out HL.out HR.out HM.out).mono ?_; rintro e w2 ⟨v', r, rfl, g1, _, g2⟩)
      have hfin : ∃ k_1 : Nat, k_1 ≤ nb ∧ Value.int .i64 ((k : Int) + 1) = .int .i64 k_1 ∧ Below w.heap.size w w2 ∧ Hid (Sl w2 v' (joinL a (b.take k_1))) := ⟨k + 1, by omega, by go_num, hbl.trans (g2.mono hsz), by rw [HJ.out]; exact g1⟩
      exact ⟨hfin, by simp [intOf]; omega⟩
    · have HF : Hid (Sl wr u0 (joinL a b)) := by
        have h := HO.out
        rw [List.take_of_length_le (by rw [HNB.out]; omega)] at h
        exact h
      go_wp2_with fail
      go_ret
      exact ⟨u0, rfl, HF, hbl⟩

theorem joinE_bad1 {a b : List Mem} (h : chk a ≠ 0) : joinE a b = chk a := by
  have : chkTwo a b = chk a := if_neg h
  rw [joinE, this, if_neg h]
theorem joinE_bad2 {a b : List Mem} (h : chk a = 0) (h2 : chk b ≠ 0) : joinE a b = chk b := by
  have : chkTwo a b = chk b := if_pos h
  rw [joinE, this, if_neg h2]
theorem joinE_good {a b : List Mem} (h : chk a = 0) (h2 : chk b = 0) : joinE a b = if 20 < (joinL a b).length then 2 else 0 := by
  have : chkTwo a b = 0 := (if_pos h).trans h2
  rw [joinE, if_pos this]

set_option maxHeartbeats 1000000 in
set_option maxRecDepth 100000 in
theorem memberHears_walk (ms : List Mem) (v : Value) (m : Mem) (w : World) (hv : Sl w v ms) (hm : m.name.size ≤ maxLen) :
    Calls Try.prog 5 #[v, .agg #[.string m.name, .int .i64 m.state, .int .i64 m.life, .int .i64 m.addr, .bool m.server]] w fun e w' => e = .returned (.bool true) ∧ Below w.heap.size w w' := by
  have hb0 : Below w.heap.size w (w.alloc (.cells #[.string m.name, .int .i64 m.state, .int .i64 m.life, .int .i64 m.addr, .bool m.server] 28)) := (Below.refl _ _).alloc (Nat.le_refl _) _
  have HV : Hid (Sl (w.alloc (.cells #[.string m.name, .int .i64 m.state, .int .i64 m.life, .int .i64 m.addr, .bool m.server] 28)) v ms) := hv.below hb0
  clear hv
  go_enter Try.func5, Try.ntmps5
  go_wp2_with fail
  refine (hear_any ms m v _ HV.out hm).mono ?_
  rintro e w1 ⟨v1, r1, rfl, hb1, hbad, hgood⟩
  have HBAD : Hid (joinE ms [m] ≠ 0 → v1 = .slice none 0 0 ∧ r1 = false) := hbad
  have HGOOD : Hid (joinE ms [m] = 0 → Own (w.alloc (.cells #[.string m.name, .int .i64 m.state, .int .i64 m.life, .int .i64 m.addr, .bool m.server] 28)).heap.size w1 v1 (hearL ms m) ∧ (r1 = true ↔ hearL ms m ≠ ms)) := hgood
  clear hbad hgood
  have HV1 : Hid (Sl w1 v ms) := HV.out.below hb1
  have hbc : ∀ o, w1.cell? ⟨w.heap.size, o, none⟩ = (w.alloc (.cells #[.string m.name, .int .i64 m.state, .int .i64 m.life, .int .i64 m.addr, .bool m.server] 28)).cell? ⟨w.heap.size, o, none⟩ := fun o => hb1.cell (p := ⟨w.heap.size, o, none⟩) (by simp)
  have hs1 : w.heap.size + 1 ≤ w1.heap.size := by have := hb1.size; simpa using this
  have HB1 : Hid (Below w.heap.size w w1) := hb0.trans (hb1.mono (by simp))
  clear hb0 hb1
  by_cases hc : chk ms = 0
  · have hec : (chk ms == 0) = true := by simpa using hc
    have HC : Hid (chk ms = 0) := hc
    by_cases hme : m.e = 0
    · have heme : (oneE m.name m.state m.life m.addr == 0) = true := by have h : oneE m.name m.state m.life m.addr = 0 := hme; simpa using h
      have HME : Hid (chk [m] = 0) := (chk_one m).trans hme
      have H0 : Hid (oneE m.name m.state m.life m.addr = 0) := hme
      have HE : Hid (joinE ms [m] = if 20 < (joinL ms [m]).length then 2 else 0) := joinE_good hc HME.out
      have hz := chk_zero hc
      have HRI : Hid (Rise ms) := hz.2.1
      have hlen := hz.1
      clear hme hz hc
      go_wp2_with fail
      refine (checkMembers_any ms _ _ HV1.out).mono ?_
      rintro e w2 ⟨rfl, hb2⟩
      have HV2 : Hid (Sl w2 v ms) := HV1.out.below hb2
      have hbc2 : ∀ o, w2.cell? ⟨w.heap.size, o, none⟩ = w1.cell? ⟨w.heap.size, o, none⟩ := fun o => hb2.cell (p := ⟨w.heap.size, o, none⟩) (by show w.heap.size < w1.heap.size; omega)
      have hs2 : w1.heap.size ≤ w2.heap.size := hb2.size
      have HB2 : Hid (Below w1.heap.size w1 w2) := hb2
      clear hb2
      go_wp2_with fail
      refine (oneMember_any _ _ _ _ _ _ hm).mono ?_
      rintro e w2' ⟨rfl, rfl⟩
      have HV3 : Hid (Sl (w2.alloc (.cells #[.string m.name, .int .i64 m.state, .int .i64 m.life, .int .i64 m.addr, .bool m.server] 28)) v ms) := HV2.out.below ((Below.refl _ _).alloc (Nat.le_refl _) _)
      have hwl : w.heap.size < w2.heap.size := by omega
      go_wp2_with fail
      refine (hearMember_any ms v m _ HV3.out (by omega) HRI.out hm).mono ?_
      rintro e w3 ⟨v3, r3, rfl, hsl3, hr3, hb3⟩
      have HS3 : Hid (Sl w3 v3 (hearL ms m)) := hsl3
      have HR3 : Hid (r3 = true ↔ hearL ms m ≠ ms) := hr3
      have hb3' : Below w1.heap.size w1 w3 := (HB2.out.alloc hs2 _).trans (hb3.mono (by simp; omega))
      have HB3 : Hid (Below w1.heap.size w1 w3) := hb3'
      clear hsl3 hr3 hb3 hb3'
      obtain ⟨p3, c3, hv3⟩ : ∃ p c, v3 = .slice p (hearL ms m).length c := by
        obtain ⟨p, c, h, _⟩ := HS3.out
        exact ⟨p, c, h⟩
      subst hv3
      by_cases h20 : 20 < (hearL ms m).length
      · have hje : joinE ms [m] = 2 := HE.out.trans (if_pos h20)
        obtain ⟨rfl, rfl⟩ := HBAD.out (by rw [hje]; decide)
        rw [hje]
        clear hje
        go_wp2_with fail
        refine (begun_any _).mono ?_
        rintro e w4 ⟨rfl, hb4⟩
        have HB4 : Hid (Below w3.heap.size w3 w4) := hb4
        clear hb4
        go_wp2_with (go_at_call 17; refine (membersAre_bad _ _ _ _ (by decide) (by decide)).mono ?_; rintro e w5 ⟨rfl, hb5⟩)
        go_ret
        have h13 := HB3.out.trans (HB4.out.mono HB3.out.size)
        have h15 := h13.trans (hb5.mono h13.size)
        exact ⟨rfl, HB1.out.trans (h15.mono HB1.out.size)⟩
      · have hje : joinE ms [m] = 0 := HE.out.trans (if_neg h20)
        obtain ⟨ho, hr⟩ := HGOOD.out hje
        have HJE : Hid (joinE ms [m] = 0) := hje
        clear hje
        have HO : Hid (Own (w.alloc (.cells #[.string m.name, .int .i64 m.state, .int .i64 m.life, .int .i64 m.addr, .bool m.server] 28)).heap.size w1 v1 (hearL ms m)) := ho
        have hrr : r3 = r1 := by rw [Bool.eq_iff_iff, HR3.out, hr]
        subst hrr
        clear ho hr HBAD HGOOD HR3
        have NS : Hid (∀ x ∈ hearL ms m, x.name.size ≤ maxLen) := by obtain ⟨_, _, _, h, _⟩ := HV1.out; exact ns_hear (ns_mem h) hm
        go_wp2_with fail
        refine (begun_any _).mono ?_
        rintro e w4 ⟨rfl, hb4⟩
        have HB4 : Hid (Below w1.heap.size w1 w4) := HB3.out.trans (hb4.mono HB3.out.size)
        have HS4 : Hid (Sl w4 (.slice p3 (hearL ms m).length c3) (hearL ms m)) := HS3.out.below hb4
        have HS5 : Hid (Sl w4 v1 (hearL ms m)) := (own_names HO.out NS.out).below HB4.out
        clear hb4
        go_wp2_with (go_at_call 17; refine (membersAre_ok (hearL ms m) _ _ _ _ _ H0.out (HJE.out.trans H0.out.symm) HS5.out HS4.out (by have := hearL_len ms m; omega)).mono ?_; rintro e w5 ⟨rfl, hb5⟩)
        go_ret
        have h15 := HB4.out.trans (hb5.mono HB4.out.size)
        exact ⟨ret_bool (by simp), HB1.out.trans (h15.mono HB1.out.size)⟩
    · have heme : (oneE m.name m.state m.life m.addr == 0) = false := by have h : ¬ oneE m.name m.state m.life m.addr = 0 := hme; simpa using h
      have HNE : Hid (oneE m.name m.state m.life m.addr ≠ 0) := hme
      have HJE : Hid (joinE ms [m] = oneE m.name m.state m.life m.addr) := (joinE_bad2 hc (by rw [chk_one]; exact hme)).trans (chk_one m)
      obtain ⟨rfl, rfl⟩ := HBAD.out (by rw [HJE.out]; exact hme)
      clear hme hc HBAD HGOOD
      go_wp2_with fail
      refine (checkMembers_any ms _ _ HV1.out).mono ?_
      rintro e w2 ⟨rfl, hb2⟩
      have hbc2 : ∀ o, w2.cell? ⟨w.heap.size, o, none⟩ = w1.cell? ⟨w.heap.size, o, none⟩ := fun o => hb2.cell (p := ⟨w.heap.size, o, none⟩) (by show w.heap.size < w1.heap.size; omega)
      have hs2 : w1.heap.size ≤ w2.heap.size := hb2.size
      have HB2 : Hid (Below w1.heap.size w1 w2) := hb2
      clear hb2
      go_wp2_with fail
      refine (oneMember_any _ _ _ _ _ _ hm).mono ?_
      rintro e w2' ⟨rfl, rfl⟩
      go_wp2_with fail
      refine (begun_any _).mono ?_
      rintro e w4 ⟨rfl, hb4⟩
      have HB4 : Hid (Below w1.heap.size w1 w4) := (HB2.out.alloc hs2 _).trans (hb4.mono (by simp; omega))
      clear hb4
      go_wp2_with (go_at_call 17; refine (membersAre_bad _ _ _ _ HNE.out HJE.out).mono ?_; rintro e w5 ⟨rfl, hb5⟩)
      go_ret
      have h15 := HB4.out.trans (hb5.mono HB4.out.size)
      exact ⟨ret_bool (by simp), HB1.out.trans (h15.mono HB1.out.size)⟩
  · have hec : (chk ms == 0) = false := by simpa using hc
    have HNE : Hid (chk ms ≠ 0) := hc
    have HJE : Hid (joinE ms [m] = chk ms) := joinE_bad1 hc
    obtain ⟨rfl, rfl⟩ := HBAD.out (by rw [HJE.out]; exact hc)
    clear hc HBAD HGOOD
    go_wp2_with fail
    refine (checkMembers_any ms _ _ HV1.out).mono ?_
    rintro e w2 ⟨rfl, hb2⟩
    have HB2 : Hid (Below w1.heap.size w1 w2) := hb2
    clear hb2
    go_wp2_with fail
    refine (begun_any _).mono ?_
    rintro e w4 ⟨rfl, hb4⟩
    have HB4 : Hid (Below w1.heap.size w1 w4) := HB2.out.trans (hb4.mono HB2.out.size)
    clear hb4
    go_wp2_with (go_at_call 17; refine (membersAre_bad _ _ _ _ HNE.out HJE.out).mono ?_; rintro e w5 ⟨rfl, hb5⟩)
    go_ret
    have h15 := HB4.out.trans (hb5.mono HB4.out.size)
    exact ⟨ret_bool (by simp), HB1.out.trans (h15.mono HB1.out.size)⟩

end Go.Proofs.Ytcledbejggmfoab
