/- The document's own Refute; the law MemberRefutes. -/
import Derived.Test.YtcledbejggmfoabMU
namespace Go.Proofs.Ytcledbejggmfoab
open Go.RowKit

theorem liveAgain_newer (m : Mem) : newM (liveAgain m) m = true := by
  have h : ¬ (m.life + 1 = m.life) := by omega
  show newB 1 (m.life + 1) m.addr m.server m.state m.life m.addr m.server = true
  unfold newB
  rw [if_neg h]
  simp
  omega
theorem hearL_again {ms : List Mem} {t : ByteArray} {p : Nat} (h : At ms t p true) : hearL ms (liveAgain (ms.getD p dm)) = ms.set p (liveAgain (ms.getD p dm)) := by
  have hn : (ms.getD p dm).name = t := (cmpI_eq _ _).1 (h.is.1 rfl).2
  have h' : At ms (liveAgain (ms.getD p dm)).name p true := by
    have : (liveAgain (ms.getD p dm)).name = t := hn
    rw [this]; exact h
  rw [hearL_at ms _ p true h', if_pos rfl, if_pos (liveAgain_newer _)]

def RefuteOfSays (ms : List Mem) (p : Nat) (f : Bool) (w : World) (e : Ending) (w' : World) : Prop :=
  ∃ v' : Value, e = .returned (.tuple #[v', .bool (refR ms p f), .int .i64 (refE ms p f)]) ∧ Below w.heap.size w w' ∧ (refE ms p f = 0 → Sl w' v' (refL ms p f))

set_option maxHeartbeats 1000000 in
set_option maxRecDepth 100000 in
theorem refuteOf_none (ms : List Mem) (v : Value) (me : ByteArray) (w : World) (hv : Sl w v ms) (h0 : chk ms = 0) (p : Nat) (hat : At ms me p false) :
    Calls Try.prog 23 #[v, .string me] w fun e w' => RefuteOfSays ms p false w e w' := by
  have hz := chk_zero h0
  have HR : Hid (Rise ms) := hz.2.1
  have hlen := hz.1
  have HAT : Hid (At ms me p false) := hat
  have HV : Hid (Sl w v ms) := hv
  clear hv hz hat h0
  go_enter Try.func23, Try.ntmps23
  go_wp2_with fail
  refine (memberAt_any ms _ _ _ HV.out (by omega)).mono ?_
  rintro e w1 ⟨r, rfl, hI, rfl⟩
  have hrp : r = (-1 : Int) := (atI_at hI.out HAT.out HR.out).2 rfl
  subst hrp
  go_wp2_with fail
  go_ret3
  exact ⟨v, rfl, Below.refl _ _, fun _ => HV.out⟩

set_option maxHeartbeats 1600000 in
set_option maxRecDepth 100000 in
theorem refuteOf_some (ms : List Mem) (v : Value) (me : ByteArray) (w : World) (hv : Sl w v ms) (h0 : chk ms = 0) (p : Nat) (hat : At ms me p true) :
    Calls Try.prog 23 #[v, .string me] w fun e w' => RefuteOfSays ms p true w e w' := by
  have hz := chk_zero h0
  have HR : Hid (Rise ms) := hz.2.1
  have hlen := hz.1
  have HAT : Hid (At ms me p true) := hat
  have HV : Hid (Sl w v ms) := hv
  have hp := (hat.is.1 rfl).1
  have hbd := oneE_zero (firstE_at0 hz.2.2 p hp)
  have HAG : Hid (hearL ms (liveAgain (ms.getD p dm)) = ms.set p (liveAgain (ms.getD p dm))) := hearL_again hat
  have HNS : Hid ((ms.getD p dm).name.size ≤ maxLen) := by obtain ⟨_, _, _, h, _⟩ := hv; exact h p
  obtain ⟨pa, ca, rfl, _, ha⟩ := hv
  obtain ⟨b1, o1, hp1, hl1, hr1⟩ : ∃ b off, pa = some ⟨b, off, none⟩ ∧ b < w.heap.size ∧ Row w b off ms := by
    rcases ha with h | h
    · rw [h] at hp; simp at hp
    · exact h
  subst hp1
  obtain ⟨c0, c1, c2, c3, c4⟩ := hr1 p hp
  clear hr1 ha hz hat h0
  have HREF : Hid (refL ms p true = if refR ms p true = true then ms.set p (liveAgain (ms.getD p dm)) else ms) := rfl
  generalize hm : ms.getD p dm = mk at *
  have Hm : Hid (ms.getD p dm = mk) := hm
  clear hm
  obtain ⟨nk, sk, lk, ak, vk⟩ := mk
  simp only at c0 c1 c2 c3 c4 hbd
  obtain ⟨_, ⟨hs1, hs4⟩, ⟨hl1', hl2'⟩, _⟩ := hbd
  go_enter Try.func23, Try.ntmps23
  go_wp2_with fail
  refine (memberAt_any ms _ _ _ HV.out (by omega)).mono ?_
  rintro e w1 ⟨r, rfl, hI, rfl⟩
  have hrp : r = (p : Int) := (atI_at hI.out HAT.out HR.out).1 rfl
  subst hrp
  by_cases hs : sk = 1 ∨ sk = 4
  · have e1 : refR ms p true = false := by unfold refR; rw [Hm.out]; rcases hs with h | h <;> simp [h]
    have e2 : refE ms p true = 0 := by unfold refE; rw [Hm.out]; rcases hs with h | h <;> simp [h]
    have E1 : Hid (refR ms p true = false) := e1
    have E2 : Hid (refE ms p true = 0) := e2
    clear e1 e2
    rcases hs with h | h
    · subst h
      go_wp2_with fail
      go_ret3
      refine ⟨_, by rw [E1.out, E2.out]; rfl, Below.refl _ _, fun _ => ?_⟩
      rw [HREF.out, if_neg (by rw [E1.out]; exact Bool.false_ne_true)]
      exact HV.out
    · subst h
      go_wp2_with fail
      go_ret3
      refine ⟨_, by rw [E1.out, E2.out]; rfl, Below.refl _ _, fun _ => ?_⟩
      rw [HREF.out, if_neg (by rw [E1.out]; exact Bool.false_ne_true)]
      exact HV.out
  · have hd : (decide (sk = 2) || decide (sk = 3)) = true := by
      have : sk = 2 ∨ sk = 3 := by omega
      simpa using this
    have f1 : (sk == 1) = false := by simp; omega
    have f4 : (sk == 4) = false := by simp; omega
    rcases hl2 : ((lk : Int) == 1000000) with _ | _
    · have E1 : Hid (refR ms p true = true) := (show refR ms p true = true by unfold refR; rw [Hm.out]; simp only [hd, hl2]; rfl)
      have E2 : Hid (refE ms p true = 0) := (show refE ms p true = 0 by unfold refE; rw [Hm.out]; simp only [hd, hl2]; rfl)
      have HV1 : Hid (Sl (w1.alloc (.cells #[.string nk, .int .i64 1, .int .i64 (lk + 1), .int .i64 ak, .bool vk] 28)) (.slice (some ⟨b1, o1, none⟩) ms.length ca) ms) := HV.out.below ((Below.refl _ _).alloc (Nat.le_refl _) _)
      clear hs hd
      go_wp2_with fail
      refine (hearMember_any ms _ ⟨nk, 1, lk + 1, ak, vk⟩ _ HV1.out (by omega) HR.out HNS.out).mono ?_
      rintro e w2 ⟨v2, r2, rfl, g1, _, g2⟩
      have G1 : Hid (Sl w2 v2 (hearL ms ⟨nk, 1, lk + 1, ak, vk⟩)) := g1
      clear g1
      go_wp2_with fail
      go_ret3
      refine ⟨v2, by rw [E1.out, E2.out]; rfl, ((Below.refl _ _).alloc (Nat.le_refl _) _).trans (g2.mono (by simp)), fun _ => ?_⟩
      rw [HREF.out, if_pos E1.out, ← HAG.out]
      exact G1.out
    · have E1 : Hid (refR ms p true = false) := (show refR ms p true = false by unfold refR; rw [Hm.out]; simp only [hd, hl2]; rfl)
      have E2 : Hid (refE ms p true = 3) := (show refE ms p true = 3 by unfold refE; rw [Hm.out]; simp only [hd, hl2]; rfl)
      clear hs hd
      go_wp2_with fail
      go_ret3
      exact ⟨_, by rw [E1.out, E2.out]; rfl, (Below.refl _ _).alloc (Nat.le_refl _) _, fun h => by rw [E2.out] at h; cases h⟩

theorem refuteOf_any (ms : List Mem) (v : Value) (me : ByteArray) (w : World) (hv : Sl w v ms) (h0 : chk ms = 0) (p : Nat) (f : Bool) (hat : At ms me p f) :
    Calls Try.prog 23 #[v, .string me] w fun e w' => RefuteOfSays ms p f w e w' := by
  cases f
  · exact refuteOf_none ms v me w hv h0 p hat
  · exact refuteOf_some ms v me w hv h0 p hat

theorem refL_len (ms : List Mem) (p : Nat) (f : Bool) : (refL ms p f).length = ms.length := by unfold refL; split <;> simp
theorem refL_names (ms : List Mem) (p : Nat) (f : Bool) (h : ∀ x ∈ ms, x.name.size ≤ maxLen) : ∀ x ∈ refL ms p f, x.name.size ≤ maxLen := by
  intro x hx
  unfold refL at hx
  split at hx
  · rcases List.mem_or_eq_of_mem_set hx with hx | rfl
    · exact h x hx
    · exact ns_get h p
  · exact h x hx

set_option maxHeartbeats 1000000 in
set_option maxRecDepth 100000 in
theorem memberRefutes_bad (ms : List Mem) (v : Value) (me : ByteArray) (w : World) (hv : Sl w v ms) (hne : chk ms ≠ 0) :
    Calls Try.prog 7 #[v, .string me] w fun e w' => e = .returned (.bool true) ∧ Below w.heap.size w w' := by
  have hec : (chk ms == 0) = false := by simpa using hne
  have HNE : Hid (chk ms ≠ 0) := hne
  have HV : Hid (Sl w v ms) := hv
  clear hne hv
  go_enter Try.func7, Try.ntmps7
  go_wp2_with fail
  refine (refute_bad ms _ _ _ HV.out HNE.out).mono ?_
  rintro e w1 ⟨rfl, hb1⟩
  have HV1 : Hid (Sl w1 v ms) := HV.out.below hb1
  go_wp2_with fail
  refine (live_bad ms _ _ HV1.out HNE.out).mono ?_
  rintro e w2 ⟨rfl, hb2⟩
  have HV2 : Hid (Sl w2 v ms) := HV1.out.below hb2
  have HB2 : Hid (Below w.heap.size w w2) := hb1.trans (hb2.mono hb1.size)
  clear hb1 hb2
  go_wp2_with fail
  refine (checkMembers_any ms _ _ HV2.out).mono ?_
  rintro e w3 ⟨rfl, hb3⟩
  have HB3 : Hid (Below w.heap.size w w3) := HB2.out.trans (hb3.mono HB2.out.size)
  clear hb3
  go_wp2_with fail
  refine (begun_any _).mono ?_
  rintro e w4 ⟨rfl, hb4⟩
  have HB4 : Hid (Below w.heap.size w w4) := HB3.out.trans (hb4.mono HB3.out.size)
  clear hb4
  go_wp2_with fail
  refine (membersAre_bad _ _ _ _ HNE.out rfl).mono ?_
  rintro e w5 ⟨rfl, hb5⟩
  have HB5 : Hid (Below w.heap.size w w5) := HB4.out.trans (hb5.mono HB4.out.size)
  clear hb5
  go_wp2_with fail
  refine (sameTexts_any [] _ _ 0 0 _ (ownS_nil _ _) (ownS_nil _ _) (by simp)).mono ?_
  rintro e w6 ⟨rfl, hb6⟩
  go_wp2_with fail
  go_ret
  exact ⟨ret_bool (by simp), HB5.out.trans (hb6.mono HB5.out.size)⟩

set_option maxHeartbeats 1000000 in
set_option maxRecDepth 100000 in
theorem memberRefutes_form (ms : List Mem) (v : Value) (me : ByteArray) (w : World) (hv : Sl w v ms) (h0 : chk ms = 0) (hs : me.size ≤ maxLen) (hl : labB me = false) :
    Calls Try.prog 7 #[v, .string me] w fun e w' => e = .returned (.bool true) ∧ Below w.heap.size w w' := by
  have hec : (chk ms == 0) = true := by simpa using h0
  have H0 : Hid (chk ms = 0) := h0
  have h00 : ((0 : Int) == chk ms) = true := by simpa using h0.symm
  have HV : Hid (Sl w v ms) := hv
  have hz := chk_zero h0
  have hlen := hz.1
  have HST : Hid (∀ j, j < ms.length → 1 ≤ (ms.getD j dm).state) := fun j hj => (oneE_zero (firstE_at0 hz.2.2 j hj)).2.1.1
  clear h0 hv hz
  go_enter Try.func7, Try.ntmps7
  go_wp2_with fail
  refine (refute_form ms _ _ _ HV.out H0.out hs hl).mono ?_
  rintro e w1 ⟨rfl, hb1⟩
  have HV1 : Hid (Sl w1 v ms) := HV.out.below hb1
  have HB1 : Hid (Below w.heap.size w w1) := hb1
  clear hb1
  go_wp2_with fail
  refine (live_good ms _ _ HV1.out H0.out).mono ?_
  rintro e w2 ⟨vn, rfl, HN2, hb2⟩
  have HV2 : Hid (Sl w2 v ms) := HV1.out.below hb2
  have HB2 : Hid (Below w.heap.size w w2) := HB1.out.trans (hb2.mono HB1.out.size)
  clear hb2
  go_wp2_with fail
  refine (checkMembers_any ms _ _ HV2.out).mono ?_
  rintro e w3 ⟨rfl, hb3⟩
  have HV3 : Hid (Sl w3 v ms) := HV2.out.below hb3
  have HN3 : Hid (OwnS w1.heap.size w3 vn (liveL ms)) := HN2.out.below hb3
  have HB3 : Hid (Below w.heap.size w w3) := HB2.out.trans (hb3.mono HB2.out.size)
  clear hb3
  go_wp2_with fail
  refine (isLabel_any _ _ hs).mono ?_
  rintro e w3' ⟨rfl, rfl⟩
  rw [hl]
  go_wp2_with fail
  refine (liveOf_any ms _ _ HV3.out (by omega) HST.out).mono ?_
  rintro e w4 ⟨vl, rfl, HL4, hb4⟩
  have HN4 : Hid (OwnS w1.heap.size w4 vn (liveL ms)) := HN3.out.below hb4
  have HB4 : Hid (Below w.heap.size w w4) := HB3.out.trans (hb4.mono HB3.out.size)
  clear hb4
  go_wp2_with fail
  refine (begun_any _).mono ?_
  rintro e w5 ⟨rfl, hb5⟩
  have HN5 : Hid (OwnS w1.heap.size w5 vn (liveL ms)) := HN4.out.below hb5
  have HL5 := (show Hid (OwnS _ w5 vl (liveL ms)) from HL4.out.below hb5)
  have HB5 : Hid (Below w.heap.size w w5) := HB4.out.trans (hb5.mono HB4.out.size)
  clear hb5
  go_wp2_with fail
  refine (membersAre_bad 1 1 _ _ (by decide) rfl).mono ?_
  rintro e w6 ⟨rfl, hb6⟩
  have HN6 : Hid (OwnS w1.heap.size w6 vn (liveL ms)) := HN5.out.below hb6
  have HL6 := (show Hid (OwnS _ w6 vl (liveL ms)) from HL5.out.below hb6)
  have HB6 : Hid (Below w.heap.size w w6) := HB5.out.trans (hb6.mono HB5.out.size)
  clear hb6
  have hll := liveL_len ms ms.length
  rw [List.take_length] at hll
  go_wp2_with fail
  refine (sameTexts_any (liveL ms) _ _ _ _ _ HN6.out HL6.out (by omega)).mono ?_
  rintro e w7 ⟨rfl, hb7⟩
  go_wp2_with fail
  go_ret
  exact ⟨ret_bool (by simp), HB6.out.trans (hb7.mono HB6.out.size)⟩

set_option maxHeartbeats 1600000 in
set_option maxRecDepth 100000 in
theorem memberRefutes_good (ms : List Mem) (v : Value) (me : ByteArray) (w : World) (hv : Sl w v ms) (h0 : chk ms = 0) (hs : me.size ≤ maxLen) (hl : labB me = true) :
    Calls Try.prog 7 #[v, .string me] w fun e w' => e = .returned (.bool true) ∧ Below w.heap.size w w' := by
  have hec : (chk ms == 0) = true := by simpa using h0
  have H0 : Hid (chk ms = 0) := h0
  have h00 : ((0 : Int) == chk ms) = true := by simpa using h0.symm
  have HV : Hid (Sl w v ms) := hv
  have hz := chk_zero h0
  have hlen := hz.1
  obtain ⟨p, f, hat⟩ := at_any ms hz.2.1 me
  have HAT : Hid (At ms me p f) := hat
  have HST : Hid (∀ j, j < ms.length → 1 ≤ (ms.getD j dm).state) := fun j hj => (oneE_zero (firstE_at0 hz.2.2 j hj)).2.1.1
  have NS : Hid (∀ x ∈ refL ms p f, x.name.size ≤ maxLen) := by obtain ⟨_, _, _, h, _⟩ := hv; exact refL_names ms p f (ns_mem h)
  have hrl := refL_len ms p f
  clear h0 hv hz hat
  go_enter Try.func7, Try.ntmps7
  go_wp2_with fail
  refine (refute_good ms _ _ _ HV.out H0.out hs hl p f HAT.out).mono ?_
  rintro e w1 ⟨v1, rfl, hb1, hbad, hgood⟩
  have HBAD : Hid (refE ms p f ≠ 0 → v1 = .slice none 0 0) := hbad
  have HGOOD : Hid (refE ms p f = 0 → Own w.heap.size w1 v1 (refL ms p f)) := hgood
  clear hbad hgood
  have HV1 : Hid (Sl w1 v ms) := HV.out.below hb1
  have HB1 : Hid (Below w.heap.size w w1) := hb1
  clear hb1
  go_wp2_with fail
  refine (live_good ms _ _ HV1.out H0.out).mono ?_
  rintro e w2 ⟨vn, rfl, HN2, hb2⟩
  have HV2 : Hid (Sl w2 v ms) := HV1.out.below hb2
  have HB2 : Hid (Below w1.heap.size w1 w2) := hb2
  clear hb2
  go_wp2_with fail
  refine (checkMembers_any ms _ _ HV2.out).mono ?_
  rintro e w3 ⟨rfl, hb3⟩
  have HV3 : Hid (Sl w3 v ms) := HV2.out.below hb3
  have HN3 : Hid (OwnS w1.heap.size w3 vn (liveL ms)) := HN2.out.below hb3
  have HB3 : Hid (Below w1.heap.size w1 w3) := HB2.out.trans (hb3.mono HB2.out.size)
  clear hb3
  go_wp2_with fail
  refine (isLabel_any _ _ hs).mono ?_
  rintro e w3' ⟨rfl, rfl⟩
  rw [hl]
  go_wp2_with fail
  refine (refuteOf_any ms _ _ _ HV3.out H0.out p f HAT.out).mono ?_
  rintro e w4 ⟨v4, rfl, hb4, hsl4⟩
  have HS4 : Hid (refE ms p f = 0 → Sl w4 v4 (refL ms p f)) := hsl4
  have HV4 : Hid (Sl w4 v ms) := HV3.out.below hb4
  have HN4 : Hid (OwnS w1.heap.size w4 vn (liveL ms)) := HN3.out.below hb4
  have HB4 : Hid (Below w1.heap.size w1 w4) := HB3.out.trans (hb4.mono HB3.out.size)
  clear hb4 hsl4
  go_wp2_with fail
  refine (liveOf_any ms _ _ HV4.out (by omega) HST.out).mono ?_
  rintro e w5 ⟨vl, rfl, HL5, hb5⟩
  have HS5 : Hid (refE ms p f = 0 → Sl w5 v4 (refL ms p f)) := fun h => (HS4.out h).below hb5
  have HN5 : Hid (OwnS w1.heap.size w5 vn (liveL ms)) := HN4.out.below hb5
  have HB5 : Hid (Below w1.heap.size w1 w5) := HB4.out.trans (hb5.mono HB4.out.size)
  clear hb5
  go_wp2_with fail
  refine (begun_any _).mono ?_
  rintro e w6 ⟨rfl, hb6⟩
  have HS6 : Hid (refE ms p f = 0 → Sl w6 v4 (refL ms p f)) := fun h => (HS5.out h).below hb6
  have HN6 : Hid (OwnS w1.heap.size w6 vn (liveL ms)) := HN5.out.below hb6
  have HL6 := (show Hid (OwnS _ w6 vl (liveL ms)) from HL5.out.below hb6)
  have HB6 : Hid (Below w1.heap.size w1 w6) := HB5.out.trans (hb6.mono HB5.out.size)
  clear hb6
  have hll := liveL_len ms ms.length
  rw [List.take_length] at hll
  go_wp2_with fail
  have hmem : Calls Try.prog 17 #[v1, .int .i64 (refE ms p f), .int .i64 (refE ms p f), v4] w6 fun e w' => e = .returned (.bool true) ∧ Below w6.heap.size w6 w' := by
    by_cases hE : refE ms p f = 0
    · exact membersAre_ok (refL ms p f) _ _ _ _ _ hE rfl ((own_names (HGOOD.out hE) NS.out).below HB6.out) (HS6.out hE) (by omega)
    · rw [HBAD.out hE]
      exact membersAre_bad _ _ _ _ hE rfl
  refine hmem.mono ?_
  clear hmem
  rintro e w7 ⟨rfl, hb7⟩
  have HN7 : Hid (OwnS w1.heap.size w7 vn (liveL ms)) := HN6.out.below hb7
  have HL7 := (show Hid (OwnS _ w7 vl (liveL ms)) from HL6.out.below hb7)
  have HB7 : Hid (Below w1.heap.size w1 w7) := HB6.out.trans (hb7.mono HB6.out.size)
  clear hb7
  go_wp2_with fail
  refine (sameTexts_any (liveL ms) _ _ _ _ _ HN7.out HL7.out (by omega)).mono ?_
  rintro e w8 ⟨rfl, hb8⟩
  go_wp2_with fail
  go_ret
  have h8 := HB7.out.trans (hb8.mono HB7.out.size)
  exact ⟨ret_bool (by simp), HB1.out.trans (h8.mono HB1.out.size)⟩

theorem memberRefutes_walk (ms : List Mem) (v : Value) (me : ByteArray) (w : World) (hv : Sl w v ms) (hs : me.size ≤ maxLen) :
    Calls Try.prog 7 #[v, .string me] w fun e w' => e = .returned (.bool true) ∧ Below w.heap.size w w' := by
  by_cases h0 : chk ms = 0
  · cases hl : labB me
    · exact memberRefutes_form ms v me w hv h0 hs hl
    · exact memberRefutes_good ms v me w hv h0 hs hl
  · exact memberRefutes_bad ms v me w hv h0

end Go.Proofs.Ytcledbejggmfoab
