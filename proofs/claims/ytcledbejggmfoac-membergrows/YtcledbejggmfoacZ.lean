
/- The law MemberGrows. -/
import Derived.Test.YtcledbejggmfoacMX
import Derived.Test.YtcledbejggmfoacMV
import Derived.Lib.QuietBelow
namespace Go.Proofs.Ytcledbejggmfoac
open Go.RowKit

theorem getD_mem {ms : List Mem} {k : Nat} (hk : k < ms.length) : ms.getD k dm ∈ ms := by
  rw [show ms.getD k dm = ms[k] by simp [List.getD, List.getElem?_eq_getElem hk]]
  exact List.getElem_mem hk
theorem getM_of_mem : ∀ {ms : List Mem} {x : Mem}, Rise ms → x ∈ ms → getM ms x.name = some x
  | [], _, _, h => by simp at h
  | y :: r, x, hr, h => by
    rcases List.mem_cons.1 h with rfl | h
    · exact getM_cons_eq x r rfl
    · have hne : y.name ≠ x.name := fun e => rise_head hr x h e.symm
      rw [getM_cons_ne y r hne]
      exact getM_of_mem (List.Pairwise.of_cons hr) h

/-- What is known never gets older: of one that was known. -/
theorem grown_at {l : List Mem} {m : Mem} (hl : Rise l) {i k : Nat} (hi : i < l.length) (hk : k < (hearL l m).length) (hn : ((hearL l m).getD k dm).name = (l.getD i dm).name) :
    (hearL l m).getD k dm = l.getD i dm ∨ newM ((hearL l m).getD k dm) (l.getD i dm) = true := by
  have h1 := getM_of_mem (hearL_rise l m hl) (getD_mem hk)
  have h2 := getM_of_mem hl (getD_mem hi)
  rw [hn, getM_hear l m hl, h2] at h1
  split at h1
  · simp only [comb, Option.some.injEq] at h1
    rw [← h1]
    unfold mx
    split
    · rename_i h; exact .inr h
    · exact .inl rfl
  · exact .inl (Option.some.inj h1).symm
theorem grown_name {l : List Mem} {m : Mem} (hl : Rise l) {i : Nat} (hi : i < l.length) : ∃ k, k < (hearL l m).length ∧ ((hearL l m).getD k dm).name = (l.getD i dm).name := by
  have h2 := getM_of_mem hl (getD_mem hi)
  have h1 := getM_hear l m hl (l.getD i dm).name
  rw [h2] at h1
  obtain ⟨x, hx, hn⟩ : ∃ x, x ∈ hearL l m ∧ x.name = (l.getD i dm).name := by
    split at h1
    · exact ⟨_, List.mem_of_find?_eq_some h1, getM_name h1⟩
    · exact ⟨_, List.mem_of_find?_eq_some h1, getM_name h1⟩
  obtain ⟨k, hk, rfl⟩ := List.getElem_of_mem hx
  exact ⟨k, hk, by rw [← hn]; simp [List.getD, List.getElem?_eq_getElem hk]⟩
theorem atI_name {l : List Mem} {m : Mem} (hl : Rise l) {i : Nat} (hi : i < l.length) {r : Int} (h : AtI (hearL l m) (l.getD i dm).name r) : ∃ k : Nat, k < (hearL l m).length ∧ r = k ∧ ((hearL l m).getD k dm).name = (l.getD i dm).name := by
  rcases h with h | ⟨_, hno⟩
  · exact h
  · obtain ⟨k, hk, hn⟩ := grown_name (m := m) hl hi
    exact absurd hn (hno k hk)

theorem at_set {ms : List Mem} {t : ByteArray} {p : Nat} {f : Bool} {x : Mem} (h : At ms t p f) (hx : x.name = (ms.getD p dm).name) : At (ms.set p x) t p f := by
  have hn : ∀ j, ((ms.set p x).getD j dm).name = (ms.getD j dm).name := fun j => by
    by_cases hj : j = p
    · subst hj
      by_cases hl : j < ms.length
      · simp only [List.getD, List.getElem?_set_self hl, Option.getD_some]; exact hx
      · rw [List.set_eq_of_length_le (by omega)]
    · simp [List.getD, List.getElem?_set_ne (Ne.symm hj)]
  refine ⟨by rw [List.length_set]; exact h.le, fun j hj => ?_, fun j hj hl => ?_, ?_⟩
  · rw [hn]; exact h.lo j hj
  · rw [hn]; exact h.hi j hj (by simpa using hl)
  · rw [hn, List.length_set]; exact h.is

set_option maxHeartbeats 16000000 in
set_option maxRecDepth 100000 in
theorem memberGrows_walk (l : List Mem) (v : Value) (m : Mem) (me : ByteArray) (w : World) (hv : Sl w v l) (hm : m.name.size ≤ maxLen) (hs : me.size ≤ maxLen) :
    Calls Try.prog 3 #[v, .agg #[.string m.name, .int .i64 m.state, .int .i64 m.life, .int .i64 m.addr, .bool m.server], .string me] w fun e w' => e = .returned (.bool true) ∧ Below w.heap.size w w' := by
  have hb0 : Below w.heap.size w (w.alloc (.cells #[.string m.name, .int .i64 m.state, .int .i64 m.life, .int .i64 m.addr, .bool m.server] 24)) := (Below.refl _ _).alloc (Nat.le_refl _) _
  have HV : Hid (Sl (w.alloc (.cells #[.string m.name, .int .i64 m.state, .int .i64 m.life, .int .i64 m.addr, .bool m.server] 24)) v l) := hv.below hb0
  have NS : Hid (∀ x ∈ l, x.name.size ≤ maxLen) := by obtain ⟨_, _, _, h, _⟩ := hv; exact ns_mem h
  obtain ⟨pa, ca, rfl, _, _⟩ := hv
  have hg24 : Try.prog.eqGuardType Try.prog.depth 24 = false := by kernel_rfl
  go_enter Try.func3, Try.ntmps3
  go_wp2_with fail
  refine (begun_any _).mono ?_
  rintro e x0 ⟨rfl, hb⟩
  have hbc : ∀ o, x0.cell? ⟨w.heap.size, o, none⟩ = (w.alloc (.cells #[.string m.name, .int .i64 m.state, .int .i64 m.life, .int .i64 m.addr, .bool m.server] 24)).cell? ⟨w.heap.size, o, none⟩ := fun o => hb.cell (p := ⟨w.heap.size, o, none⟩) (by simp)
  have HV0 : Hid (Sl x0 (.slice pa l.length ca) l) := HV.out.below hb
  have HB0 : Hid (Below w.heap.size w x0) := hb0.trans (hb.mono (by simp))
  clear hb hb0 HV
  go_wp2_with fail
  refine (hear_any l m _ _ HV0.out hm).mono ?_
  rintro e w1 ⟨v1, r1, rfl, hb1, hbad, hgood⟩
  clear hbc
  have HB1 : Hid (Below w.heap.size w w1) := HB0.out.trans (hb1.mono HB0.out.size)
  have HV1 : Hid (Sl w1 (.slice pa l.length ca) l) := HV0.out.below hb1
  by_cases he : joinE l [m] = 0
  · have hen : (joinE l [m] != 0) = false := by simpa using he
    obtain ⟨ho, hr⟩ := hgood he
    have HO : Hid (Own x0.heap.size w1 v1 (hearL l m)) := ho
    have HR : Hid (r1 = true ↔ hearL l m ≠ l) := hr
    have HCX : Hid (chk (hearL l m) = 0) := joinE_right he
    have hcx : (chk (hearL l m) != 0) = false := by simpa using HCX.out
    obtain ⟨hcl, _, hlx⟩ := joinE_zero he
    have HRL : Hid (Rise l) := (chk_zero hcl).2.1
    have hll := (chk_zero hcl).1
    have hlx' : (hearL l m).length ≤ 20 := hlx
    have HRX : Hid (Rise (hearL l m)) := (chk_zero HCX.out).2.1
    have NX : Hid (∀ x ∈ hearL l m, x.name.size ≤ maxLen) := ns_hear NS.out hm
    have hpos : 0 < (hearL l m).length := by
      cases l with
      | nil => simp [hearL]
      | cons x r => have := (hearL_len (x :: r) m).1; simp at this; omega
    obtain ⟨g, c, hv1⟩ : ∃ g c, v1 = .slice (some ⟨g, 0, none⟩) (hearL l m).length c := by
      rcases HO.out.2 with ⟨_, h0⟩ | ⟨g, c, cur, h, _⟩
      · omega
      · exact ⟨g, c, h⟩
    subst hv1
    have HSX1 : Hid (Sl w1 (.slice (some ⟨g, 0, none⟩) (hearL l m).length c) (hearL l m)) := own_names HO.out NX.out
    clear ho hr hbad hgood he hb1 HV0 hcl hlx
    have HAL : Hid (∀ i, i < l.length → ∀ r, AtI (hearL l m) (l.getD i dm).name r → ∃ k : Nat, k < (hearL l m).length ∧ r = k ∧ ((hearL l m).getD k dm = l.getD i dm ∨ newM ((hearL l m).getD k dm) (l.getD i dm) = true)) := fun i hi r hr => by
      obtain ⟨k, hk, hrk, hn⟩ := atI_name HRL.out hi hr
      exact ⟨k, hk, hrk, grown_at HRL.out hi hk hn⟩
    generalize hX : hearL l m = X at *
    have HX : Hid (hearL l m = X) := hX
    clear hX
    generalize hN : l.length = n at *
    have HN : Hid (l.length = n) := hN
    clear hN
    generalize hNX : X.length = nx at *
    have HNX : Hid (X.length = nx) := hNX
    clear hNX
    go_wp2_with fail
    refine (check_any X _ _ HSX1.out).mono ?_
    rintro e w2 ⟨rfl, hb2⟩
    have HSX2 : Hid (Sl w2 (.slice (some ⟨g, 0, none⟩) nx c) X) := HSX1.out.below hb2
    have HV2 : Hid (Sl w2 (.slice pa n ca) l) := HV1.out.below hb2
    have HB2 : Hid (Below w.heap.size w w2) := HB1.out.trans (hb2.mono HB1.out.size)
    clear hb2
    go_wp2_with fail
    refine (same_any X l _ _ _ HSX2.out HV2.out (by have := HNX.out; omega)).mono ?_
    rintro e w3 ⟨s, rfl, hsame, hb3⟩
    have hrs : (r1 == s) = false := by
      have h1 := HR.out
      cases r1 <;> cases s <;> simp at h1 hsame ⊢
      · exact hsame h1
      · exact h1 hsame
    have HSX3 : Hid (Sl w3 (.slice (some ⟨g, 0, none⟩) nx c) X) := HSX2.out.below hb3
    have HV3 : Hid (Sl w3 (.slice pa n ca) l) := HV2.out.below hb3
    have HB3 : Hid (Below w.heap.size w w3) := HB2.out.trans (hb3.mono HB2.out.size)
    clear hb3 hsame HR
    go_wp2_with fail
    go_loopw [10] (fun i w' => ∃ k : Nat, k ≤ n ∧ i = .int .i64 k ∧ Hid (Sl w' (.slice (some ⟨g, 0, none⟩) nx c) X) ∧ Hid (Sl w' (.slice pa n ca) l) ∧ Hid (Below w.heap.size w w')) (fun i _ => n - (intOf i).toNat)
    case atStart => exact ⟨0, Nat.zero_le _, rfl, HSX3, HV3, HB3⟩
    case round =>
      clear HSX3 HV3 HB3 HSX2 HV2 HB2 HSX1 HV1 HB1
      obtain ⟨k, hk, rfl, HSX, HVL, HBW⟩ := hrel
      by_cases hlt : k < n
      · obtain ⟨b2, o2, hp2, hl2, hr2⟩ : ∃ b off, pa = some ⟨b, off, none⟩ ∧ b < wr.heap.size ∧ Row wr b off l := by
          obtain ⟨a, cap, h1, _, h2⟩ := HVL.out
          simp only [Value.slice.injEq] at h1
          obtain ⟨rfl, _⟩ := h1
          rcases h2 with h | h
          · have := HN.out; rw [h] at this; simp at this; omega
          · exact h
        subst hp2
        obtain ⟨d0, d1, d2, d3, d4⟩ := hr2 k (by rw [HN.out]; exact hlt)
        clear hr2
        obtain ⟨b1, o1, hp1, hl1, hr1⟩ : ∃ b off, (some ⟨g, 0, none⟩ : Option Addr) = some ⟨b, off, none⟩ ∧ b < wr.heap.size ∧ Row wr b off X := by
          obtain ⟨a, cap, h1, _, h2⟩ := HSX.out
          simp only [Value.slice.injEq] at h1
          obtain ⟨rfl, _⟩ := h1
          rcases h2 with h | h
          · have := HNX.out; rw [h] at this; simp at this; omega
          · exact h
        simp only [Option.some.injEq, Addr.mk.injEq, and_true] at hp1
        obtain ⟨rfl, rfl⟩ := hp1
        have HRX1 : Hid (Row wr g 0 X) := hr1
        clear hr1
        have HALk : Hid (∀ r, AtI X (l.getD k dm).name r → ∃ k_1 : Nat, k_1 < nx ∧ r = k_1 ∧ (X.getD k_1 dm = l.getD k dm ∨ newM (X.getD k_1 dm) (l.getD k dm) = true)) := HAL.out k hlt
        generalize l.getD k dm = mk at *
        go_wp2_with fail
        refine (memberAt_any X _ _ _ HSX.out (by have := HNX.out; omega)).mono ?_
        rintro e w4 ⟨r, rfl, hI, rfl⟩
        obtain ⟨k2, hk2, hrk, hcase⟩ := HALk.out r hI.out
        subst hrk
        obtain ⟨c0, c1, c2, c3, c4⟩ := HRX1.out k2 (by rw [HNX.out]; exact hk2)
        simp only [Nat.zero_add] at c0 c1 c2 c3 c4
        have hneq := neq24 (X.getD k2 dm) mk
        generalize X.getD k2 dm = mx2 at *
        have hk0 : decide ((k2 : Int) < 0) = false := by simp
        obtain ⟨xn, xs, xl, xa, xv⟩ := mx2
        obtain ⟨yn, ys, yl, ya, yv⟩ := mk
        simp only at c0 c1 c2 c3 c4 d0 d1 d2 d3 d4 hneq
        by_cases hsm : (Mem.mk xn xs xl xa xv) = (Mem.mk yn ys yl ya yv)
        · have hs1 : sameM (Mem.mk xn xs xl xa xv) (Mem.mk yn ys yl ya yv) = true := (sameM_iff _ _).2 hsm
          rw [hs1] at hneq
          simp only [Bool.not_true] at hneq
          clear hcase hsm hI HALk HRX1
          go_wp2_with fail
          go_quiet (fail)
          go_wp2_with fail
          go_roundw
          case rel => exact ⟨k + 1, by omega, by go_num, HSX.out.below (below_drewN (Below.refl _ _) _), HVL.out.below (below_drewN (Below.refl _ _) _), below_drewN HBW.out _⟩
          case measure => simp [intOf]; omega
        · have hs1 : sameM (Mem.mk xn xs xl xa xv) (Mem.mk yn ys yl ya yv) = false := by
            cases h : sameM (Mem.mk xn xs xl xa xv) (Mem.mk yn ys yl ya yv)
            · rfl
            · exact absurd ((sameM_iff _ _).1 h) hsm
          rw [hs1] at hneq
          have hq : newB xs xl xa xv ys yl ya yv = true := hcase.resolve_left hsm
          simp only [Bool.not_false] at hneq
          clear hcase hsm hI HALk HRX1
          go_wp2_with fail
          have E0 : ∀ d os, (Go.Sort.grow (redrawn w4 d) os).cell? ⟨g, k2 * 5, none⟩ = some (.string xn) := cell_regrown c0
          have E1 : ∀ d os, (Go.Sort.grow (redrawn w4 d) os).cell? ⟨g, k2 * 5 + 1, none⟩ = some (.int .i64 xs) := cell_regrown c1
          have E2 : ∀ d os, (Go.Sort.grow (redrawn w4 d) os).cell? ⟨g, k2 * 5 + 2, none⟩ = some (.int .i64 xl) := cell_regrown c2
          have E3 : ∀ d os, (Go.Sort.grow (redrawn w4 d) os).cell? ⟨g, k2 * 5 + 3, none⟩ = some (.int .i64 xa) := cell_regrown c3
          have E4 : ∀ d os, (Go.Sort.grow (redrawn w4 d) os).cell? ⟨g, k2 * 5 + 4, none⟩ = some (.bool xv) := cell_regrown c4
          have F0 : ∀ d os, (Go.Sort.grow (redrawn w4 d) os).cell? ⟨b2, o2 + k * 5, none⟩ = some (.string yn) := cell_regrown d0
          have F1 : ∀ d os, (Go.Sort.grow (redrawn w4 d) os).cell? ⟨b2, o2 + k * 5 + 1, none⟩ = some (.int .i64 ys) := cell_regrown d1
          have F2 : ∀ d os, (Go.Sort.grow (redrawn w4 d) os).cell? ⟨b2, o2 + k * 5 + 2, none⟩ = some (.int .i64 yl) := cell_regrown d2
          have F3 : ∀ d os, (Go.Sort.grow (redrawn w4 d) os).cell? ⟨b2, o2 + k * 5 + 3, none⟩ = some (.int .i64 ya) := cell_regrown d3
          have F4 : ∀ d os, (Go.Sort.grow (redrawn w4 d) os).cell? ⟨b2, o2 + k * 5 + 4, none⟩ = some (.bool yv) := cell_regrown d4
          clear c0 c1 c2 c3 c4 d0 d1 d2 d3 d4
          have cN : ∀ d os, Calls Try.prog 14 #[.agg #[.string xn, .int .i64 xs, .int .i64 xl, .int .i64 xa, .bool xv], .agg #[.string yn, .int .i64 ys, .int .i64 yl, .int .i64 ya, .bool yv]] (Go.Sort.grow (redrawn w4 d) os) fun e w'' => e = .returned (.bool true) ∧ ∃ p : Regrown, w'' = Go.Sort.grow (redrawn w4 p.d) p.os := fun d os =>
            Calls.regrown_of ((newerMember_any _ _ _ _ _ _ _ _ _ _ _).mono (by rintro e w' ⟨rfl, rfl⟩; exact ⟨by rw [hq], ((Below.refl _ _).alloc (Nat.le_refl _) _).alloc (by simp) _⟩))
          refine wp_region_quiet_below (by kernel_rfl) (by kernel_rfl) ?_
          repeat (quiet_step (exact cN _ _))
          refine wpQuiet_nil ?_
          intro _ hw'
          obtain ⟨⟨dq, osq⟩, hw''⟩ := hw'
          subst hw''
          have HBQ : Hid (Below w4.heap.size w4 (Go.Sort.grow (redrawn w4 dq) osq)) := below_regrown w4 dq osq
          clear cN E0 E1 E2 E3 E4 F0 F1 F2 F3 F4
          go_wp2_with fail
          go_roundw
          case rel => exact ⟨k + 1, by omega, by go_num, HSX.out.below HBQ.out, HVL.out.below HBQ.out, HBW.out.trans (HBQ.out.mono HBW.out.size)⟩
          case measure => simp [intOf]; omega
      · clear HVL
        by_cases hl : labB me = true
        · obtain ⟨p, f, hat⟩ := at_any X HRX.out me
          have HAT : Hid (At X me p f) := hat
          clear hat
          go_wp2_with fail
          refine (refute_good X _ me _ HSX.out HCX.out hs hl p f HAT.out).mono ?_
          rintro e w4 ⟨v2, rfl, hb4, _, hgood⟩
          have HBW4 : Hid (Below w.heap.size w w4) := HBW.out.trans (hb4.mono HBW.out.size)
          have HSX4 : Hid (Sl w4 (.slice (some ⟨g, 0, none⟩) nx c) X) := HSX.out.below hb4
          by_cases hE : refE X p f = 0
          · have hO := hgood hE
            rw [hE]
            by_cases hR : refR X p f = true
            · rw [hR]
              rw [refL, if_pos hR] at hO
              have hf : f = true := by unfold refR at hR; simp only [Bool.and_eq_true] at hR; exact hR.1.1
              subst hf
              obtain ⟨hpn, hcz⟩ := HAT.out.is.1 rfl
              have hpn' : p < nx := by rw [← HNX.out]; exact hpn
              have HRY : Hid (Rise (X.set p (liveAgain (X.getD p dm)))) := by
                have := hearL_rise X (liveAgain (X.getD p dm)) HRX.out
                rwa [hearL_again HAT.out] at this
              have HATY : Hid (At (X.set p (liveAgain (X.getD p dm))) me p true) := at_set HAT.out rfl
              have HYN : Hid (∀ x ∈ X.set p (liveAgain (X.getD p dm)), x.name.size ≤ maxLen) := fun x hx => by
                rcases List.mem_or_eq_of_mem_set hx with hx | rfl
                · exact NX.out x hx
                · exact ns_get NX.out p
              have HSY : Hid (Sl w4 v2 (X.set p (liveAgain (X.getD p dm)))) := own_names hO HYN.out
              have HYG : Hid ((X.set p (liveAgain (X.getD p dm))).getD p dm = liveAgain (X.getD p dm)) := (show (X.set p (liveAgain (X.getD p dm))).getD p dm = liveAgain (X.getD p dm) by simp only [List.getD, List.getElem?_set_self hpn, Option.getD_some])
              have HYL : Hid ((X.set p (liveAgain (X.getD p dm))).length = nx) := by rw [List.length_set]; exact HNX.out
              have HATX : Hid (∀ r, AtI X me r → r = p) := fun r hr => (atI_at hr HAT.out HRX.out).1 rfl
              clear hgood hE hR hO hb4 HAT HYN
              have HATY2 : Hid (∀ r, AtI (X.set p (liveAgain (X.getD p dm))) me r → r = p) := fun r hr => (atI_at hr HATY.out HRY.out).1 rfl
              obtain ⟨pb, cb, hv2, _, ha2⟩ := HSY.out
              rw [HYL.out] at hv2
              subst hv2
              obtain ⟨b1, o1, hp1, hl1, hr1⟩ : ∃ b off, pb = some ⟨b, off, none⟩ ∧ b < w4.heap.size ∧ Row w4 b off (X.set p (liveAgain (X.getD p dm))) := by
                rcases ha2 with h | h
                · have := HYL.out; rw [h] at this; simp at this; omega
                · exact h
              subst hp1
              have HR1 : Hid (Row w4 b1 o1 (X.set p (liveAgain (X.getD p dm)))) := hr1
              obtain ⟨b2, o2, hp2, hl2, hr2⟩ : ∃ b off, (some ⟨g, 0, none⟩ : Option Addr) = some ⟨b, off, none⟩ ∧ b < w4.heap.size ∧ Row w4 b off X := by
                obtain ⟨a, cap, h1, _, h2⟩ := HSX4.out
                simp only [Value.slice.injEq] at h1
                obtain ⟨rfl, _⟩ := h1
                rcases h2 with h | h
                · have := HNX.out; rw [h] at this; simp at this; omega
                · exact h
              simp only [Option.some.injEq, Addr.mk.injEq, and_true] at hp2
              obtain ⟨rfl, rfl⟩ := hp2
              have HR2 : Hid (Row w4 g 0 X) := hr2
              clear hr1 hr2 ha2 hcz hpn HSX
              go_wp2_with fail
              refine (memberAt_any _ _ _ _ HSY.out (by have := HYL.out; omega)).mono ?_
              rintro e w5 ⟨r5, rfl, hI5, rfl⟩
              obtain rfl := HATY2.out r5 hI5.out
              clear hI5
              go_wp2_with fail
              refine (memberAt_any X _ _ _ HSX4.out (by have := HNX.out; omega)).mono ?_
              rintro e w6 ⟨r6, rfl, hI6, rfl⟩
              obtain rfl := HATX.out r6 hI6.out
              clear hI6
              obtain ⟨c0, c1, c2, c3, c4⟩ := HR1.out p (by rw [HYL.out]; exact hpn')
              obtain ⟨d0, d1, d2, d3, d4⟩ := HR2.out p (by rw [HNX.out]; exact hpn')
              rw [HYG.out] at c0 c1 c2 c3 c4
              simp only [Nat.zero_add] at d0 d1 d2 d3 d4
              have hq := liveAgain_newer (X.getD p dm)
              generalize X.getD p dm = mx2 at *
              obtain ⟨yn, ys, yl, ya, yv⟩ := mx2
              simp only [liveAgain, newM] at c0 c1 c2 c3 c4 d0 d1 d2 d3 d4 hq
              have hk0 : decide (0 ≤ (p : Int)) = true := by simp
              have hk1 : decide ((p : Int) ≥ 0) = true := by simp
              have E0 : ∀ d os, (Go.Sort.grow (redrawn w6 d) os).cell? ⟨b1, o1 + p * 5, none⟩ = some (.string yn) := cell_regrown c0
              have E1 : ∀ d os, (Go.Sort.grow (redrawn w6 d) os).cell? ⟨b1, o1 + p * 5 + 1, none⟩ = some (.int .i64 1) := cell_regrown c1
              have E2 : ∀ d os, (Go.Sort.grow (redrawn w6 d) os).cell? ⟨b1, o1 + p * 5 + 2, none⟩ = some (.int .i64 (yl + 1)) := cell_regrown c2
              have E3 : ∀ d os, (Go.Sort.grow (redrawn w6 d) os).cell? ⟨b1, o1 + p * 5 + 3, none⟩ = some (.int .i64 ya) := cell_regrown c3
              have E4 : ∀ d os, (Go.Sort.grow (redrawn w6 d) os).cell? ⟨b1, o1 + p * 5 + 4, none⟩ = some (.bool yv) := cell_regrown c4
              have F0 : ∀ d os, (Go.Sort.grow (redrawn w6 d) os).cell? ⟨g, p * 5, none⟩ = some (.string yn) := cell_regrown d0
              have F1 : ∀ d os, (Go.Sort.grow (redrawn w6 d) os).cell? ⟨g, p * 5 + 1, none⟩ = some (.int .i64 ys) := cell_regrown d1
              have F2 : ∀ d os, (Go.Sort.grow (redrawn w6 d) os).cell? ⟨g, p * 5 + 2, none⟩ = some (.int .i64 yl) := cell_regrown d2
              have F3 : ∀ d os, (Go.Sort.grow (redrawn w6 d) os).cell? ⟨g, p * 5 + 3, none⟩ = some (.int .i64 ya) := cell_regrown d3
              have F4 : ∀ d os, (Go.Sort.grow (redrawn w6 d) os).cell? ⟨g, p * 5 + 4, none⟩ = some (.bool yv) := cell_regrown d4
              clear c0 c1 c2 c3 c4 d0 d1 d2 d3 d4
              have cN : ∀ d os, Calls Try.prog 14 #[.agg #[.string yn, .int .i64 1, .int .i64 (yl + 1), .int .i64 ya, .bool yv], .agg #[.string yn, .int .i64 ys, .int .i64 yl, .int .i64 ya, .bool yv]] (Go.Sort.grow (redrawn w6 d) os) fun e w'' => e = .returned (.bool true) ∧ ∃ p : Regrown, w'' = Go.Sort.grow (redrawn w6 p.d) p.os := fun d os =>
                Calls.regrown_of ((newerMember_any _ _ _ _ _ _ _ _ _ _ _).mono (by rintro e w' ⟨rfl, rfl⟩; exact ⟨by rw [hq], ((Below.refl _ _).alloc (Nat.le_refl _) _).alloc (by simp) _⟩))
              go_wp2_with fail
              refine wp_region_quiet_below (by kernel_rfl) (by kernel_rfl) ?_
              repeat (quiet_step (exact cN _ _))
              refine wpQuiet_nil ?_
              intro _ hw'
              obtain ⟨⟨dq, osq⟩, hw''⟩ := hw'
              subst hw''
              have HBQ : Hid (Below w6.heap.size w6 (Go.Sort.grow (redrawn w6 dq) osq)) := below_regrown w6 dq osq
              clear cN E0 E1 E2 E3 E4 F0 F1 F2 F3 F4
              go_wp2_with fail
              go_ret
              exact ⟨rfl, HBW4.out.trans (HBQ.out.mono HBW4.out.size)⟩
            · have hR' : refR X p f = false := by simpa using hR
              rw [hR']
              clear hgood hE hR hO hb4 HAT
              go_wp2_with fail
              go_ret
              exact ⟨rfl, HBW4.out⟩
          · have hE' : (refE X p f != 0) = true := by simpa using hE
            clear hgood hE hb4 HAT
            go_wp2_with fail
            go_ret
            exact ⟨rfl, HBW4.out⟩
        · have hl' : labB me = false := by simpa using hl
          go_wp2_with fail
          refine (refute_form X _ me _ HSX.out HCX.out hs hl').mono ?_
          rintro e w4 ⟨rfl, hb4⟩
          have HBW4 : Hid (Below w.heap.size w w4) := HBW.out.trans (hb4.mono HBW.out.size)
          clear hb4
          go_wp2_with fail
          go_ret
          exact ⟨rfl, HBW4.out⟩
  · have hen : (joinE l [m] != 0) = true := by simpa using he
    obtain ⟨rfl, rfl⟩ := hbad he
    clear hbad hgood he
    go_wp2_with fail
    go_ret
    exact ⟨rfl, HB1.out⟩

end Go.Proofs.Ytcledbejggmfoac
