
/- Hear, Join, Refute; what must be in any case. -/
import Derived.Test.YtjpcngkddejdjacMJ
namespace Go.Proofs.Ytjpcngkddejdjac
open Go.RowKit

theorem join_any (a b : List Mem) (va vb : Value) (pb cap : Nat) (w : World) (ha : Sl w va a) (hb : Sl w vb b) (hpb : pb < w.heap.size) (hc0 : w.cell? ⟨pb, 0, none⟩ = some va) (hc1 : w.cell? ⟨pb, 1, none⟩ = some vb) :
    Calls Try.prog 31 #[.slice (some ⟨pb, 0, none⟩) 2 cap] w fun e w' => ∃ v', e = .returned (.tuple #[v', .int .i64 (joinE a b)]) ∧ Below w.heap.size w w' ∧
      (joinE a b ≠ 0 → v' = .slice none 0 0) ∧ (joinE a b = 0 → Own w.heap.size w' v' (joinL a b)) := by
  by_cases h0 : chkTwo a b = 0
  · refine (join_good a b va vb pb cap w ha hb hpb hc0 hc1 h0).mono ?_
    rintro e w' ⟨v', rfl, h1, h2, h3⟩
    have hE : joinE a b = if 20 < (joinL a b).length then 2 else 0 := if_pos h0
    refine ⟨v', rfl, h1, fun hne => h2 ?_, fun hz => h3 ?_⟩
    · rw [hE] at hne; split at hne
      · assumption
      · exact absurd rfl hne
    · rw [hE] at hz; split at hz
      · cases hz
      · omega
  · refine (join_bad a b va vb pb cap w ha hb hpb hc0 hc1 h0).mono ?_
    rintro e w' ⟨rfl, h1⟩
    have hE : joinE a b = chkTwo a b := if_neg h0
    exact ⟨_, rfl, h1, fun _ => rfl, fun hz => absurd (hE ▸ hz) h0⟩

set_option maxHeartbeats 800000 in
theorem hear_any (ms : List Mem) (m : Mem) (v : Value) (w : World) (hv : Sl w v ms) (hm : m.name.size ≤ maxLen) :
    Calls Try.prog 10 #[v, .agg #[.string m.name, .int .i64 m.state, .int .i64 m.life, .int .i64 m.addr, .bool m.server]] w fun e w' => ∃ (v' : Value) (r : Bool), e = .returned (.tuple #[v', .bool r, .int .i64 (joinE ms [m])]) ∧ Below w.heap.size w w' ∧
      (joinE ms [m] ≠ 0 → v' = .slice none 0 0 ∧ r = false) ∧ (joinE ms [m] = 0 → Own w.heap.size w' v' (hearL ms m) ∧ (r = true ↔ hearL ms m ≠ ms)) := by
  have HV := hv
  obtain ⟨pa, ca, rfl, ns, _⟩ := hv
  obtain ⟨W, hW⟩ : ∃ W, W = (((w.alloc (.cells #[.string m.name, .int .i64 m.state, .int .i64 m.life, .int .i64 m.addr, .bool m.server] 24)).alloc (.cells #[.string m.name, .int .i64 m.state, .int .i64 m.life, .int .i64 m.addr, .bool m.server] 24)).alloc (.cells #[.string m.name, .int .i64 m.state, .int .i64 m.life, .int .i64 m.addr, .bool m.server] 24)).alloc (.cells #[.slice pa ms.length ca, .slice (some ⟨w.heap.size + 1 + 1, 0, none⟩) 1 1] 22) := ⟨_, rfl⟩
  go_enter Try.func10, Try.ntmps10
  go_wp2_with (go_at_call 32; refine (alone_any _ _ _ _ _ _).mono ?_; rintro e w' ⟨rfl, rfl⟩)
  obtain ⟨M, hM⟩ : ∃ M : Obj, M = .cells #[.string m.name, .int .i64 m.state, .int .i64 m.life, .int .i64 m.addr, .bool m.server] 24 := ⟨_, rfl⟩
  have hb0 : Below w.heap.size w W := by rw [hW]; exact ((((Below.refl _ _).alloc (Nat.le_refl _) _).alloc (by simp) _).alloc (by simp; omega) _).alloc (by simp; omega) _
  have hsW : W.heap.size = w.heap.size + 1 + 1 + 1 + 1 := by rw [hW]; simp
  have hg3 : W.heap[w.heap.size + 1 + 1 + 1]? = some (.cells #[.slice pa ms.length ca, .slice (some ⟨w.heap.size + 1 + 1, 0, none⟩) 1 1] 22 (0, 0)) := by rw [hW]; have := heap_alloc_new (((w.alloc M).alloc M).alloc M) (.cells #[.slice pa ms.length ca, .slice (some ⟨w.heap.size + 1 + 1, 0, none⟩) 1 1] 22); rw [hM] at this; simpa using this
  have hg2 : W.heap[w.heap.size + 1 + 1]? = some (.cells #[.string m.name, .int .i64 m.state, .int .i64 m.life, .int .i64 m.addr, .bool m.server] 24 (0, 0)) := by
    rw [hW, Below.heap_alloc _ _ _ (by simp)]
    have := heap_alloc_new ((w.alloc M).alloc M) M
    rw [hM] at this
    simpa using this
  rw [← hW]
  refine (join_any ms [m] (.slice pa ms.length ca) (.slice (some ⟨w.heap.size + 1 + 1, 0, none⟩) 1 1) (w.heap.size + 1 + 1 + 1) 2 W (HV.below hb0) (sl_one W _ 1 m hm hg2) (by omega) (cellsAt hg3 0) (cellsAt hg3 1)).mono ?_
  rintro e w2 ⟨v', rfl, h1, h2, h3⟩
  have HB : Hid (Below w.heap.size w w2) := hb0.trans (h1.mono (by omega))
  have HV2 : Hid (Sl w2 (.slice pa ms.length ca) ms) := HV.below HB.out
  have H2 : Hid (joinE ms [m] ≠ 0 → v' = .slice none 0 0) := h2
  have H3 : Hid (joinE ms [m] = 0 → Own w.heap.size w2 v' (hearL ms m)) := fun h => (h3 h).mono (by omega)
  clear h2 h3 h1 hg2 hg3 hsW hb0 hW hM HV
  rcases he : decide (joinE ms [m] = 0) with _ | _
  · have he' : (joinE ms [m] != 0) = true := by simpa using he
    have hne : Hid (joinE ms [m] ≠ 0) := (show joinE ms [m] ≠ 0 by simpa using he)
    clear he
    go_wp2_with fail
    go_ret3
    exact ⟨_, false, rfl, HB.out, fun _ => ⟨rfl, rfl⟩, fun h => absurd h hne.out⟩
  · have he' : (joinE ms [m] != 0) = false := by simpa using he
    have hz : Hid (joinE ms [m] = 0) := (show joinE ms [m] = 0 by simpa using he)
    clear he
    have HO : Hid (Own w.heap.size w2 v' (hearL ms m)) := H3.out hz.out
    have hct : chk ms = 0 := by
      have h := hz.out
      unfold Hid joinE chkTwo at h
      by_cases h1 : chk ms = 0
      · exact h1
      · rw [if_neg h1, if_neg h1] at h; exact absurd h h1
    have HC : Hid (chk ms = 0) := hct
    clear hct
    have NS : Hid (∀ x ∈ hearL ms m, x.name.size ≤ maxLen) := ns_hear (ns_mem ns) hm
    have hlen : Hid ((hearL ms m).length ≤ 1000) := by have h1 := hearL_len ms m; have h2 := chk_zero HC.out; show (hearL ms m).length ≤ 1000; omega
    go_wp2_with (go_at_call 33; refine (equal_any (hearL ms m) ms _ _ _ (own_names HO.out NS.out) HV2.out hlen.out).mono ?_; rintro e w3 ⟨r, rfl, h5, h6⟩)
    go_ret3
    refine ⟨v', !r, by rw [show joinE ms [m] = 0 from hz.out]; rfl, HB.out.trans (h6.mono HB.out.size), fun h => absurd hz.out h, fun _ => ⟨HO.out.below h6, ?_⟩⟩
    cases r
    · simp at h5; simpa using h5
    · simp at h5; simpa using h5

set_option maxHeartbeats 400000 in
theorem isDoubted_any (nm : ByteArray) (st lf ad : Int) (sv : Bool) (w : World) :
    Calls Try.prog 40 #[.agg #[.string nm, .int .i64 st, .int .i64 lf, .int .i64 ad, .bool sv]] w fun e w' => e = .returned (.bool (decide (st = 2) || decide (st = 3))) ∧ w' = w.alloc (.cells #[.string nm, .int .i64 st, .int .i64 lf, .int .i64 ad, .bool sv] 24) := by
  by_cases h : st = 2
  · subst h
    go_enter Try.func40, Try.ntmps40
    go_wp2
    go_ret
    exact ⟨ret_bool (by simp), rfl⟩
  · have h' : (st == 2) = false := by simpa using h
    go_enter Try.func40, Try.ntmps40
    go_wp2
    go_ret
    exact ⟨ret_bool (by rw [Bool.eq_iff_iff]; simp [h]), rfl⟩

def liveAgain (m : Mem) : Mem := ⟨m.name, 1, m.life + 1, m.addr, m.server⟩

set_option maxHeartbeats 800000 in
theorem refute_bad (ms : List Mem) (v : Value) (me : ByteArray) (w : World) (hv : Sl w v ms) (hne : chk ms ≠ 0) :
    Calls Try.prog 15 #[v, .string me] w fun e w' => e = .returned (.tuple #[.slice none 0 0, .bool false, .int .i64 (chk ms)]) ∧ Below w.heap.size w w' := by
  have he : (chk ms != 0) = true := by simpa using hne
  have HV : Hid (Sl w v ms) := hv
  clear hv hne
  go_enter Try.func15, Try.ntmps15
  go_wp2_with (go_at_call 11; refine (check_any ms _ _ HV.out).mono ?_; rintro e w' ⟨rfl, hb2⟩)
  go_ret3
  exact ⟨rfl, hb2⟩

set_option maxHeartbeats 800000 in
theorem refute_form (ms : List Mem) (v : Value) (me : ByteArray) (w : World) (hv : Sl w v ms) (h0 : chk ms = 0) (hs : me.size ≤ maxLen) (hl : labB me = false) :
    Calls Try.prog 15 #[v, .string me] w fun e w' => e = .returned (.tuple #[.slice none 0 0, .bool false, .int .i64 1]) ∧ Below w.heap.size w w' := by
  have he : (chk ms != 0) = false := by simpa using h0
  have HV : Hid (Sl w v ms) := hv
  clear hv h0
  go_enter Try.func15, Try.ntmps15
  go_wp2_with (first | (go_at_call 11; refine (check_any ms _ _ HV.out).mono ?_; rintro e w' ⟨rfl, hb2⟩) | (go_at_call 37; refine (label_any _ _ hs).mono ?_; rintro e w' ⟨rfl, rfl⟩; rw [hl]))
  go_ret3
  exact ⟨rfl, hb2⟩

theorem fl_set2 (ms : List Mem) (p : Nat) (hp : p < ms.length) : ((fl ms).set (p * 5 + 1) (.int .i64 1)).set (p * 5 + 2) (.int .i64 ((ms.getD p dm).life + 1)) = fl (ms.set p (liveAgain (ms.getD p dm))) := by
  induction ms generalizing p with
  | nil => simp at hp
  | cons x r ih =>
    cases p with
    | zero => simp [fl, Mem.cs, liveAgain]
    | succ p =>
      have ih' := ih p (by simpa using hp)
      rw [List.set_cons_succ, fl_cons, fl_cons, List.getD_cons_succ, ← ih']
      simp only [Nat.add_mul, Nat.one_mul]
      have e : ∀ (l : List Value) (k : Nat) (v : Value), (x.cs ++ l).set (k + 5) v = x.cs ++ l.set k v := fun l k v => by
        rw [List.set_append, if_neg (by rw [cs_len]; omega), cs_len, Nat.add_sub_cancel]
      rw [show p * 5 + 5 + 1 = (p * 5 + 1) + 5 by omega, show p * 5 + 5 + 2 = (p * 5 + 2) + 5 by omega]
      rw [e, e]

theorem own_set2 {base g c p : Nat} {W : World} {ms : List Mem} (h : Own base W (.slice (some ⟨g, 0, none⟩) ms.length c) ms) (hp : p < ms.length) :
    Own base ((W.setCell ⟨g, p * 5 + 1, none⟩ (.int .i64 1)).setCell ⟨g, p * 5 + 2, none⟩ (.int .i64 ((ms.getD p dm).life + 1))) (.slice (some ⟨g, 0, none⟩) ms.length c) (ms.set p (liveAgain (ms.getD p dm))) := by
  have h1 := World.ownsRow.stored h (p * 5 + 1) (.int .i64 1)
  have h2 := World.ownsRow.stored h1.1 (p * 5 + 2) (.int .i64 ((ms.getD p dm).life + 1))
  have e := h2.1
  rw [fl_set2 ms p hp] at e
  show World.ownsRow _ _ _ _ _ (ms.set p (liveAgain (ms.getD p dm))).length _
  rw [List.length_set]
  exact e

theorem oneE_zero {nm : ByteArray} {st lf ad : Int} (h : oneE nm st lf ad = 0) : labB nm = true ∧ (1 ≤ st ∧ st ≤ 4) ∧ (1 ≤ lf ∧ lf ≤ 1000000) ∧ (0 ≤ ad ∧ ad ≤ 4294967295) := by
  have hw : ∀ n a b : Int, within n a b = true → a ≤ n ∧ n ≤ b := fun n a b h => by simpa [within] using h
  unfold oneE at h
  split at h
  · rename_i h1
    split at h
    · rename_i h2
      split at h
      · rename_i h3
        split at h
        · rename_i h4
          exact ⟨h1, hw _ _ _ h2, hw _ _ _ h3, hw _ _ _ h4⟩
        · omega
      · omega
    · omega
  · omega
theorem firstE_mem : ∀ (ms : List Mem), firstE ms = 0 → ∀ m ∈ ms, m.e = 0
  | [], _, m, h => by simp at h
  | x :: r, h, m, hm => by
    rw [firstE] at h
    split at h
    · rename_i h1
      rcases List.mem_cons.1 hm with rfl | hm
      · exact h1
      · exact firstE_mem r h m hm
    · rename_i h1; exact absurd h h1
theorem firstE_at0 {ms : List Mem} (h : firstE ms = 0) (p : Nat) (hp : p < ms.length) : (ms.getD p dm).e = 0 := by
  have := firstE_mem ms h ms[p] (List.getElem_mem hp)
  simpa [List.getD, List.getElem?_eq_getElem hp] using this

/-- B4: what Refute answers of members that are right, and a label. -/
def refR (ms : List Mem) (p : Nat) (f : Bool) : Bool := f && (decide ((ms.getD p dm).state = 2) || decide ((ms.getD p dm).state = 3)) && !((ms.getD p dm).life == 1000000)
def refE (ms : List Mem) (p : Nat) (f : Bool) : Int := if f && (decide ((ms.getD p dm).state = 2) || decide ((ms.getD p dm).state = 3)) && ((ms.getD p dm).life == 1000000) then 3 else 0
def refL (ms : List Mem) (p : Nat) (f : Bool) : List Mem := if refR ms p f = true then ms.set p (liveAgain (ms.getD p dm)) else ms
def RefSays (ms : List Mem) (p : Nat) (f : Bool) (w : World) (e : Ending) (w' : World) : Prop :=
  ∃ v' : Value, e = .returned (.tuple #[v', .bool (refR ms p f), .int .i64 (refE ms p f)]) ∧ Below w.heap.size w w' ∧ (refE ms p f ≠ 0 → v' = .slice none 0 0) ∧ (refE ms p f = 0 → Own w.heap.size w' v' (refL ms p f))

set_option maxHeartbeats 1000000 in
set_option maxRecDepth 100000 in
theorem refute_good (ms : List Mem) (v : Value) (me : ByteArray) (w : World) (hv : Sl w v ms) (h0 : chk ms = 0) (hs : me.size ≤ maxLen) (hl : labB me = true) (p : Nat) (f : Bool) (hat : At ms me p f) :
    Calls Try.prog 15 #[v, .string me] w fun e w' => RefSays ms p f w e w' := by
  have he : (chk ms != 0) = false := by simpa using h0
  have hz := chk_zero h0
  have HN : Hid (∀ x ∈ ms, x.name.size ≤ maxLen) := by obtain ⟨a, c, _, hn, _⟩ := hv; exact ns_mem hn
  have HV : Hid (Sl w v ms) := hv
  have HM : Hid (Rise ms) := hz.2.1
  have hlen := hz.1
  have HF1 : Hid (firstE ms = 0) := hz.2.2
  have HAT : Hid (At ms me p f) := hat
  clear hv h0 hz hat
  go_enter Try.func15, Try.ntmps15
  go_wp2_with (first | (go_at_call 11; refine (check_any ms _ _ HV.out).mono ?_; rintro e w1 ⟨rfl, hb1⟩) | (go_at_call 37; refine (label_any _ _ hs).mono ?_; rintro e w' ⟨rfl, rfl⟩; rw [hl]))
  refine (clone_any ms _ _ (HV.out.below hb1) (by omega)).mono ?_
  rintro e w2 ⟨kv, rfl, ho2, hb2⟩
  have HO2 : Hid (Own w.heap.size w2 kv ms) := ho2.mono hb1.size
  have HB2 : Hid (Below w.heap.size w w2) := hb1.trans (hb2.mono hb1.size)
  clear ho2 hb2 hb1
  go_wp2_with fail
  refine (find_any ms _ ⟨me, 0, 0, 0, false⟩ _ (own_names HO2.out HN.out) (by omega) HM.out).mono ?_
  rintro e w3 ⟨p', f', rfl, hb3, hat'⟩
  obtain ⟨rfl, rfl⟩ := at_uniq HAT.out hat'
  have HO3 : Hid (Own w.heap.size w3 kv ms) := HO2.out.below hb3
  have HB3 : Hid (Below w.heap.size w w3) := HB2.out.trans (hb3.mono HB2.out.size)
  clear hat' hb3 HO2 HB2
  cases f with
  | false =>
    go_wp2_with fail
    go_ret3
    exact ⟨kv, rfl, HB3.out, fun h => absurd rfl h, fun _ => HO3.out⟩
  | true =>
    have hp : p < ms.length := (HAT.out.is.1 rfl).1
    have hlf : 1 ≤ (ms.getD p dm).life ∧ (ms.getD p dm).life ≤ 1000000 := (oneE_zero (firstE_at0 HF1.out p hp)).2.2.1
    obtain ⟨g, c, hkv⟩ : ∃ g c, kv = .slice (some ⟨g, 0, none⟩) ms.length c := by
      rcases HO3.out.2 with ⟨_, h0⟩ | ⟨g, c, cur, h, _⟩
      · omega
      · exact ⟨g, c, h⟩
    subst hkv
    have hgl := HO3.out.lt g rfl
    have hfz : ∀ o, w3.frozen? ⟨g, o, none⟩ = false := fun o => World.ownsRow.frozenAt HO3.out o
    have hgl2 : g < w3.heap.size := hgl.2
    obtain ⟨b', off', hab, hgb, hrow⟩ : ∃ b off, (some ⟨g, 0, none⟩ : Option Addr) = some ⟨b, off, none⟩ ∧ b < w3.heap.size ∧ Row w3 b off ms := by
      obtain ⟨a, cap, h1, _, h2⟩ := own_names HO3.out HN.out
      simp only [Value.slice.injEq] at h1
      obtain ⟨rfl, _⟩ := h1
      rcases h2 with h2 | h2
      · rw [h2] at hp; simp at hp
      · exact h2
    simp only [Option.some.injEq, Addr.mk.injEq, and_true] at hab
    obtain ⟨rfl, rfl⟩ := hab
    obtain ⟨c0, c1, c2, c3, c4⟩ := hrow p hp
    clear hrow hgb
    simp only [Nat.zero_add] at c0 c1 c2 c3 c4
    generalize hm : ms.getD p dm = m2 at *
    have Hm : Hid (ms.getD p dm = m2) := hm
    clear hm
    obtain ⟨n2, s2, l2, a2, v2⟩ := m2
    simp only at c0 c1 c2 c3 c4 hlf
    obtain ⟨hlf1, hlf2⟩ := hlf
    rcases hd : (decide (s2 = 2) || decide (s2 = 3)) with _ | _
    · go_wp2_with (go_at_call 40; refine (isDoubted_any _ _ _ _ _ _).mono ?_; rintro e w' ⟨rfl, rfl⟩; rw [hd])
      go_ret3
      have e1 : refR ms p true = false := by unfold refR; rw [Hm.out]; simp only [hd]; rfl
      have e2 : refE ms p true = 0 := by unfold refE; rw [Hm.out]; simp only [hd]; rfl
      refine ⟨.slice (some ⟨g, 0, none⟩) ms.length c, by rw [e1, e2]; rfl, HB3.out.alloc HB3.out.size _, fun h => absurd e2 h, fun _ => ?_⟩
      rw [refL, e1, if_neg (by simp)]
      exact HO3.out.below ((Below.refl _ _).alloc (Nat.le_refl _) _)
    · rcases hl2 : ((l2 : Int) == 1000000) with _ | _
      · have e1 : refR ms p true = true := by unfold refR; rw [Hm.out]; simp only [hd, hl2]; rfl
        have e2 : refE ms p true = 0 := by unfold refE; rw [Hm.out]; simp only [hd, hl2]; rfl
        have E1 : Hid (refR ms p true = true) := e1
        have E2 : Hid (refE ms p true = 0) := e2
        clear e1 e2
        have HS := own_set2 HO3.out hp
        rw [Hm.out] at HS
        have HS2 : Hid (Own w.heap.size ((w3.setCell ⟨g, p * 5 + 1, none⟩ (.int .i64 1)).setCell ⟨g, p * 5 + 2, none⟩ (.int .i64 (l2 + 1))) (.slice (some ⟨g, 0, none⟩) ms.length c) (ms.set p (liveAgain ⟨n2, s2, l2, a2, v2⟩))) := HS
        clear HS
        go_wp2_with (go_at_call 40; refine (isDoubted_any _ _ _ _ _ _).mono ?_; rintro e w' ⟨rfl, rfl⟩; rw [hd])
        go_ret3
        refine ⟨.slice (some ⟨g, 0, none⟩) ms.length c, by rw [E1.out, E2.out]; rfl, ?_, fun h => absurd E2.out h, fun _ => ?_⟩
        · have hB2 := (HB3.out.setCell (p := ⟨g, p * 5 + 1, none⟩) hgl.1 (.int .i64 1)).setCell (p := ⟨g, p * 5 + 2, none⟩) hgl.1 (.int .i64 (l2 + 1))
          exact hB2.alloc (by have := HB3.out.size; simpa using this) _
        · rw [refL, if_pos E1.out, Hm.out]
          exact HS2.out.below ((Below.refl _ _).alloc (Nat.le_refl _) _)
      · have E1 : Hid (refR ms p true = false) := (show refR ms p true = false by unfold refR; rw [Hm.out]; simp only [hd, hl2]; rfl)
        have E2 : Hid (refE ms p true = 3) := (show refE ms p true = 3 by unfold refE; rw [Hm.out]; simp only [hd, hl2]; rfl)
        go_wp2_with (go_at_call 40; refine (isDoubted_any _ _ _ _ _ _).mono ?_; rintro e w' ⟨rfl, rfl⟩; rw [hd])
        go_ret3
        exact ⟨.slice none 0 0, by rw [E1.out, E2.out]; rfl, HB3.out.alloc HB3.out.size _, fun _ => rfl, fun h => by rw [E2.out] at h; cases h⟩

end Go.Proofs.Ytjpcngkddejdjac
