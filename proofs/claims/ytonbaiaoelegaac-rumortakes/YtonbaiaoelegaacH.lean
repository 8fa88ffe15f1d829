
/- learn: what is known behind one rumor. -/
import Derived.Test.YtonbaiaoelegaacG
namespace Go.Proofs.Ytonbaiaoelegaac
open Go.RowKit

theorem Own.below {base : Nat} {w w' : World} {v : Value} {ms : List Mem} (h : Own base w v ms) (hb : Below w.heap.size w w') : Own base w' v ms := by
  rcases h.2 with ⟨rfl, h0⟩ | ⟨g, c, cur, rfl, hbg, hg, hnc, hcm, hcs, htake⟩
  · exact ⟨h.1, .inl ⟨rfl, h0⟩⟩
  · have hlt : g < w.heap.size := (Array.getElem?_eq_some_iff.1 hg).1
    exact ⟨h.1, .inr ⟨g, c, cur, rfl, hbg, (hb.block g hlt).trans hg, hnc, hcm, hcs, htake⟩⟩

theorem Own.lt {base : Nat} {w : World} {v : Value} {ms : List Mem} (h : Own base w v ms) (k : Nat) (hk : v.ownBlock = some k) : base ≤ k ∧ k < w.heap.size := World.ownsRow.lt h k hk

theorem below_grown {base : Nat} {w w1 w2 : World} {v : Value} {ms : List Mem} (hb : Below base w w1) (h : Own base w1 v ms) (hg : w1.grownBy w2 v.ownBlock) (hbase : base ≤ w1.heap.size) : Below base w w2 :=
  hb.grown hg hbase (fun k hk => (h.lt k hk).1)

set_option maxHeartbeats 1000000 in
set_option maxRecDepth 100000 in
theorem learn_new (base : Nat) (v : Value) (ms : List Mem) (nm : ByteArray) (st lf ad : Int) (sv : Bool) (w : World) (hown : Own base w v ms) (hr : Rise ms) (hs : ∀ j, (ms.getD j dm).name.size ≤ maxLen) (hn : ms.length ≤ 40) (hbase : base ≤ w.heap.size)
    (hnot : ∀ p, At ms nm p true → False) :
    Calls Try.prog 55 #[v, .agg #[.string nm, .int .i64 st, .int .i64 lf, .int .i64 ad, .bool sv]] w fun e w' => ∃ v', e = .returned v' ∧ Own base w' v' (hearL ms ⟨nm, st, lf, ad, sv⟩) ∧ Below base w w' := by
  have HO : Hid (Own base w v ms) := hown
  have HM : Hid (∀ i j, i ≤ j → j < ms.length → cmpI (ms.getD j dm).name nm < 0 → cmpI (ms.getD i dm).name nm < 0) := rise_mono hr nm
  have HS : Hid (∀ j, (ms.getD j dm).name.size ≤ maxLen) := hs
  clear hown hs hr
  have hb0 : Below w.heap.size w (w.alloc (.cells #[.string nm, .int .i64 st, .int .i64 lf, .int .i64 ad, .bool sv] 24)) := (Below.refl _ _).alloc (Nat.le_refl _) _
  have HO1 : Hid (Own base (w.alloc (.cells #[.string nm, .int .i64 st, .int .i64 lf, .int .i64 ad, .bool sv] 24)) v ms) := HO.out.below hb0
  go_enter Try.func55, Try.ntmps55
  go_wp2_with fail
  refine (find_any ms _ _ _ (HO1.out.sl HS.out) hn HM.out).mono ?_
  rintro e w1 ⟨p, f, rfl, hbl, hat⟩
  have hf : f = false := by
    cases f
    · rfl
    · exact absurd hat (hnot p)
  subst hf
  have HA : Hid (At ms nm p false) := hat
  clear hat hnot
  obtain ⟨hbc, hbf⟩ := bcell hbl
  have hsz := hbl.size
  have hsz' : w.heap.size + 1 ≤ w1.heap.size := by simpa using hsz
  have HO2 : Hid (Own base (w1.alloc (.cells #[.string nm, .int .i64 st, .int .i64 lf, .int .i64 ad, .bool sv] 24)) v ms) := (HO1.out.below hbl).below ((Below.refl _ _).alloc (Nat.le_refl _) _)
  have hne : Hid (v.ownBlock ≠ some w1.heap.size) := fun e => by have := (HO1.out.below hbl).lt _ e; omega
  have HB : Hid (Below base w w1) := (hb0.mono hbase).trans (hbl.mono (by simp; omega))
  clear hb0
  have hvb : Hid ((w1.alloc (.cells #[.string nm, .int .i64 st, .int .i64 lf, .int .i64 ad, .bool sv] 24)).heap[w1.heap.size]? = some (.cells (Mem.mk nm st lf ad sv).cs.toArray 24 (0, 0))) := heap_alloc_new w1 _
  go_wp2_with (go_at_call 71; refine (insert_any base p w1.heap.size v ms ⟨nm, st, lf, ad, sv⟩ _ HO2.out HA.out.le (by omega) (by simp; omega) hvb.out hne.out).mono ?_; rintro e w2 ⟨v', rfl, h1, h2⟩)
  go_ret
  refine ⟨v', rfl, ?_, ?_⟩
  · rw [hearL_at ms _ p false HA.out]
    exact h1
  · exact below_grown (HB.out.alloc (by omega) _) HO2.out h2 (by simp; omega)

theorem own_set5 {base g c p : Nat} {W : World} {ms : List Mem} (h : Own base W (.slice (some ⟨g, 0, none⟩) ms.length c) ms) (hp : p < ms.length) (m : Mem) :
    Own base (((((W.setCell ⟨g, p * 5, none⟩ (.string m.name)).setCell ⟨g, p * 5 + 1, none⟩ (.int .i64 m.state)).setCell ⟨g, p * 5 + 2, none⟩ (.int .i64 m.life)).setCell ⟨g, p * 5 + 3, none⟩ (.int .i64 m.addr)).setCell ⟨g, p * 5 + 4, none⟩ (.bool m.server)) (.slice (some ⟨g, 0, none⟩) ms.length c) (ms.set p m) := by
  have h1 := World.ownsRow.stored h (p * 5) (.string m.name)
  have h2 := World.ownsRow.stored h1.1 (p * 5 + 1) (.int .i64 m.state)
  have h3 := World.ownsRow.stored h2.1 (p * 5 + 2) (.int .i64 m.life)
  have h4 := World.ownsRow.stored h3.1 (p * 5 + 3) (.int .i64 m.addr)
  have h5 := World.ownsRow.stored h4.1 (p * 5 + 4) (.bool m.server)
  have e := h5.1
  rw [fl_set ms p hp m] at e
  show World.ownsRow _ _ _ _ _ (ms.set p m).length _
  rw [List.length_set]
  exact e

set_option maxHeartbeats 1000000 in
set_option maxRecDepth 100000 in
theorem learn_old (base g c : Nat) (ms : List Mem) (nm : ByteArray) (st lf ad : Int) (sv : Bool) (w : World) (hown : Own base w (.slice (some ⟨g, 0, none⟩) ms.length c) ms) (hr : Rise ms) (hs : ∀ j, (ms.getD j dm).name.size ≤ maxLen) (hn : ms.length ≤ 40) (hbase : base ≤ w.heap.size)
    (hnot : ∀ p, At ms nm p false → False) :
    Calls Try.prog 55 #[.slice (some ⟨g, 0, none⟩) ms.length c, .agg #[.string nm, .int .i64 st, .int .i64 lf, .int .i64 ad, .bool sv]] w fun e w' => ∃ v', e = .returned v' ∧ Own base w' v' (hearL ms ⟨nm, st, lf, ad, sv⟩) ∧ Below base w w' := by
  have HO : Hid (Own base w (.slice (some ⟨g, 0, none⟩) ms.length c) ms) := hown
  have HM : Hid (∀ i j, i ≤ j → j < ms.length → cmpI (ms.getD j dm).name nm < 0 → cmpI (ms.getD i dm).name nm < 0) := rise_mono hr nm
  have HS : Hid (∀ j, (ms.getD j dm).name.size ≤ maxLen) := hs
  clear hown hs hr
  have hb0 : Below w.heap.size w (w.alloc (.cells #[.string nm, .int .i64 st, .int .i64 lf, .int .i64 ad, .bool sv] 24)) := (Below.refl _ _).alloc (Nat.le_refl _) _
  have HO1 : Hid (Own base (w.alloc (.cells #[.string nm, .int .i64 st, .int .i64 lf, .int .i64 ad, .bool sv] 24)) (.slice (some ⟨g, 0, none⟩) ms.length c) ms) := HO.out.below hb0
  go_enter Try.func55, Try.ntmps55
  go_wp2_with fail
  refine (find_any ms _ _ _ (HO1.out.sl HS.out) hn HM.out).mono ?_
  rintro e w1 ⟨p, f, rfl, hbl, hat⟩
  have hf : f = true := by
    cases f
    · exact absurd hat (hnot p)
    · rfl
  subst hf
  have HA : Hid (At ms nm p true) := hat
  clear hat hnot
  obtain ⟨hbc, hbf⟩ := bcell hbl
  have hsz := hbl.size
  have hsz' : w.heap.size + 1 ≤ w1.heap.size := by simpa using hsz
  have HO2 : Hid (Own base w1 (.slice (some ⟨g, 0, none⟩) ms.length c) ms) := HO1.out.below hbl
  have HB : Hid (Below base w w1) := (hb0.mono hbase).trans (hbl.mono (by simp; omega))
  clear hb0
  have hp : p < ms.length := (HA.out.is.1 rfl).1
  have hgl := HO2.out.lt g rfl
  obtain ⟨b', off', hab, hgb, hrow⟩ : ∃ b off, (some ⟨g, 0, none⟩ : Option Addr) = some ⟨b, off, none⟩ ∧ b < w1.heap.size ∧ Row w1 b off ms := by
    obtain ⟨a, cap, h1, _, h2⟩ := HO2.out.sl HS.out
    simp only [Value.slice.injEq] at h1
    obtain ⟨rfl, _⟩ := h1
    rcases h2 with h2 | h2
    · rw [h2] at hp; simp at hp
    · exact h2
  simp only [Option.some.injEq, Addr.mk.injEq, and_true] at hab
  obtain ⟨rfl, rfl⟩ := hab
  obtain ⟨c0, c1, c2, c3, c4⟩ := hrow p hp
  clear hrow hgb
  simp only [Nat.zero_add] at c0 c1 c2 c3 c4
  generalize hm : ms.getD p dm = m2 at *
  have Hm : Hid (ms.getD p dm = m2) := hm
  clear hm
  obtain ⟨n2, s2, l2, a2, v2⟩ := m2
  simp only at c0 c1 c2 c3 c4
  have b0 := fun j => hbc w.heap.size j (by simp)
  have hfz : ∀ o, w1.frozen? ⟨g, o, none⟩ = false := fun o => World.ownsRow.frozenAt HO2.out o
  have hgl2 : g < w1.heap.size := hgl.2
  have hgl3 : g < w1.heap.size + 1 := by omega
  have hwl2 : w.heap.size < w1.heap.size := by omega
  have hwl3 : w.heap.size < w1.heap.size + 1 := by omega
  rcases hq : newB st lf ad sv s2 l2 a2 v2 with _ | _
  · go_wp2_with fail
    go_region_with (go_at_call 61; refine (newer_any _ _ _ _ _ _ _ _ _ _ _).mono ?_; rintro e w' ⟨rfl, rfl⟩; rw [hq])
    all_goals
      go_wp2_with fail
      go_ret
      refine ⟨_, rfl, ?_, ?_⟩
      · rw [hearL_at ms _ p true HA.out, if_pos rfl, Hm.out, if_neg (by simp [newM, hq])]
        exact HO2.out.below ((((Below.refl _ _).drew).alloc (by simp) _).alloc (by simp) _)
      · exact ((HB.out.drew).alloc (by simp; omega) _).alloc (by simp; omega) _
  · go_wp2_with fail
    go_region_with (go_at_call 61; refine (newer_any _ _ _ _ _ _ _ _ _ _ _).mono ?_; rintro e w' ⟨rfl, rfl⟩; rw [hq])
    all_goals
      go_wp2_with fail
      go_ret
      refine ⟨.slice (some ⟨g, 0, none⟩) ms.length c, rfl, ?_, ?_⟩
      · rw [hearL_at ms _ p true HA.out, if_pos rfl, Hm.out, if_pos (by simpa [newM] using hq)]
        exact (own_set5 HO2.out hp ⟨nm, st, lf, ad, sv⟩).below ((((Below.refl _ _).alloc (Nat.le_refl _) _).alloc (by simp) _).drew)
      · have h5 := ((((HB.out.setCell (p := ⟨g, p * 5, none⟩) hgl.1 (.string nm)).setCell (p := ⟨g, p * 5 + 1, none⟩) hgl.1 (.int .i64 st)).setCell (p := ⟨g, p * 5 + 2, none⟩) hgl.1 (.int .i64 lf)).setCell (p := ⟨g, p * 5 + 3, none⟩) hgl.1 (.int .i64 ad)).setCell (p := ⟨g, p * 5 + 4, none⟩) hgl.1 (.bool sv)
        exact ((h5.alloc (by simp; omega) _).alloc (by simp; omega) _).drew

theorem at_any (ms : List Mem) (hr : Rise ms) (nm : ByteArray) : ∃ p f, At ms nm p f := by
  induction ms with
  | nil => exact ⟨0, false, by simp, fun j h => by omega, fun j h h2 => by simp at h2, by simp⟩
  | cons x r ih =>
    have hx := List.pairwise_cons.1 hr
    by_cases hlt : cmpI x.name nm < 0
    · obtain ⟨p, f, h⟩ := ih hx.2
      refine ⟨p + 1, f, by have := h.le; simpa using this, fun j hj => ?_, fun j hj hl => ?_, by have := h.is; simpa using this⟩
      · cases j with
        | zero => simpa using hlt
        | succ j => have := h.lo j (by omega); simpa using this
      · cases j with
        | zero => omega
        | succ j => have := h.hi j (by omega) (by simpa using hl); simpa using this
    · refine ⟨0, decide (cmpI x.name nm = 0), by simp, fun j hj => by omega, fun j _ hl => ?_, by simp⟩
      apply Int.not_lt.1
      intro hq
      have := rise_mono hr nm 0 j (by omega) hl hq
      simp at this
      omega

theorem at_uniq {ms : List Mem} {nm : ByteArray} {p q : Nat} {f e : Bool} (h : At ms nm p f) (k : At ms nm q e) : p = q ∧ f = e := by
  have hpq : p = q := by
    rcases Nat.lt_trichotomy p q with hlt | rfl | hlt
    · have h1 := k.lo p hlt
      have h2 := h.hi p (Nat.le_refl _) (by have := k.le; omega)
      omega
    · rfl
    · have h1 := h.lo q hlt
      have h2 := k.hi q (Nat.le_refl _) (by have := h.le; omega)
      omega
  subst hpq
  refine ⟨rfl, ?_⟩
  rw [Bool.eq_iff_iff, h.is, k.is]

theorem learn_any (base : Nat) (v : Value) (ms : List Mem) (m : Mem) (w : World) (hown : Own base w v ms) (hr : Rise ms) (hs : ∀ j, (ms.getD j dm).name.size ≤ maxLen) (hn : ms.length ≤ 40) (hbase : base ≤ w.heap.size) :
    Calls Try.prog 55 #[v, .agg #[.string m.name, .int .i64 m.state, .int .i64 m.life, .int .i64 m.addr, .bool m.server]] w fun e w' => ∃ v', e = .returned v' ∧ Own base w' v' (hearL ms m) ∧ Below base w w' := by
  obtain ⟨p, f, hat⟩ := at_any ms hr m.name
  cases f
  · exact learn_new base v ms m.name m.state m.life m.addr m.server w hown hr hs hn hbase fun q hq => by have := (at_uniq hat hq).2; cases this
  · have hp := (hat.is.1 rfl).1
    rcases hown.2 with ⟨_, h0⟩ | ⟨g, c, cur, rfl, _⟩
    · omega
    · exact learn_old base g c ms m.name m.state m.life m.addr m.server w hown hr hs hn hbase fun q hq => by have := (at_uniq hat hq).2; cases this

end Go.Proofs.Ytonbaiaoelegaac
