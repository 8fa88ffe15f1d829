/- GKG6, RK1, GKG7, RC2, RC3 -/
import Derived.Test.YtkicpbomjpgjpaaGreatV17
import Derived.Test.YtkicpbomjpgjpaaGreatV1
import Derived.Test.YtkicpbomjpgjpaaGreatV16
import Derived.Test.YtkicpbomjpgjpaaGreatV13
/- The document's own Open; the law CentreOpens. -/
namespace Go.Proofs.YtkicpbomjpgjpaaGreat
namespace Gw
open Go.RowKit

theorem opn_e (ms : List Gwy) (p : Nat) (f : Bool) (name : ByteArray) (addr : Int) (hv : 0 ≤ (fnd ms p f).version) :
    (opn ms p f name addr).e = if labB name = true then (if within addr 0 4294967295 = true then (if (fnd ms p f).version + 1 ≤ 1000000 then 0 else 3) else 3) else 1 := by
  have h : (within ((fnd ms p f).version + 1) 1 1000000 = true) ↔ (fnd ms p f).version + 1 ≤ 1000000 := by simp [within]; omega
  show (if labB name = true then (if within addr 0 4294967295 = true then (if within ((fnd ms p f).version + 1) 1 1000000 = true then (0 : Int) else 3) else 3) else 1) = _
  by_cases h3 : (fnd ms p f).version + 1 ≤ 1000000
  · rw [if_pos (h.2 h3), if_pos h3]
  · rw [if_neg (fun e => h3 (h.1 e)), if_neg h3]

theorem opn_new {ms : List Gwy} {p : Nat} {f : Bool} {name : ByteArray} {addr : Int} (hf : f = true) : newE (opn ms p f name addr) (ms.getD p dm) = true := by
  rw [newE_def]
  have hv : (opn ms p f name addr).version = (ms.getD p dm).version + 1 := by
    show (fnd ms p f).version + 1 = _
    rw [fnd, if_pos hf]
  rw [if_neg (by omega)]
  exact decide_eq_true (by omega)

/-- The document's errno of Open, of gateways that are right. -/
def openE (ms : List Gwy) (p : Nat) (f : Bool) (name : ByteArray) (addr : Int) : Int :=
  if (opn ms p f name addr).e = 0 then (if 6 < (RL.put ms (opn ms p f name addr) p f).length then 2 else 0) else (opn ms p f name addr).e

theorem openE_join {ms : List Gwy} (h0 : chk ms = 0) {p : Nat} {f : Bool} {name : ByteArray} {addr : Int} (hat : At ms ⟨name, 0, 0⟩ p f) :
    joinE ms [opn ms p f name addr] = openE ms p f name addr ∧ joinL ms [opn ms p f name addr] = RL.put ms (opn ms p f name addr) p f := by
  have h1 : At ms (opn ms p f name addr) p f := at_key (by rfl) hat
  have h2 : joinL ms [opn ms p f name addr] = RL.put ms (opn ms p f name addr) p f := (put_hear h1 (fun hf => opn_new hf)).symm
  refine ⟨?_, h2⟩
  unfold openE
  by_cases he : (opn ms p f name addr).e = 0
  · rw [if_pos he, joinE_good h0 (by rw [chk_one]; exact he), h2]
  · rw [if_neg he, joinE_bad2 h0 (by rw [chk_one]; exact he), chk_one]

theorem put_ok {ms : List Gwy} {m : Gwy} {p : Nat} {f : Bool} (h : ∀ x ∈ ms, x.ok) (hm : m.ok) : ∀ x ∈ RL.put ms m p f, x.ok := fun x hx => by
  unfold RL.put at hx
  rcases List.mem_append.1 hx with hx | hx
  · exact h x (List.mem_of_mem_take hx)
  · rcases List.mem_cons.1 hx with rfl | hx
    · exact hm
    · exact h x (List.mem_of_mem_drop hx)

set_option maxHeartbeats 3200000 in
set_option maxRecDepth 100000 in
theorem refOpen_any (ms : List Gwy) (v : Value) (name : ByteArray) (addr : Int) (w : World) (hv : Sl w v ms) (h0 : chk ms = 0) (hs : name.size ≤ maxLen) (p : Nat) (f : Bool) (hat : At ms ⟨name, 0, 0⟩ p f) :
    Calls Tryz.prog 19 #[v, .string name, .int .i64 addr] w fun e w' => ∃ v', e = .returned (.tuple #[v', .int .i64 (openE ms p f name addr)]) ∧ Below w.heap.size w w' ∧ Hid (openE ms p f name addr = 0 → Sl w' v' (RL.put ms (opn ms p f name addr) p f)) := by
  have hz := chk_zero h0
  have hlen := hz.1
  have hver := fnd_ver hz.2.2 hat
  have HD : Hid ((opn ms p f name addr).e = if labB name = true then (if within addr 0 4294967295 = true then (if (fnd ms p f).version + 1 ≤ 1000000 then 0 else 3) else 3) else 1) := opn_e ms p f name addr hver.1
  have HAT : Hid (At ms ⟨name, 0, 0⟩ p f) := hat
  have HR : Hid (Rise ms) := hz.2.1
  have HG : Hid (opn ms p f name addr = ⟨name, addr, (fnd ms p f).version + 1⟩) := rfl
  have HA1 : Hid (At ms (opn ms p f name addr) p f) := at_key (by rfl) hat
  have HOK : Hid (∀ m ∈ RL.put ms (opn ms p f name addr) p f, m.ok) := put_ok (sl_ok hv) hs
  have HE : Hid (openE ms p f name addr = if (opn ms p f name addr).e = 0 then (if 6 < (RL.put ms (opn ms p f name addr) p f).length then 2 else 0) else (opn ms p f name addr).e) := rfl
  have hpl : (RL.put ms (opn ms p f name addr) p f).length ≤ 7 := by
    have h := RL.put_len ord dm HA1.out
    rw [h]; split <;> omega
  have HPT : Hid (∀ W, Sl W v ms → Calls Tryz.prog 51 #[v, .agg #[.string name, .int .i64 addr, .int .i64 ((fnd ms p f).version + 1)]] W fun e w' => ∃ v', e = .returned v' ∧ Own (W.heap.size + 1) w' v' (RL.put ms (opn ms p f name addr) p f) ∧ Below W.heap.size W w') := fun W hW => refPut_any ms v (opn ms p f name addr) W hW (by omega) HR.out p f HA1.out
  have HV : Hid (Sl w v ms) := hv
  have HFT : Hid (f = true → fnd ms p f = ms.getD p dm) := fun h => if_pos h
  have HFF : Hid (f = false → (fnd ms p f).version = 0) := fun h => by show (fnd ms p f).version = 0; rw [fnd, if_neg (by rw [h]; exact Bool.false_ne_true)]; rfl
  generalize openE ms p f name addr = oe at *
  generalize RL.put ms (opn ms p f name addr) p f = pl at *
  generalize (opn ms p f name addr).e = ge at *
  generalize hvv : (fnd ms p f).version = V at *
  have HVV : Hid ((fnd ms p f).version = V) := hvv
  obtain ⟨hv0, hv1⟩ := hver
  clear hv h0 hz hat hvv HG HA1
  generalize hpn : pl.length = np at *
  have HPN : Hid (pl.length = np) := hpn
  clear hpn
  rcases hl : labB name with _ | _
  · have HO : Hid (oe = 1) := (show oe = 1 by rw [HE.out, HD.out, hl]; rfl)
    go_enter Tryz.func19, Tryz.ntmps19
    go_wp2_with (go_at_call 47; refine (isLabel_any _ _ hs).mono ?_; rintro e w' ⟨rfl, rfl⟩; rw [hl])
    go_ret2
    exact ⟨_, by rw [HO.out]; rfl, Below.refl _ _, fun h => by rw [HO.out] at h; cases h⟩
  · have HEA : Hid (within addr 0 4294967295 = false → oe = 3) := fun h => by show oe = 3; rw [HE.out, HD.out, hl, h]; rfl
    have HEV : Hid (within addr 0 4294967295 = true → ¬ V + 1 ≤ 1000000 → oe = 3) := fun h h2 => by show oe = 3; rw [HE.out, HD.out, hl, h, if_pos rfl, if_pos rfl, if_neg h2]; rfl
    have HEO : Hid (within addr 0 4294967295 = true → V + 1 ≤ 1000000 → oe = if 6 < np then 2 else 0) := fun h h2 => by show oe = _; rw [HE.out, HD.out, hl, h, if_pos rfl, if_pos rfl, if_pos h2, if_pos rfl]
    clear HE HD
    have hb0 : Below w.heap.size w (w.alloc (.cells #[.string name, .int .i64 addr, .int .i64 1] 62)) := (Below.refl _ _).alloc (Nat.le_refl _) _
    have HV0 : Hid (Sl (w.alloc (.cells #[.string name, .int .i64 addr, .int .i64 1] 62)) v ms) := HV.out.below hb0
    go_enter Tryz.func19, Tryz.ntmps19
    go_wp2_with (go_at_call 47; refine (isLabel_any _ _ hs).mono ?_; rintro e w' ⟨rfl, hw⟩; have hw' := hw.symm; clear hw; subst hw'; rw [hl])
    refine (refAt_any ms _ name _ HV0.out (by omega)).mono ?_
    rintro e w1 ⟨r, rfl, hI, hw⟩
    have hrp := atI_at (t := ⟨name, 0, 0⟩) hI.out HAT.out HR.out
    subst hw
    clear hI
    cases f
    · have hr1 : r = -1 := hrp.2 rfl
      subst hr1
      have hV0 : V = 0 := HFF.out rfl
      subst hV0
      have HBZ : Hid (Below w.heap.size w (w.alloc (.cells #[.string name, .int .i64 addr, .int .i64 1] 62))) := hb0
      clear hb0 hrp
      rcases ha : within addr 0 4294967295 with _ | _
      · have HO : Hid (oe = 3) := HEA.out ha
        go_wp2_with (go_at_call 48; refine (isAddress_any _ _).mono ?_; rintro e w' ⟨rfl, rfl⟩; rw [ha])
        go_ret2
        exact ⟨_, by rw [HO.out]; rfl, HBZ.out, fun h => by rw [HO.out] at h; cases h⟩
      · have HO : Hid (oe = if 6 < np then 2 else 0) := HEO.out ha (by omega)
        go_wp2_with (go_at_call 48; refine (isAddress_any _ _).mono ?_; rintro e w' ⟨rfl, rfl⟩; rw [ha])
        refine (HPT.out _ HV0.out).mono ?_
        rintro e w2 ⟨v2, rfl, g1, g2⟩
        have HBX : Hid (Below w.heap.size w w2) := HBZ.out.trans (g2.mono (by simp))
        have HSX : Hid (Sl w2 v2 pl) := own_names g1 HOK.out
        clear g1 g2
        obtain ⟨p2, c2, hv2, _⟩ := HSX.out
        rw [HPN.out] at hv2
        subst hv2
        by_cases h6 : 6 < np
        · go_wp2_with fail
          go_ret2
          exact ⟨_, by rw [HO.out, if_pos h6]; rfl, HBX.out, fun h => by rw [HO.out, if_pos h6] at h; cases h⟩
        · go_wp2_with fail
          go_ret2
          exact ⟨_, by rw [HO.out, if_neg h6]; rfl, HBX.out, fun _ => HSX.out⟩
    · have hr1 : r = (p : Int) := hrp.1 rfl
      subst hr1
      have hp : p < ms.length := (HAT.out.is.1 rfl).1
      obtain ⟨pa, ca, hva, _, hrow⟩ := HV0.out
      subst hva
      obtain ⟨b3, o3, hp3, hl3, hr3⟩ : ∃ b_1 off, pa = some ⟨b_1, off, none⟩ ∧ b_1 < w.heap.size ∧ Row w b_1 off ms := by
        obtain ⟨pa2, ca2, h1, _, h2⟩ := HV.out
        simp only [Value.slice.injEq] at h1
        obtain ⟨rfl, _, _⟩ := h1
        rcases h2 with h | h
        · rw [h] at hp; simp at hp
        · exact h
      subst hp3
      clear hrow
      have hr3' : Row (w.alloc (.cells #[.string name, .int .i64 addr, .int .i64 1] 62)) b3 o3 ms := hr3.later hb0 hl3
      obtain ⟨_, _, d2⟩ := hr3' p hp
      have hxv : (ms.getD p dm).version = V := by rw [← HFT.out rfl]; exact HVV.out
      rw [hxv] at d2
      have HBZ : Hid (Below w.heap.size w (w.alloc (.cells #[.string name, .int .i64 addr, .int .i64 (V + 1)] 62))) := (Below.refl _ _).alloc (Nat.le_refl _) _
      have HVZ : Hid (Sl (w.alloc (.cells #[.string name, .int .i64 addr, .int .i64 (V + 1)] 62)) (.slice (some ⟨b3, o3, none⟩) ms.length ca) ms) := HV.out.below HBZ.out
      clear hb0 hrp hr3 hr3' hxv
      rcases ha : within addr 0 4294967295 with _ | _
      · have HO : Hid (oe = 3) := HEA.out ha
        go_wp2_with (go_at_call 48; refine (isAddress_any _ _).mono ?_; rintro e w' ⟨rfl, rfl⟩; rw [ha])
        go_ret2
        exact ⟨_, by rw [HO.out]; rfl, HBZ.out, fun h => by rw [HO.out] at h; cases h⟩
      · by_cases hbig : V + 1 ≤ 1000000
        · have HO : Hid (oe = if 6 < np then 2 else 0) := HEO.out ha hbig
          go_wp2_with (go_at_call 48; refine (isAddress_any _ _).mono ?_; rintro e w' ⟨rfl, rfl⟩; rw [ha])
          refine (HPT.out _ HVZ.out).mono ?_
          rintro e w2 ⟨v2, rfl, g1, g2⟩
          have HBX : Hid (Below w.heap.size w w2) := HBZ.out.trans (g2.mono (by simp))
          have HSX : Hid (Sl w2 v2 pl) := own_names g1 HOK.out
          clear g1 g2
          obtain ⟨p2, c2, hv2, _⟩ := HSX.out
          rw [HPN.out] at hv2
          subst hv2
          by_cases h6 : 6 < np
          · go_wp2_with fail
            go_ret2
            exact ⟨_, by rw [HO.out, if_pos h6]; rfl, HBX.out, fun h => by rw [HO.out, if_pos h6] at h; cases h⟩
          · go_wp2_with fail
            go_ret2
            exact ⟨_, by rw [HO.out, if_neg h6]; rfl, HBX.out, fun _ => HSX.out⟩
        · have HO : Hid (oe = 3) := HEV.out ha (by omega)
          go_wp2_with (go_at_call 48; refine (isAddress_any _ _).mono ?_; rintro e w' ⟨rfl, rfl⟩; rw [ha])
          go_ret2
          exact ⟨_, by rw [HO.out]; rfl, HBZ.out, fun h => by rw [HO.out] at h; cases h⟩

end Gw
end Go.Proofs.YtkicpbomjpgjpaaGreat

/- Lists of routes in memory. -/
namespace Go.Proofs.YtkicpbomjpgjpaaGreat
namespace Rt
open Go.RowKit

structure Rte where
  centre : ByteArray
  addr : Int

def dm : Rte := ⟨ByteArray.empty, 0⟩
/-- Its texts are no longer than texts may be. -/
def Rte.ok (m : Rte) : Prop := m.centre.size ≤ maxLen
theorem dm_ok : dm.ok := by simp [Rte.ok, dm]

def Row (w : World) (b off : Nat) (ms : List Rte) : Prop := ∀ j, j < ms.length →
  w.cell? ⟨b, off + j * 2, none⟩ = some (.string (ms.getD j dm).centre) ∧ w.cell? ⟨b, off + j * 2 + 1, none⟩ = some (.int .i64 (ms.getD j dm).addr)

/-- A slice's value, and what it holds in a world. -/
def Sl (w : World) (v : Value) (ms : List Rte) : Prop :=
  ∃ (a : Option Addr) (cap : Nat), v = .slice a ms.length cap ∧ (∀ j, (ms.getD j dm).ok) ∧
    (ms = [] ∨ ∃ b off, a = some ⟨b, off, none⟩ ∧ b < w.heap.size ∧ Row w b off ms)

def Rte.cs (m : Rte) : List Value := [.string m.centre, .int .i64 m.addr]
def fl (ms : List Rte) : List Value := ms.flatMap Rte.cs

theorem cs_len (m : Rte) : m.cs.length = 2 := rfl
theorem fl_cons (m : Rte) (r : List Rte) : fl (m :: r) = m.cs ++ fl r := by simp [fl]
theorem fl_append (a b : List Rte) : fl (a ++ b) = fl a ++ fl b := by simp [fl]
theorem fl_len : ∀ ms : List Rte, (fl ms).length = ms.length * 2
  | [] => rfl
  | m :: r => by rw [fl_cons, List.length_append, fl_len r, cs_len, List.length_cons]; omega
theorem fl_take : ∀ (ms : List Rte) (i : Nat), (fl ms).take (i * 2) = fl (ms.take i)
  | [], i => by simp [fl]
  | m :: r, 0 => by simp [fl]
  | m :: r, i + 1 => by
    rw [fl_cons, List.take_succ_cons, fl_cons, show (i + 1) * 2 = m.cs.length + i * 2 by rw [cs_len]; omega, List.take_length_add_append, fl_take r i]
theorem fl_drop : ∀ (ms : List Rte) (i : Nat), (fl ms).drop (i * 2) = fl (ms.drop i)
  | [], i => by simp [fl]
  | m :: r, 0 => by simp
  | m :: r, i + 1 => by
    rw [fl_cons, List.drop_succ_cons, show (i + 1) * 2 = m.cs.length + i * 2 by rw [cs_len]; omega, List.drop_length_add_append, fl_drop r i]
theorem cs_one (m : Rte) : ∀ v ∈ m.cs, v.oneCell' = true := by
  intro v hv; simp [Rte.cs] at hv; rcases hv with rfl | rfl <;> rfl
theorem fl_one (ms : List Rte) : ∀ v ∈ fl ms, v.oneCell' = true := by
  intro v hv
  obtain ⟨m, _, h⟩ := List.mem_flatMap.1 hv
  exact cs_one m v h
theorem fl_get (ms : List Rte) (j : Nat) (hj : j < ms.length) (t : Nat) (ht : t < 2) : (fl ms)[j * 2 + t]? = (ms.getD j dm).cs[t]? := by
  induction ms generalizing j with
  | nil => simp at hj
  | cons m r ih =>
    rw [fl_cons]
    cases j with
    | zero => rw [List.getElem?_append_left (by rw [cs_len]; omega)]; simp
    | succ j =>
      rw [List.getElem?_append_right (by rw [cs_len]; omega), cs_len, show (j + 1) * 2 + t - 2 = j * 2 + t by omega, ih j (by simpa using hj)]
      simp
theorem fl_set (ms : List Rte) (p : Nat) (hp : p < ms.length) (m : Rte) : (((fl ms).set (p * 2) (.string m.centre)).set (p * 2 + 1) (.int .i64 m.addr)) = fl (ms.set p m) := by
  induction ms generalizing p with
  | nil => simp at hp
  | cons x r ih =>
    cases p with
    | zero => simp [fl, Rte.cs]
    | succ p =>
      have ih' := ih p (by simpa using hp)
      rw [List.set_cons_succ, fl_cons, fl_cons, ← ih']
      simp only [Nat.add_mul, Nat.one_mul]
      have e : ∀ (l : List Value) (k : Nat) (v : Value), (x.cs ++ l).set (k + 2) v = x.cs ++ l.set k v := fun l k v => by
        rw [List.set_append, if_neg (by rw [cs_len]; omega), cs_len, Nat.add_sub_cancel]
      have c : ∀ i : Nat, p * 2 + 2 + i = (p * 2 + i) + 2 := fun i => by omega
      simp only [c]
      rw [e, e]

abbrev Own (base : Nat) (w : World) (v : Value) (ms : List Rte) : Prop := w.ownsRow base 51 2 v ms.length (fl ms)

theorem own_of {base g G : Nat} {w : World} {cur : Array Value} {ms : List Rte} (hb : base ≤ g) (hg : w.heap[g]? = some (.cells cur 51 (0, 0))) (hs : cur.size = G * 2) (hn : ms.length ≤ G) (hG : G ≤ maxLen) (ht : cur.toList.take (ms.length * 2) = fl ms) :
    Own base w (.slice (some ⟨g, 0, none⟩) ms.length G) ms := ⟨fl_len ms, .inr ⟨g, G, cur, rfl, hb, hg, hn, hG, hs, ht⟩⟩

/-- What a call owns is a slice as any. -/
theorem Own.sl {base : Nat} {w : World} {v : Value} {ms : List Rte} (h : Own base w v ms) (hs : ∀ j, (ms.getD j dm).ok) : Sl w v ms := by
  rcases h.2 with ⟨rfl, h0⟩ | ⟨g, c, cur, rfl, hbg, hg, hnc, hcm, hcs, htake⟩
  · exact ⟨none, 0, by rw [h0], hs, .inl (List.eq_nil_of_length_eq_zero h0)⟩
  · refine ⟨_, c, rfl, hs, .inr ⟨g, 0, rfl, (Array.getElem?_eq_some_iff.1 hg).1, fun j hj => ?_⟩⟩
    have hc : ∀ t, t < 2 → w.cell? ⟨g, 0 + j * 2 + t, none⟩ = (ms.getD j dm).cs[t]? := fun t ht => by
      rw [cellsAt hg, ← fl_get ms j hj t ht, ← htake, List.getElem?_take_of_lt (by omega)]; simp
    exact ⟨hc 0 (by omega), hc 1 (by omega)⟩

theorem Own.below {base : Nat} {w w' : World} {v : Value} {ms : List Rte} (h : Own base w v ms) (hb : Below w.heap.size w w') : Own base w' v ms := by
  rcases h.2 with ⟨rfl, h0⟩ | ⟨g, c, cur, rfl, hbg, hg, hnc, hcm, hcs, htake⟩
  · exact ⟨h.1, .inl ⟨rfl, h0⟩⟩
  · have hlt : g < w.heap.size := (Array.getElem?_eq_some_iff.1 hg).1
    exact ⟨h.1, .inr ⟨g, c, cur, rfl, hbg, (hb.block g hlt).trans hg, hnc, hcm, hcs, htake⟩⟩

theorem Own.lt {base : Nat} {w : World} {v : Value} {ms : List Rte} (h : Own base w v ms) (k : Nat) (hk : v.ownBlock = some k) : base ≤ k ∧ k < w.heap.size := World.ownsRow.lt h k hk

theorem below_grown {base : Nat} {w w1 w2 : World} {v : Value} {ms : List Rte} (hb : Below base w w1) (h : Own base w1 v ms) (hg : w1.grownBy w2 v.ownBlock) (hbase : base ≤ w1.heap.size) : Below base w w2 :=
  hb.grown hg hbase (fun k hk => (h.lt k hk).1)

theorem own_cells {base g c : Nat} {w : World} {ms : List Rte} (h : Own base w (.slice (some ⟨g, 0, none⟩) ms.length c) ms) (j : Nat) (hj : j < ms.length) :
    w.cell? ⟨g, j * 2, none⟩ = some (.string (ms.getD j dm).centre) ∧ w.cell? ⟨g, j * 2 + 1, none⟩ = some (.int .i64 (ms.getD j dm).addr) := by
  rcases h.2 with ⟨h1, _⟩ | ⟨g', c', cur, h1, hbg, hg, hnc, hcm, hcs, htake⟩
  · cases h1
  · simp only [Value.slice.injEq, Option.some.injEq, Addr.mk.injEq] at h1
    obtain ⟨⟨rfl, _, _⟩, _, _⟩ := h1
    have hc : ∀ t, t < 2 → w.cell? ⟨g, j * 2 + t, none⟩ = (ms.getD j dm).cs[t]? := fun t ht => by
      rw [cellsAt hg, ← fl_get ms j hj t ht, ← htake, List.getElem?_take_of_lt (by omega)]; simp
    exact ⟨hc 0 (by omega), hc 1 (by omega)⟩

theorem own_form {base : Nat} {w : World} {v : Value} {ms : List Rte} (h : Own base w v ms) (p : Nat) (hp : p < ms.length) : ∃ g c, v = .slice (some ⟨g, 0, none⟩) ms.length c := by
  rcases h.2 with ⟨_, h0⟩ | ⟨g, c, cur, h1, _⟩
  · omega
  · exact ⟨g, c, h1⟩

theorem own_set {base g c p : Nat} {W : World} {ms : List Rte} (h : Own base W (.slice (some ⟨g, 0, none⟩) ms.length c) ms) (hp : p < ms.length) (m : Rte) :
    Own base ((W.setCell ⟨g, p * 2, none⟩ (.string m.centre)).setCell ⟨g, p * 2 + 1, none⟩ (.int .i64 m.addr)) (.slice (some ⟨g, 0, none⟩) ms.length c) (ms.set p m) := by
  have h1 := World.ownsRow.stored h (p * 2) (.string m.centre)
  have h2 := World.ownsRow.stored h1.1 (p * 2 + 1) (.int .i64 m.addr)
  have e := h2.1
  rw [fl_set ms p hp m] at e
  show World.ownsRow _ _ _ _ _ (ms.set p m).length _
  rw [List.length_set]
  exact e

theorem Sl.below {w w' : World} {v : Value} {ms : List Rte} (h : Sl w v ms) (hb : Below w.heap.size w w') : Sl w' v ms := by
  obtain ⟨a, cap, rfl, hs, h⟩ := h
  refine ⟨a, cap, rfl, hs, ?_⟩
  rcases h with h | ⟨b, off, rfl, hlt, hr⟩
  · exact .inl h
  · refine .inr ⟨b, off, rfl, Nat.lt_of_lt_of_le hlt hb.size, fun j hj => ?_⟩
    obtain ⟨hc, _⟩ := bcell hb
    obtain ⟨c0, c1⟩ := hr j hj
    exact ⟨(hc _ _ hlt).trans c0, (hc _ _ hlt).trans c1⟩

theorem Row.later {w w' : World} {b off : Nat} {ms : List Rte} (hr : Row w b off ms) (hb : Below w.heap.size w w') (hlt : b < w.heap.size) : Row w' b off ms := fun j hj => by
  obtain ⟨hc, _⟩ := bcell hb
  obtain ⟨c0, c1⟩ := hr j hj
  exact ⟨(hc _ _ hlt).trans c0, (hc _ _ hlt).trans c1⟩

theorem Own.mono {base base' : Nat} {w : World} {v : Value} {ms : List Rte} (h : Own base w v ms) (hb : base' ≤ base) : Own base' w v ms := by
  rcases h.2 with ⟨rfl, h0⟩ | ⟨g, c, cur, rfl, hbg, hg, hnc, hcm, hcs, htake⟩
  · exact ⟨h.1, .inl ⟨rfl, h0⟩⟩
  · exact ⟨h.1, .inr ⟨g, c, cur, rfl, Nat.le_trans hb hbg, hg, hnc, hcm, hcs, htake⟩⟩

theorem own_nil (base : Nat) (w : World) : Own base w (.slice none 0 0) [] := World.ownsRow_nil w base 51 2

theorem ns_mem {ms : List Rte} (h : ∀ j, (ms.getD j dm).ok) : ∀ m ∈ ms, (m).ok := by
  intro m hm
  obtain ⟨j, hj, rfl⟩ := List.getElem_of_mem hm
  have := h j
  simpa [List.getD, List.getElem?_eq_getElem hj] using this
theorem ns_get {ms : List Rte} (h : ∀ m ∈ ms, (m).ok) : ∀ j, (ms.getD j dm).ok := by
  intro j
  by_cases hj : j < ms.length
  · have := h ms[j] (List.getElem_mem hj)
    simpa [List.getD, List.getElem?_eq_getElem hj] using this
  · rw [List.getD, List.getElem?_eq_none (Nat.le_of_not_lt hj)]; exact dm_ok

theorem own_names {base : Nat} {w : World} {v : Value} {ms : List Rte} (h : Own base w v ms) (hs : ∀ m ∈ ms, (m).ok) : Sl w v ms := h.sl (ns_get hs)

theorem sl_one (w : World) (b cap : Nat) (m : Rte) (hm : (m).ok) (hg : w.heap[b]? = some (.cells #[.string m.centre, .int .i64 m.addr] 51 (0, 0))) : Sl w (.slice (some ⟨b, 0, none⟩) 1 cap) [m] := by
  refine ⟨_, cap, rfl, ns_get (fun x hx => by simp at hx; subst hx; exact hm), .inr ⟨b, 0, rfl, (Array.getElem?_eq_some_iff.1 hg).1, fun j hj => ?_⟩⟩
  have : j = 0 := by simpa using hj
  subst this
  exact ⟨cellsAt hg (0 + 0 * 2), cellsAt hg (0 + 0 * 2 + 1)⟩

theorem own_snoc {base : Nat} {w : World} {v : Value} {L : List Rte} {m : Rte} (h : w.ownsRow base 51 2 v (L.length + 1) (fl L ++ m.cs)) : Own base w v (L ++ [m]) := by
  have e : fl (L ++ [m]) = fl L ++ m.cs := by rw [fl_append, fl_cons]; simp [fl]
  show w.ownsRow base 51 2 v (L ++ [m]).length (fl (L ++ [m]))
  rw [e, List.length_append]
  exact h

end Rt
end Go.Proofs.YtkicpbomjpgjpaaGreat

/- Table of routes. -/
namespace Go.Proofs.YtkicpbomjpgjpaaGreat
namespace Gw
open Go.RowKit

theorem Tryz.infoRt : (Tryz.prog.info? 51).map (fun i => (i.zero, i.size, i.bytes)) = some (some (.agg #[.string ⟨#[]⟩, .int .i64 0]), 2, 24) := by kernel_rfl

/-- F3: the routes to all centres but the one that is here. -/
def tableL (ms : List Gwy) (here : ByteArray) : List Rt.Rte := (ms.filter fun g => !(g.centre.toList == here.toList)).map fun g => ⟨g.centre, g.addr⟩

theorem tableL_yes {ms : List Gwy} {here : ByteArray} {k : Nat} (hk : k < ms.length) (h : ((ms.getD k dm).centre.toList == here.toList) = false) : tableL (ms.take (k + 1)) here = tableL (ms.take k) here ++ [⟨(ms.getD k dm).centre, (ms.getD k dm).addr⟩] := by
  rw [RL.getD_el dm hk] at h ⊢
  rw [tableL, tableL, List.take_succ_eq_append_getElem hk, List.filter_append, List.filter_cons_of_pos (by rw [h]; rfl)]
  simp
theorem tableL_no {ms : List Gwy} {here : ByteArray} {k : Nat} (hk : k < ms.length) (h : ((ms.getD k dm).centre.toList == here.toList) = true) : tableL (ms.take (k + 1)) here = tableL (ms.take k) here := by
  rw [RL.getD_el dm hk] at h
  rw [tableL, tableL, List.take_succ_eq_append_getElem hk, List.filter_append, List.filter_cons_of_neg (by rw [h]; exact Bool.false_ne_true)]
  simp
theorem tableL_len (ms : List Gwy) (here : ByteArray) : (tableL ms here).length ≤ ms.length := by
  unfold tableL; rw [List.length_map]; exact List.length_filter_le _ _

set_option maxHeartbeats 400000 in
theorem table_bad (ms : List Gwy) (v : Value) (here : ByteArray) (w : World) (hv : Sl w v ms) (hne : chk ms ≠ 0) :
    Calls Tryz.prog 9 #[v, .string here] w fun e w' => e = .returned (.tuple #[.slice none 0 0, .int .i64 (chk ms)]) ∧ Below w.heap.size w w' := by
  have he : (chk ms != 0) = true := by simpa using hne
  have HV : Hid (Sl w v ms) := hv
  clear hne hv
  go_enter Tryz.func9, Tryz.ntmps9
  go_wp2_with (go_at_call 31; refine (check_any ms _ _ HV.out).mono ?_; rintro e w' ⟨rfl, hb2⟩)
  go_ret2
  exact ⟨rfl, hb2⟩

set_option maxHeartbeats 400000 in
theorem table_form (ms : List Gwy) (v : Value) (here : ByteArray) (w : World) (hv : Sl w v ms) (h0 : chk ms = 0) (hs : here.size ≤ maxLen) (hl : labB here = false) :
    Calls Tryz.prog 9 #[v, .string here] w fun e w' => e = .returned (.tuple #[.slice none 0 0, .int .i64 1]) ∧ Below w.heap.size w w' := by
  have he : (chk ms != 0) = false := by simpa using h0
  have HV : Hid (Sl w v ms) := hv
  clear h0 hv
  go_enter Tryz.func9, Tryz.ntmps9
  go_wp2_with (first | (go_at_call 31; refine (check_any ms _ _ HV.out).mono ?_; rintro e w' ⟨rfl, hb2⟩) | (go_at_call 29; refine (label_any _ _ hs).mono ?_; rintro e w' ⟨rfl, rfl⟩; rw [hl]))
  go_ret2
  exact ⟨rfl, hb2⟩

set_option maxHeartbeats 3200000 in
set_option maxRecDepth 100000 in
theorem table_good (ms : List Gwy) (v : Value) (here : ByteArray) (w : World) (hv : Sl w v ms) (h0 : chk ms = 0) (hs : here.size ≤ maxLen) (hl : labB here = true) :
    Calls Tryz.prog 9 #[v, .string here] w fun e w' => ∃ v', e = .returned (.tuple #[v', .int .i64 0]) ∧ Rt.Own w.heap.size w' v' (tableL ms here) ∧ Below w.heap.size w w' := by
  obtain ⟨i0, hi0, hz0, hzs, hzb⟩ := info_parts Tryz.infoRt
  have he : (chk ms != 0) = false := by simpa using h0
  have hlen := (chk_zero h0).1
  have HV : Hid (Sl w v ms) := hv
  obtain ⟨pa, ca, rfl, _, ha⟩ := hv
  have HA : Hid (ms = [] ∨ ∃ b off, pa = some ⟨b, off, none⟩ ∧ b < w.heap.size ∧ Row w b off ms) := ha
  clear ha h0
  generalize hna : ms.length = n at *
  have HN : Hid (ms.length = n) := hna
  clear hna
  go_enter Tryz.func9, Tryz.ntmps9
  go_wp2_with (first | (go_at_call 31; refine (check_any ms _ _ HV.out).mono ?_; rintro e w1 ⟨rfl, hb1⟩) | (go_at_call 29; refine (label_any _ _ hs).mono ?_; rintro e w' ⟨rfl, rfl⟩; rw [hl]))
  have HB1 : Hid (Below w.heap.size w _) := hb1
  have hs1 := hb1.size
  clear hb1 HV
  go_loopw [7, 20] (fun kn i w' => ∃ k : Nat, k ≤ n ∧ i = .int .i64 k ∧ Below w.heap.size w w' ∧ Hid (Rt.Own w.heap.size w' kn (tableL (ms.take k) here))) (fun _ i _ => n - (intOf i).toNat)
  case atStart => exact ⟨0, Nat.zero_le _, rfl, HB1.out, Rt.own_nil _ _⟩
  case round =>
    obtain ⟨k, hk, rfl, hbl, HO⟩ := hrel
    obtain ⟨hbc, hbf⟩ := bcell hbl
    have hsz := hbl.size
    have hll2 : (tableL (ms.take k) here).length ≤ 6 := by have h1 := tableL_len (ms.take k) here; have h2 : (ms.take k).length ≤ k := List.length_take_le _ _; omega
    by_cases hlt : k < n
    · obtain ⟨b1, o1, hp1, hl1, hr1⟩ : ∃ b off, pa = some ⟨b, off, none⟩ ∧ b < w.heap.size ∧ Row w b off ms := by
        rcases HA.out with h | h
        · have := HN.out; rw [h] at this; simp at this; omega
        · exact h
      subst hp1
      obtain ⟨c0, c1, c2⟩ := hr1 k (by rw [HN.out]; exact hlt)
      clear hr1
      have hkl : k < ms.length := by rw [HN.out]; exact hlt
      have HY : Hid (((ms.getD k dm).centre.toList == here.toList) = false → tableL (ms.take (k + 1)) here = tableL (ms.take k) here ++ [⟨(ms.getD k dm).centre, (ms.getD k dm).addr⟩]) := fun h => tableL_yes hkl h
      have HNO : Hid (((ms.getD k dm).centre.toList == here.toList) = true → tableL (ms.take (k + 1)) here = tableL (ms.take k) here) := fun h => tableL_no hkl h
      generalize ms.getD k dm = m at *
      rcases hc : (m.centre.toList == here.toList) with _ | _
      · have HST : Hid (tableL (ms.take (k + 1)) here = tableL (ms.take k) here ++ [⟨m.centre, m.addr⟩]) := HY.out hc
        have hc2 : ¬ m.centre.toList = here.toList := by simpa using hc
        clear HY HNO
        generalize tableL (ms.take k) here = L at *
        go_wp2_with (at_builtin; refine wpList_append_own _ rfl _ _ 32 rfl w.heap.size 51 i0 _ 2 24 Tryz.underlying32 hi0 hz0 hzs hzb rfl (by omega) _ L.length (Rt.fl L) rfl ?hown ⟨wr.heap.size + 1, 0, none⟩ 1 1 (Rt.Rte.mk m.centre m.addr).cs rfl rfl ?hnews (Rt.cs_one _) ?h63 ?hbytes ?hbase ?_)
        case hown => exact HO.out.below (((Below.refl _ _).alloc (Nat.le_refl _) _).alloc (by simp) _)
        case hnews => (intro j u hj; rw [Addr.add_lit]; exact (cell_topL (by simp)).trans (by simpa [Rt.Rte.cs] using hj))
        case h63 => (unfold maxLen; omega)
        case hbytes => omega
        case hbase => (simp; omega)
        intro v' w2 r1 r2 r3
        have HBX : Hid (Below w.heap.size w w2) := ((hbl.alloc hsz _).alloc (by simp; omega) _).grown r2 (by simp; omega) (fun j hj => (HO.out.lt j hj).1)
        have HOX : Hid (Rt.Own w.heap.size w2 v' (L ++ [⟨m.centre, m.addr⟩])) := Rt.own_snoc r1
        clear r1 r2 r3
        go_wp2_with fail
        go_roundw
        case rel => exact ⟨k + 1, by omega, by go_num, HBX.out, by rw [HST.out]; exact HOX.out⟩
        case measure => simp [intOf]; omega
      · have HST : Hid (tableL (ms.take (k + 1)) here = tableL (ms.take k) here) := HNO.out hc
        have hc2 : m.centre.toList = here.toList := by simpa using hc
        clear HY HNO
        go_wp2_with fail
        go_roundw
        case rel => exact ⟨k + 1, by omega, by go_num, hbl.alloc hsz _, by rw [HST.out]; exact HO.out.below ((Below.refl _ _).alloc (Nat.le_refl _) _)⟩
        case measure => simp [intOf]; omega
    · have hkn : k = n := by omega
      subst hkn
      have HFO : Hid (Rt.Own w.heap.size wr u7 (tableL ms here)) := by
        have h := HO.out
        rw [List.take_of_length_le (by rw [HN.out]; exact Nat.le_refl _)] at h
        exact h
      go_wp2_with fail
      go_ret2
      exact ⟨u7, rfl, HFO.out, hbl⟩

end Gw
end Go.Proofs.YtkicpbomjpgjpaaGreat

/- RestCatalogs: what is asked for is new; and what the document answers. -/
namespace Go.Proofs.YtkicpbomjpgjpaaGreat
open Go.RowKit

theorem Sv.own_slice {B : Nat} {w : World} {v : Value} {ms : List Sv.Svc} (h : Sv.Own B w v ms) : ∃ p c, v = .slice p ms.length c := by
  rcases h.2 with ⟨hv, h0⟩ | ⟨_, c, _, hv, _⟩
  · exact ⟨none, 0, by rw [hv, h0]⟩
  · exact ⟨_, c, hv⟩
theorem Gw.own_slice {B : Nat} {w : World} {v : Value} {ms : List Gw.Gwy} (h : Gw.Own B w v ms) : ∃ p c, v = .slice p ms.length c := by
  rcases h.2 with ⟨hv, h0⟩ | ⟨_, c, _, hv, _⟩
  · exact ⟨none, 0, by rw [hv, h0]⟩
  · exact ⟨_, c, hv⟩
theorem Rt.own_slice {B : Nat} {w : World} {v : Value} {ms : List Rt.Rte} (h : Rt.Own B w v ms) : ∃ p c, v = .slice p ms.length c := by
  rcases h.2 with ⟨hv, h0⟩ | ⟨_, c, _, hv, _⟩
  · exact ⟨none, 0, by rw [hv, h0]⟩
  · exact ⟨_, c, hv⟩

abbrev svA (s : Sv.Svc) : Value := .agg #[.string s.node, .string s.idn, .string s.name, .string s.tag, .int .i64 s.addr, .int .i64 s.port, .bool s.passing, .int .i64 s.version, .bool s.gone]

theorem reg_own (ms : List Sv.Svc) (s : Sv.Svc) (hs : s.ok) (hms : ∀ x ∈ ms, x.ok) : ∃ (E : Int) (L : List Sv.Svc), L.length ≤ 1000 ∧ (∀ x ∈ L, x.ok) ∧
    (∀ v W, Sv.Sl W v ms → Calls Tryz.prog 7 #[v, svA s] W fun e w' => ∃ p l c, e = .returned (.tuple #[.slice p l c, .int .i64 E]) ∧ Hid (Sv.Own W.heap.size w' (.slice p l c) L) ∧ Below W.heap.size W w') ∧
    (Sv.chk ms = 0 → ∀ v W, Sv.Sl W v ms → Calls Tryz.prog 16 #[v, svA s] W fun e w' => ∃ v', e = .returned (.tuple #[v', .int .i64 E]) ∧ Hid (E = 0 → Sv.Sl w' v' L) ∧ Below W.heap.size W w') := by
  by_cases hc : Sv.chk ms = 0
  · obtain ⟨p, f, hat⟩ := Sv.at_any ms (Sv.chk_zero hc).2.1 (Sv.keyOf s)
    have hlen := (Sv.chk_zero hc).1
    obtain ⟨hj1, hj2⟩ := Sv.reg_join (s := s) hc hat
    have hpl : (RL.put ms (Sv.reg ms p f s) p f).length ≤ 1000 := by
      have h := RL.put_len Sv.ord Sv.dm (Sv.at_key (t := Sv.reg ms p f s) (by rfl) (by rfl) hat)
      rw [h]; split <;> omega
    refine ⟨Sv.regE ms p f s, if Sv.regE ms p f s = 0 then RL.put ms (Sv.reg ms p f s) p f else [], ?_, ?_, fun v W h => ?_, fun _ v W h => ?_⟩
    · split
      · exact hpl
      · simp
    · split
      · exact Sv.put_ok hms (Sv.reg_ok hs)
      · intro x hx; cases hx
    · refine (Sv.register_good ms v s W h hc hs p f hat).mono ?_
      rw [hj1, hj2]
      rintro e w' ⟨v', rfl, h1, h2, h3⟩
      have ho : Sv.Own W.heap.size w' v' (if Sv.regE ms p f s = 0 then RL.put ms (Sv.reg ms p f s) p f else []) := by
        by_cases h0 : Sv.regE ms p f s = 0
        · rw [if_pos h0]; exact h3 h0
        · rw [if_neg h0, h2 h0]; exact Sv.own_nil _ _
      obtain ⟨q, c, rfl⟩ := Sv.own_slice ho
      exact ⟨q, _, c, rfl, ho, h1⟩
    · refine (Sv.refReg_any ms v s W h hc hs p f hat).mono ?_
      rintro e w' ⟨v', rfl, h1, h2⟩
      exact ⟨v', rfl, fun h0 => by rw [if_pos h0]; exact h2.out h0, h1⟩
  · refine ⟨Sv.chk ms, [], by simp, (fun x hx => by cases hx), fun v W h => ?_, fun h => absurd h hc⟩
    refine (Sv.register_bad ms v s W h hc).mono ?_
    rintro e w' ⟨rfl, hb⟩
    exact ⟨none, 0, 0, rfl, Sv.own_nil _ _, hb⟩

theorem open_own (gs : List Gw.Gwy) (name : ByteArray) (addr : Int) (hs : name.size ≤ maxLen) (hgs : ∀ x ∈ gs, x.ok) : ∃ (E : Int) (L : List Gw.Gwy), L.length ≤ 1000 ∧ (∀ x ∈ L, x.ok) ∧
    (∀ v W, Gw.Sl W v gs → Calls Tryz.prog 10 #[v, .string name, .int .i64 addr] W fun e w' => ∃ p l c, e = .returned (.tuple #[.slice p l c, .int .i64 E]) ∧ Hid (Gw.Own W.heap.size w' (.slice p l c) L) ∧ Below W.heap.size W w') ∧
    (Gw.chk gs = 0 → ∀ v W, Gw.Sl W v gs → Calls Tryz.prog 19 #[v, .string name, .int .i64 addr] W fun e w' => ∃ v', e = .returned (.tuple #[v', .int .i64 E]) ∧ Hid (E = 0 → Gw.Sl w' v' L) ∧ Below W.heap.size W w') := by
  by_cases hc : Gw.chk gs = 0
  · obtain ⟨p, f, hat⟩ := Gw.at_any gs (Gw.chk_zero hc).2.1 ⟨name, 0, 0⟩
    have hlen := (Gw.chk_zero hc).1
    obtain ⟨hj1, hj2⟩ := Gw.openE_join (addr := addr) hc hat
    have hpl : (RL.put gs (Gw.opn gs p f name addr) p f).length ≤ 1000 := by
      have h := RL.put_len Gw.ord Gw.dm (Gw.at_key (t := Gw.opn gs p f name addr) (by rfl) hat)
      rw [h]; split <;> omega
    refine ⟨Gw.openE gs p f name addr, if Gw.openE gs p f name addr = 0 then RL.put gs (Gw.opn gs p f name addr) p f else [], ?_, ?_, fun v W h => ?_, fun _ v W h => ?_⟩
    · split
      · exact hpl
      · simp
    · split
      · exact Gw.put_ok hgs hs
      · intro x hx; cases hx
    · refine (Gw.open_good gs v name addr W h hc hs p f hat).mono ?_
      rw [hj1, hj2]
      rintro e w' ⟨v', rfl, h1, h2, h3⟩
      have ho : Gw.Own W.heap.size w' v' (if Gw.openE gs p f name addr = 0 then RL.put gs (Gw.opn gs p f name addr) p f else []) := by
        by_cases h0 : Gw.openE gs p f name addr = 0
        · rw [if_pos h0]; exact h3 h0
        · rw [if_neg h0, h2 h0]; exact Gw.own_nil _ _
      obtain ⟨q, c, rfl⟩ := Gw.own_slice ho
      exact ⟨q, _, c, rfl, ho, h1⟩
    · refine (Gw.refOpen_any gs v name addr W h hc hs p f hat).mono ?_
      rintro e w' ⟨v', rfl, h1, h2⟩
      exact ⟨v', rfl, fun h0 => by rw [if_pos h0]; exact h2.out h0, h1⟩
  · refine ⟨Gw.chk gs, [], by simp, (fun x hx => by cases hx), fun v W h => ?_, fun h => absurd h hc⟩
    refine (Gw.open_bad gs v name addr W h hc).mono ?_
    rintro e w' ⟨rfl, hb⟩
    exact ⟨none, 0, 0, rfl, Gw.own_nil _ _, hb⟩

theorem table_own (gs : List Gw.Gwy) (here : ByteArray) (hs : here.size ≤ maxLen) (hh : labB here = true) : ∃ (E : Int) (L : List Rt.Rte), L.length ≤ 1000 ∧ (Gw.chk gs = 0 → E = 0) ∧
    (∀ v W, Gw.Sl W v gs → Calls Tryz.prog 9 #[v, .string here] W fun e w' => ∃ p l c, e = .returned (.tuple #[.slice p l c, .int .i64 E]) ∧ Hid (Rt.Own W.heap.size w' (.slice p l c) L) ∧ Below W.heap.size W w') := by
  by_cases hc : Gw.chk gs = 0
  · refine ⟨0, Gw.tableL gs here, ?_, fun _ => rfl, fun v W h => ?_⟩
    · have h1 := Gw.tableL_len gs here
      have h2 := (Gw.chk_zero hc).1
      omega
    · refine (Gw.table_good gs v here W h hc hs hh).mono ?_
      rintro e w' ⟨v', rfl, ho, hb⟩
      obtain ⟨q, c, rfl⟩ := Rt.own_slice ho
      exact ⟨q, _, c, rfl, ho, hb⟩
  · refine ⟨Gw.chk gs, [], by simp, fun h => absurd h hc, fun v W h => ?_⟩
    refine (Gw.table_bad gs v here W h hc).mono ?_
    rintro e w' ⟨rfl, hb⟩
    exact ⟨none, 0, 0, rfl, Rt.own_nil _ _, hb⟩

theorem find_own (ms : List Sv.Svc) (name : ByteArray) (hs : name.size ≤ maxLen) : ∃ (E : Int) (L : List Sv.Svc), L.length ≤ 1000 ∧ ((∀ x ∈ ms, x.ok) → ∀ x ∈ L, x.ok) ∧ (Sv.chk ms = 0 → E = 0 → L = Sv.findL ms name ⟨#[]⟩) ∧
    (∀ v W, Sv.Sl W v ms → Calls Tryz.prog 8 #[v, .string name, .string ⟨#[]⟩] W fun e w' => ∃ p l c, e = .returned (.tuple #[.slice p l c, .int .i64 E]) ∧ Hid (Sv.Own W.heap.size w' (.slice p l c) L) ∧ Below W.heap.size W w') := by
  by_cases hc : Sv.chk ms = 0
  · by_cases hl : Sv.findE name ⟨#[]⟩ = 0
    · refine ⟨0, Sv.findL ms name ⟨#[]⟩, ?_, fun h x hx => h x (List.mem_filter.1 (show x ∈ ms.filter _ from hx)).1, fun _ _ => rfl, fun v W h => ?_⟩
      · have h2 := (Sv.chk_zero hc).1
        have h1 : (Sv.findL ms name ⟨#[]⟩).length ≤ ms.length := by unfold Sv.findL; exact List.length_filter_le _ _
        omega
      · refine (Sv.findS_good ms v name ⟨#[]⟩ W h hc hs (Nat.zero_le _) hl).mono ?_
        rintro e w' ⟨v', rfl, ho, hb⟩
        obtain ⟨q, c, rfl⟩ := Sv.own_slice ho
        exact ⟨q, _, c, rfl, ho, hb⟩
    · refine ⟨Sv.findE name ⟨#[]⟩, [], by simp, by simp, fun _ h => absurd h hl, fun v W h => ?_⟩
      refine (Sv.findS_form ms v name ⟨#[]⟩ W h hc hs (Nat.zero_le _) hl).mono ?_
      rintro e w' ⟨rfl, hb⟩
      exact ⟨none, 0, 0, rfl, Sv.own_nil _ _, hb⟩
  · refine ⟨Sv.chk ms, [], by simp, by simp, fun h => absurd h hc, fun v W h => ?_⟩
    refine (Sv.findS_bad ms v name ⟨#[]⟩ W h hc).mono ?_
    rintro e w' ⟨rfl, hb⟩
    exact ⟨none, 0, 0, rfl, Sv.own_nil _ _, hb⟩

end Go.Proofs.YtkicpbomjpgjpaaGreat

/- RestCatalogs: what was answered is spoilt: the routes. -/
namespace Go.Proofs.YtkicpbomjpgjpaaGreat
open Go.RowKit

theorem town_cell {B g c n k : Nat} {w : World} {xs : List Value} (h : w.ownsRow B 51 2 (.slice (some ⟨g, 0, none⟩) n c) n xs) (hk : k < n) : (∃ u, w.cell? ⟨g, k * 2, none⟩ = some u) ∧ w.frozen? ⟨g, k * 2, none⟩ = false := by
  rcases h.2 with ⟨h1, _⟩ | ⟨g', c', cur, h1, hbg, hg, hnc, hcm, hcs, htake⟩
  · cases h1
  · simp only [Value.slice.injEq, Option.some.injEq, Addr.mk.injEq] at h1
    obtain ⟨⟨rfl, _, _⟩, _, rfl⟩ := h1
    refine ⟨⟨cur[k * 2]'(by omega), ?_⟩, by simp [World.frozen?, hg]⟩
    rw [cellsAt hg, Array.getElem?_eq_getElem]

set_option maxHeartbeats 3200000 in
set_option maxRecDepth 1000000 in
theorem rc28 {u0 u1 u2 u3 u4 u5 u6 u7 u8 u9 u10 u11 u12 u13 u14 u15 u16 u18 u19 u20 u21 u22 u23 u24 u25 u26 u28 u29 u30 u31 u32 u33 u34 u35 u36 u37 u38 u39 u40 u41 u42 u43 u44 u45 u46 u47 u48 u49 u50 u51 u52 u53 u54 u55 u56 u57 u58 u59 u60 u61 u62 u63 u64 u65 u66 u67 u68 u69 u70 u71 u72 u73 u74 u75 u76 u77 u78 u79 u80 u81 u82 u83 u84 u85 u86 u87 u88 u89 u90 u91 u92 u93 u94 u95 u96 u97 u98 u99 u100 u101 u102 u103 u104 u105 u106 u107 u108 u109 u110 u111 u112 u113 u114 u115 u116 u117 u118 u119 u120 u121 u122 u123 u124 u125 u126 u127 u128 u129 u130 u131 u132 u133 u134 u135 u136 u137 u138 u139 u140 u141 u142 u143 u144 u145 u146 u147 u148 u149 u150 u151 u152 u153 u154 u155 u156 u157 u158 u159 u160 u161 u162 u163 u164 u165 u166 u167 u168 u169 u170 u171 u172 u173 u174 u175 u176 u177 u178 u179 u180 u181 u182 u183 u184 u185 u186 u187 u188 u189 u190 u191 : Value} (w : World) (L0 : List Rt.Rte) (B : Nat) (rp : Option Addr) (rl rk : Nat) (HO : Hid (Rt.Own B w (.slice rp rl rk) L0)) (hn : L0.length ≤ 1000) (Q : Exit → Act → World → Prop)
    (hN : ∀ (y173 y174 y175 y176 y177 y178 y179 y180 y181 y182 y27 : Value) (wx : World), Hid (Chg (.slice rp rl rk) w wx) → Q .normal ⟨#[u0, u1, u2, u3, u4, u5, u6, u7, u8, u9, u10, u11, u12, u13, u14, u15, u16, .slice rp rl rk, u18, u19, u20, u21, u22, u23, u24, u25, u26, y27, u28, u29, u30, u31, u32, u33, u34, u35, u36, u37, u38, u39, u40, u41, u42, u43, u44, u45, u46, u47, u48, u49, u50, u51, u52, u53, u54, u55, u56, u57, u58, u59, u60, u61, u62, u63, u64, u65, u66, u67, u68, u69, u70, u71, u72, u73, u74, u75, u76, u77, u78, u79, u80, u81, u82, u83, u84, u85, u86, u87, u88, u89, u90, u91, u92, u93, u94, u95, u96, u97, u98, u99, u100, u101, u102, u103, u104, u105, u106, u107, u108, u109, u110, u111, u112, u113, u114, u115, u116, u117, u118, u119, u120, u121, u122, u123, u124, u125, u126, u127, u128, u129, u130, u131, u132, u133, u134, u135, u136, u137, u138, u139, u140, u141, u142, u143, u144, u145, u146, u147, u148, u149, u150, u151, u152, u153, u154, u155, u156, u157, u158, u159, u160, u161, u162, u163, u164, u165, u166, u167, u168, u169, u170, u171, u172, y173, y174, y175, y176, y177, y178, y179, y180, y181, y182, u183, u184, u185, u186, u187, u188, u189, u190, u191], []⟩ wx) :
    Code.wp Tryz.prog ((Tryz.f3.body.bind (blkIn 2)).getD .skip) Q ⟨#[u0, u1, u2, u3, u4, u5, u6, u7, u8, u9, u10, u11, u12, u13, u14, u15, u16, .slice rp rl rk, u18, u19, u20, u21, u22, u23, u24, u25, u26, .int .i64 0, u28, u29, u30, u31, u32, u33, u34, u35, u36, u37, u38, u39, u40, u41, u42, u43, u44, u45, u46, u47, u48, u49, u50, u51, u52, u53, u54, u55, u56, u57, u58, u59, u60, u61, u62, u63, u64, u65, u66, u67, u68, u69, u70, u71, u72, u73, u74, u75, u76, u77, u78, u79, u80, u81, u82, u83, u84, u85, u86, u87, u88, u89, u90, u91, u92, u93, u94, u95, u96, u97, u98, u99, u100, u101, u102, u103, u104, u105, u106, u107, u108, u109, u110, u111, u112, u113, u114, u115, u116, u117, u118, u119, u120, u121, u122, u123, u124, u125, u126, u127, u128, u129, u130, u131, u132, u133, u134, u135, u136, u137, u138, u139, u140, u141, u142, u143, u144, u145, u146, u147, u148, u149, u150, u151, u152, u153, u154, u155, u156, u157, u158, u159, u160, u161, u162, u163, u164, u165, u166, u167, u168, u169, u170, u171, u172, u173, u174, u175, u176, u177, u178, u179, u180, u181, u182, u183, u184, u185, u186, u187, u188, u189, u190, u191], []⟩ w := by
  conv => arg 2; whnf
  have HQN : Hid _ := hN
  clear hN
  rcases HO.out.2 with ⟨hv, h0⟩ | ⟨g, c, cur, hv, hbg, _⟩
  · simp only [Value.slice.injEq] at hv
    obtain ⟨rfl, rfl, rfl⟩ := hv
    clear HO
    go_wp2_with fail
    go_loopw [27] (fun i wr => i = .int .i64 0 ∧ wr = w) (fun _ _ => 0)
    case atStart => exact ⟨rfl, rfl⟩
    case round =>
      obtain ⟨rfl, hw⟩ := hrel
      subst hw
      go_wp2_with fail
      exact HQN.out _ _ _ _ _ _ _ _ _ _ _ _ (Chg.refl _ _)
  · simp only [Value.slice.injEq] at hv
    obtain ⟨rfl, rfl, rfl⟩ := hv
    obtain ⟨n, hN⟩ : ∃ n, L0.length = n := ⟨_, rfl⟩
    have HO0 : Hid (w.ownsRow B 51 2 (.slice (some ⟨g, 0, none⟩) n rk) n (Rt.fl L0)) := (show World.ownsRow _ _ _ _ _ _ _ by rw [← hN]; exact HO.out)
    rw [hN] at HQN
    have hn2 : n ≤ 1000 := by omega
    rw [hN]
    clear hN HO hn
    go_wp2_with fail
    go_loopw [27] (fun i wr => ∃ (k : Nat) (xs : List Value), k ≤ n ∧ i = .int .i64 k ∧ Hid (wr.ownsRow B 51 2 (.slice (some ⟨g, 0, none⟩) n rk) n xs) ∧ Hid (Chg (.slice (some ⟨g, 0, none⟩) n rk) w wr)) (fun i _ => n - (intOf i).toNat)
    case atStart => exact ⟨0, Rt.fl L0, Nat.zero_le _, rfl, HO0, Chg.refl _ _⟩
    case round =>
      obtain ⟨k, xs, hk, rfl, HOX, HB⟩ := hrel
      by_cases hlt : k < n
      · have hd : decide ((k : Int) < (n : Int)) = true := by simp; omega
        obtain ⟨⟨u, c0⟩, z0⟩ := town_cell HOX.out hlt
        have HS : Hid ((wr.setCell ⟨g, k * 2, none⟩ (.string ⟨#[63]⟩)).ownsRow B 51 2 (.slice (some ⟨g, 0, none⟩) n rk) n (xs.set (k * 2) (.string ⟨#[63]⟩))) := (World.ownsRow.stored HOX.out (k * 2) (.string ⟨#[63]⟩)).1
        have hi0 : (0 : Int) ≤ (k : Int) := by omega
        have hi1 : (k : Int) < (n : Int) := by omega
        have hi2 : ((k : Int)).toNat = k := by omega
        go_wp2_with fail
        refine ⟨⟨k + 1, _, by omega, by go_num, HS, HB.out.setCell rfl⟩, by simp [intOf]; omega⟩
      · have hd : decide ((k : Int) < (n : Int)) = false := by simp; omega
        go_wp2_with fail
        exact HQN.out _ _ _ _ _ _ _ _ _ _ _ _ HB

end Go.Proofs.YtkicpbomjpgjpaaGreat

