/- The document's own Register: by one more version. -/
import Derived.Test.YtjpcngkddejdjaeSKS9
namespace Go.Proofs.Ytjpcngkddejdjae
namespace Sv
open Go.RowKit

theorem at_key {ms : List Svc} {s t : Svc} {p : Nat} {f : Bool} (hk : s.node = t.node) (hi : s.idn = t.idn) (h : At ms s p f) : At ms t p f := by
  have e : ∀ x, ord x s = ord x t := fun x => by
    show (if cmpI x.node s.node = 0 then cmpI x.idn s.idn else cmpI x.node s.node) = (if cmpI x.node t.node = 0 then cmpI x.idn t.idn else cmpI x.node t.node)
    rw [hk, hi]
  exact ⟨h.le, fun j hj => by rw [← e]; exact h.lo j hj, fun j hj hl => by rw [← e]; exact h.hi j hj hl, by rw [← e]; exact h.is⟩

theorem put_ok {ms : List Svc} {m : Svc} {p : Nat} {f : Bool} (h : ∀ x ∈ ms, x.ok) (hm : m.ok) : ∀ x ∈ RL.put ms m p f, x.ok := fun x hx => by
  unfold RL.put at hx
  rcases List.mem_append.1 hx with hx | hx
  · exact h x (List.mem_of_mem_take hx)
  · rcases List.mem_cons.1 hx with rfl | hx
    · exact hm
    · exact h x (List.mem_of_mem_drop hx)

/-- A service by one more version. -/
def setS (ms : List Svc) (p : Nat) (f : Bool) (s : Svc) : Svc := { s with version := (fnd ms p f).version + 1 }
def setE (ms : List Svc) (p : Nat) (f : Bool) (s : Svc) : Int :=
  if (fnd ms p f).version + 1 ≤ 1000000 then (if 40 < (RL.put ms (setS ms p f s) p f).length then 2 else 0) else 3

set_option maxHeartbeats 6400000 in
set_option maxRecDepth 100000 in
theorem refSet_any (ms : List Svc) (v : Value) (s : Svc) (w : World) (hv : Sl w v ms) (h0 : chk ms = 0) (hs : s.ok) (p : Nat) (f : Bool) (hat : At ms s p f) :
    Calls Try.prog 38 #[v, .agg #[.string s.node, .string s.idn, .string s.name, .string s.tag, .int .i64 s.addr, .int .i64 s.port, .bool s.passing, .int .i64 s.version, .bool s.gone]] w fun e w' => ∃ v', e = .returned (.tuple #[v', .int .i64 (setE ms p f s)]) ∧ Below w.heap.size w w' ∧ Hid (setE ms p f s = 0 → Sl w' v' (RL.put ms (setS ms p f s) p f)) := by
  have hz := chk_zero h0
  have hlen := hz.1
  have hver := fnd_ver hz.2.2 hat
  have HAT : Hid (At ms s p f) := hat
  have HR : Hid (Rise ms) := hz.2.1
  have HA1 : Hid (At ms (setS ms p f s) p f) := at_key (s := s) (t := setS ms p f s) rfl rfl hat
  have HOK : Hid (∀ m ∈ RL.put ms (setS ms p f s) p f, m.ok) := put_ok (sl_ok hv) hs
  have HE : Hid (setE ms p f s = if (fnd ms p f).version + 1 ≤ 1000000 then (if 40 < (RL.put ms (setS ms p f s) p f).length then 2 else 0) else 3) := rfl
  have hpl : (RL.put ms (setS ms p f s) p f).length ≤ 41 := by
    have h := RL.put_len ord dm HA1.out
    rw [h]; split <;> omega
  have HPT : Hid (∀ W, Sl W v ms → Calls Try.prog 41 #[v, .agg #[.string s.node, .string s.idn, .string s.name, .string s.tag, .int .i64 s.addr, .int .i64 s.port, .bool s.passing, .int .i64 ((fnd ms p f).version + 1), .bool s.gone]] W fun e w' => ∃ v', e = .returned v' ∧ Own (W.heap.size + 1) w' v' (RL.put ms (setS ms p f s) p f) ∧ Below W.heap.size W w') := fun W hW => refPut_any ms v (setS ms p f s) W hW (by omega) HR.out p f HA1.out
  have HV : Hid (Sl w v ms) := hv
  have HFT : Hid (f = true → fnd ms p f = ms.getD p dm) := fun h => if_pos h
  have HFF : Hid (f = false → (fnd ms p f).version = 0) := fun h => by show (fnd ms p f).version = 0; rw [fnd, if_neg (by rw [h]; exact Bool.false_ne_true)]; rfl
  generalize setE ms p f s = oe at *
  generalize RL.put ms (setS ms p f s) p f = pl at *
  generalize hvv : (fnd ms p f).version = V at *
  have HVV : Hid ((fnd ms p f).version = V) := hvv
  obtain ⟨hv0, hv1⟩ := hver
  clear hv h0 hz hat hvv HA1
  generalize hpn : pl.length = np at *
  have HPN : Hid (pl.length = np) := hpn
  clear hpn
  obtain ⟨s_node, s_idn, s_name, s_tag, s_addr, s_port, s_passing, s_version, s_gone⟩ := s
  have hb0 : Below w.heap.size w (w.alloc (.cells #[.string s_node, .string s_idn, .string s_name, .string s_tag, .int .i64 s_addr, .int .i64 s_port, .bool s_passing, .int .i64 1, .bool s_gone] 28)) := (Below.refl _ _).alloc (Nat.le_refl _) _
  have HV0 : Hid (Sl (w.alloc (.cells #[.string s_node, .string s_idn, .string s_name, .string s_tag, .int .i64 s_addr, .int .i64 s_port, .bool s_passing, .int .i64 1, .bool s_gone] 28)) v ms) := HV.out.below hb0
  go_enter Try.func38, Try.ntmps38
  go_wp2_with fail
  refine (refAt_any ms _ s_node s_idn _ HV0.out (by omega)).mono ?_
  rintro e w1 ⟨r, rfl, hI, hw⟩
  have hrp := atI_at (t := ⟨s_node, s_idn, s_name, s_tag, s_addr, s_port, s_passing, s_version, s_gone⟩) hI.out HAT.out HR.out
  subst hw
  clear hI
  cases f
  · have hr1 : r = -1 := hrp.2 rfl
    subst hr1
    have hV0 : V = 0 := HFF.out rfl
    subst hV0
    have HBZ : Hid (Below w.heap.size w (w.alloc (.cells #[.string s_node, .string s_idn, .string s_name, .string s_tag, .int .i64 s_addr, .int .i64 s_port, .bool s_passing, .int .i64 1, .bool s_gone] 28))) := hb0
    clear hb0 hrp
    have HO : Hid (oe = if 40 < np then 2 else 0) := HE.out.trans (if_pos (by omega))
    go_wp2_with fail
    refine (HPT.out _ HV0.out).mono ?_
    rintro e w2 ⟨v2, rfl, g1, g2⟩
    have HBX : Hid (Below w.heap.size w w2) := HBZ.out.trans (g2.mono (by simp))
    have HSX : Hid (Sl w2 v2 pl) := own_names g1 HOK.out
    clear g1 g2
    obtain ⟨p2, c2, hv2, _⟩ := HSX.out
    rw [HPN.out] at hv2
    subst hv2
    by_cases h6 : 40 < np
    · go_wp2_with fail
      go_ret2
      exact ⟨_, by rw [HO.out, if_pos h6]; rfl, HBX.out, fun h => by rw [HO.out, if_pos h6] at h; cases h⟩
    · go_wp2_with fail
      go_ret2
      exact ⟨_, by rw [HO.out, if_neg h6]; rfl, HBX.out, fun _ => HSX.out⟩
  · have hr1 : r = (p : Int) := hrp.1 rfl
    subst hr1
    have hp : p < ms.length := (HAT.out.is.1 rfl).1
    obtain ⟨pa, ca, hva, _, hrow⟩ := HV0.out
    subst hva
    obtain ⟨b3, o3, hp3, hl3, hr3⟩ : ∃ b_1 off, pa = some ⟨b_1, off, none⟩ ∧ b_1 < w.heap.size ∧ Row w b_1 off ms := by
      obtain ⟨pa2, ca2, h1, _, h2⟩ := HV.out
      simp only [Value.slice.injEq] at h1
      obtain ⟨rfl, _, _⟩ := h1
      rcases h2 with h | h
      · rw [h] at hp; simp at hp
      · exact h
    subst hp3
    clear hrow
    have hr3' := hr3.later hb0 hl3
    obtain ⟨d0, d1, d2, d3, d4, d5, d6, d7, d8⟩ := hr3' p hp
    have hxv : (ms.getD p dm).version = V := by rw [← HFT.out rfl]; exact HVV.out
    rw [hxv] at d7
    clear d0 d1 d2 d3 d4 d5 d6 d8
    have HBZ : Hid (Below w.heap.size w (w.alloc (.cells #[.string s_node, .string s_idn, .string s_name, .string s_tag, .int .i64 s_addr, .int .i64 s_port, .bool s_passing, .int .i64 (V + 1), .bool s_gone] 28))) := (Below.refl _ _).alloc (Nat.le_refl _) _
    have HVZ : Hid (Sl (w.alloc (.cells #[.string s_node, .string s_idn, .string s_name, .string s_tag, .int .i64 s_addr, .int .i64 s_port, .bool s_passing, .int .i64 (V + 1), .bool s_gone] 28)) (.slice (some ⟨b3, o3, none⟩) ms.length ca) ms) := HV.out.below HBZ.out
    clear hb0 hrp hr3 hr3' hxv
    by_cases hbig : V + 1 ≤ 1000000
    · have HO : Hid (oe = if 40 < np then 2 else 0) := HE.out.trans (if_pos hbig)
      go_wp2_with fail
      refine (HPT.out _ HVZ.out).mono ?_
      rintro e w2 ⟨v2, rfl, g1, g2⟩
      have HBX : Hid (Below w.heap.size w w2) := HBZ.out.trans (g2.mono (by simp))
      have HSX : Hid (Sl w2 v2 pl) := own_names g1 HOK.out
      clear g1 g2
      obtain ⟨p2, c2, hv2, _⟩ := HSX.out
      rw [HPN.out] at hv2
      subst hv2
      by_cases h6 : 40 < np
      · go_wp2_with fail
        go_ret2
        exact ⟨_, by rw [HO.out, if_pos h6]; rfl, HBX.out, fun h => by rw [HO.out, if_pos h6] at h; cases h⟩
      · go_wp2_with fail
        go_ret2
        exact ⟨_, by rw [HO.out, if_neg h6]; rfl, HBX.out, fun _ => HSX.out⟩
    · have HO : Hid (oe = 3) := HE.out.trans (if_neg hbig)
      go_wp2_with fail
      go_ret2
      exact ⟨_, by rw [HO.out]; rfl, HBZ.out, fun h => by rw [HO.out] at h; cases h⟩

end Sv
end Go.Proofs.Ytjpcngkddejdjae
