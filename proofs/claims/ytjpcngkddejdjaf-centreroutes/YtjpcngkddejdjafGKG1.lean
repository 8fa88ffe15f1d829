
/- Open and Next; what must be in any case of centres. -/
import Derived.Test.YtjpcngkddejdjafGK8
namespace Go.Proofs.Ytjpcngkddejdjaf
namespace Gw
open Go.RowKit

theorem e_zero {m : Gwy} (h : m.e = 0) : labB m.centre = true ∧ 0 ≤ m.addr ∧ m.addr ≤ 4294967295 ∧ 1 ≤ m.version ∧ m.version ≤ 1000000 := by
  unfold Gwy.e at h
  split at h
  · rename_i h1
    split at h
    · rename_i h2
      split at h
      · rename_i h3
        simp [within] at h2 h3
        exact ⟨h1, h2.1, h2.2, h3.1, h3.2⟩
      · omega
    · omega
  · omega
theorem e_at {ms : List Gwy} (h : firstE ms = 0) (p : Nat) (hp : p < ms.length) : (ms.getD p dm).e = 0 := by
  have := firstE_mem ms h ms[p] (List.getElem_mem hp)
  simpa [List.getD, List.getElem?_eq_getElem hp] using this
theorem fnd_ver {ms : List Gwy} {t : Gwy} (h : firstE ms = 0) {p : Nat} {f : Bool} (hat : At ms t p f) : 0 ≤ (fnd ms p f).version ∧ (fnd ms p f).version ≤ 1000000 := by
  cases f
  · exact ⟨by show (0 : Int) ≤ 0; omega, by show (0 : Int) ≤ 1000000; omega⟩
  · have := (e_zero (e_at h p (hat.is.1 rfl).1)).2.2.2
    rw [fnd, if_pos rfl]
    omega

/-- F2: the gateway of a centre at an address, by one more version. -/
def opn (ms : List Gwy) (p : Nat) (f : Bool) (name : ByteArray) (addr : Int) : Gwy := ⟨name, addr, (fnd ms p f).version + 1⟩

set_option maxHeartbeats 400000 in
theorem open_bad (ms : List Gwy) (v : Value) (name : ByteArray) (addr : Int) (w : World) (hv : Sl w v ms) (hne : chk ms ≠ 0) :
    Calls Try.prog 16 #[v, .string name, .int .i64 addr] w fun e w' => e = .returned (.tuple #[.slice none 0 0, .int .i64 (chk ms)]) ∧ Below w.heap.size w w' := by
  have he : (chk ms != 0) = true := by simpa using hne
  have HV : Hid (Sl w v ms) := hv
  clear hne hv
  go_enter Try.func16, Try.ntmps16
  go_wp2_with (go_at_call 20; refine (check_any ms _ _ HV.out).mono ?_; rintro e w' ⟨rfl, hb2⟩)
  go_ret2
  exact ⟨rfl, hb2⟩

set_option maxHeartbeats 1600000 in
theorem open_good (ms : List Gwy) (v : Value) (name : ByteArray) (addr : Int) (w : World) (hv : Sl w v ms) (h0 : chk ms = 0) (hs : name.size ≤ maxLen) (p : Nat) (f : Bool) (hat : At ms ⟨name, 0, 0⟩ p f) :
    Calls Try.prog 16 #[v, .string name, .int .i64 addr] w fun e w' => ∃ v', e = .returned (.tuple #[v', .int .i64 (joinE ms [opn ms p f name addr])]) ∧ Below w.heap.size w w' ∧
      (joinE ms [opn ms p f name addr] ≠ 0 → v' = .slice none 0 0) ∧ (joinE ms [opn ms p f name addr] = 0 → Own w.heap.size w' v' (joinL ms [opn ms p f name addr])) := by
  have he : (chk ms != 0) = false := by simpa using h0
  have hz := chk_zero h0
  have HV : Hid (Sl w v ms) := hv
  have HR : Hid (Rise ms) := hz.2.1
  have hlen := hz.1
  have HF : Hid (firstE ms = 0) := hz.2.2
  have HAT : Hid (At ms ⟨name, 0, 0⟩ p f) := hat
  obtain ⟨pa, ca, rfl, _, _⟩ := hv
  have HG : Hid (opn ms p f name addr = ⟨name, addr, (fnd ms p f).version + 1⟩) := rfl
  generalize opn ms p f name addr = g at *
  clear h0 hz hat
  go_enter Try.func16, Try.ntmps16
  go_wp2_with (go_at_call 20; refine (check_any ms _ _ HV.out).mono ?_; rintro e w1 ⟨rfl, hb1⟩)
  refine (find2_any ms _ name _ (HV.out.below hb1) hlen HR.out).mono ?_
  rintro e w2 ⟨p', f', rfl, hb2, hat'⟩
  obtain ⟨rfl, rfl⟩ := at_uniq HAT.out hat'
  have hver := fnd_ver HF.out hat'
  have HB2 : Hid (Below w.heap.size w w2) := hb1.trans (hb2.mono hb1.size)
  have hs2 := HB2.out.size
  have HV2 : Hid (Sl w2 (.slice pa ms.length ca) ms) := (HV.out.below hb1).below hb2
  clear hat' hb1 hb2 HV
  generalize fnd ms p f = kn at *
  obtain ⟨kc, ka, kv⟩ := kn
  simp only at hver
  obtain ⟨hv0, hv1⟩ := hver
  go_wp2_with fail
  refine (join_any ms [g] (.slice pa ms.length ca) (.slice (some ⟨w2.heap.size + 1 + 1, 0, none⟩) 1 1) _ _ _ ?ha ?hb ?hpb ?hc0 ?hc1).mono ?_
  case ha => exact HV2.out.below ((((((Below.refl _ _).alloc (Nat.le_refl _) _).alloc (by simp) _).alloc (by simp; omega) _).alloc (by simp; omega) _))
  case hb =>
    rw [HG.out]
    refine sl_one _ _ _ ⟨name, addr, kv + 1⟩ hs ?_
    refine (Below.heap_alloc _ _ _ (by simp)).trans ?_
    have h := heap_alloc_new ((w2.alloc (.cells #[.string kc, .int .i64 ka, .int .i64 kv] 51)).alloc (.cells #[.string name, .int .i64 addr, .int .i64 (kv + 1)] 51)) (.cells #[.string name, .int .i64 addr, .int .i64 (kv + 1)] 51)
    simpa using h
  case hpb => simp
  case hc0 => exact (cell_topL (by simp)).trans rfl
  case hc1 => exact (cell_topL (by simp)).trans rfl
  rintro e w3 ⟨v', rfl, hb3, hbad, hgood⟩
  have HBAD : Hid (joinE ms [g] ≠ 0 → v' = .slice none 0 0) := hbad
  have HB3 : Hid (Below w.heap.size w w3) := ((((HB2.out.alloc hs2 _).alloc (by simp; omega) _).alloc (by simp; omega) _).alloc (by simp; omega) _).trans (hb3.mono (by simp; omega))
  have HGOOD : Hid (joinE ms [g] = 0 → Own w.heap.size w3 v' (joinL ms [g])) := fun h => (hgood h).mono (by simp; omega)
  clear hbad hgood hb3
  go_wp2_with fail
  go_ret2
  exact ⟨v', rfl, HB3.out, HBAD.out, HGOOD.out⟩

/-- F3: Next's errno, of gateways that are right. -/
def nextE (f : Bool) (here to : ByteArray) : Int := if (labB here && labB to) = true then (if here = to then 6 else if f = true then 0 else 5) else 1

set_option maxHeartbeats 400000 in
theorem next_bad (ms : List Gwy) (v : Value) (here to : ByteArray) (w : World) (hv : Sl w v ms) (hne : chk ms ≠ 0) :
    Calls Try.prog 25 #[v, .string here, .string to] w fun e w' => e = .returned (.tuple #[.int .i64 0, .int .i64 (chk ms)]) ∧ Below w.heap.size w w' := by
  have he : (chk ms != 0) = true := by simpa using hne
  have HV : Hid (Sl w v ms) := hv
  clear hne hv
  go_enter Try.func25, Try.ntmps25
  go_wp2_with (go_at_call 20; refine (check_any ms _ _ HV.out).mono ?_; rintro e w' ⟨rfl, hb2⟩)
  go_ret2
  exact ⟨rfl, hb2⟩

theorem labels2_any (a b : ByteArray) (ha : a.size ≤ maxLen) (hb : b.size ≤ maxLen) (W : World) :
    Calls Try.prog 36 #[.slice (some ⟨W.heap.size, 0, none⟩) 2 2] (W.alloc (.cells #[.string a, .string b] 9)) fun e w' => e = .returned (.bool (labB a && labB b)) ∧ w' = W.alloc (.cells #[.string a, .string b] 9) := by
  have hg := heap_alloc_new W (.cells #[.string a, .string b] 9)
  refine (labels_any [a, b] W.heap.size 2 _ (fun j hj => ?_) (fun j => ?_) (by simp)).mono ?_
  · rw [cellsAt hg]
    have : j = 0 ∨ j = 1 := by simp at hj; omega
    rcases this with rfl | rfl <;> rfl
  · match j with
    | 0 => exact ha
    | 1 => exact hb
    | _ + 2 => simp [List.getD]
  · rintro e w' ⟨rfl, rfl⟩
    exact ⟨ret_bool (by simp), rfl⟩

/-- F3: the address that Next tells. -/
def nextA (ms : List Gwy) (p : Nat) (f : Bool) (here to : ByteArray) : Int := if nextE f here to = 0 then (fnd ms p f).addr else 0

set_option maxHeartbeats 1600000 in
theorem next_good (ms : List Gwy) (v : Value) (here to : ByteArray) (w : World) (hv : Sl w v ms) (h0 : chk ms = 0) (hs : here.size ≤ maxLen) (ht : to.size ≤ maxLen) (p : Nat) (f : Bool) (hat : At ms ⟨to, 0, 0⟩ p f) :
    Calls Try.prog 25 #[v, .string here, .string to] w fun e w' => e = .returned (.tuple #[.int .i64 (nextA ms p f here to), .int .i64 (nextE f here to)]) ∧ Below w.heap.size w w' := by
  have he : (chk ms != 0) = false := by simpa using h0
  have hz := chk_zero h0
  have HV : Hid (Sl w v ms) := hv
  have HR : Hid (Rise ms) := hz.2.1
  have hlen := hz.1
  have HAT : Hid (At ms ⟨to, 0, 0⟩ p f) := hat
  clear hv h0 hz hat
  rcases hl : (labB here && labB to) with _ | _
  · have hN : nextE f here to = 1 := by rw [nextE, hl]; rfl
    have HN : Hid (nextE f here to = 1 ∧ nextA ms p f here to = 0) := ⟨hN, by rw [nextA, hN]; rfl⟩
    clear hN
    go_enter Try.func25, Try.ntmps25
    go_wp2_with (first | (go_at_call 20; refine (check_any ms _ _ HV.out).mono ?_; rintro e w1 ⟨rfl, hb1⟩) | (go_at_call 36; refine (labels2_any _ _ hs ht _).mono ?_; rintro e w' ⟨rfl, rfl⟩; rw [hl]))
    go_ret2
    exact ⟨by rw [HN.out.1, HN.out.2]; rfl, hb1.alloc hb1.size _⟩
  · by_cases hht : here = to
    · subst hht
      have hN : nextE f here here = 6 := by rw [nextE, hl, if_pos rfl, if_pos rfl]
      have HN : Hid (nextE f here here = 6 ∧ nextA ms p f here here = 0) := ⟨hN, by rw [nextA, hN]; rfl⟩
      clear hN
      go_enter Try.func25, Try.ntmps25
      go_wp2_with (first | (go_at_call 20; refine (check_any ms _ _ HV.out).mono ?_; rintro e w1 ⟨rfl, hb1⟩) | (go_at_call 36; refine (labels2_any _ _ hs ht _).mono ?_; rintro e w' ⟨rfl, rfl⟩; rw [hl]))
      go_ret2
      exact ⟨by rw [HN.out.1, HN.out.2]; rfl, hb1.alloc hb1.size _⟩
    · obtain ⟨g1, g2⟩ := beq_name hht
      have hN : nextE f here to = if f = true then 0 else 5 := by rw [nextE, hl, if_pos rfl, if_neg hht]
      have HN : Hid (nextE f here to = (if f = true then 0 else 5) ∧ nextA ms p f here to = if f = true then (fnd ms p f).addr else 0) := ⟨hN, by rw [nextA, hN]; cases f <;> rfl⟩
      clear hN
      clear hht
      go_enter Try.func25, Try.ntmps25
      go_wp2_with (first | (go_at_call 20; refine (check_any ms _ _ HV.out).mono ?_; rintro e w1 ⟨rfl, hb1⟩) | (go_at_call 36; refine (labels2_any _ _ hs ht _).mono ?_; rintro e w' ⟨rfl, rfl⟩; rw [hl]))
      have hbx := hb1.alloc hb1.size (.cells #[.string here, .string to] 9)
      refine (find2_any ms _ to _ (HV.out.below hbx) hlen HR.out).mono ?_
      rintro e w2 ⟨p', f', rfl, hb2, hat'⟩
      obtain ⟨rfl, rfl⟩ := at_uniq HAT.out hat'
      have HB2 : Hid (Below w.heap.size w w2) := hbx.trans (hb2.mono (by simp; have := hb1.size; omega))
      clear hat' hb1 hb2 hbx
      generalize fnd ms p f = kn at *
      obtain ⟨kc, ka, kv⟩ := kn
      have hs2 := HB2.out.size
      cases f
      · go_wp2_with fail
        go_ret2
        exact ⟨by rw [HN.out.1, HN.out.2]; rfl, HB2.out.alloc hs2 _⟩
      · go_wp2_with fail
        go_ret2
        exact ⟨by rw [HN.out.1, HN.out.2]; rfl, HB2.out.alloc hs2 _⟩

def gC : Gwy := ⟨⟨#[99]⟩, 7, 1⟩
theorem lab_c : labB ⟨#[99]⟩ = true := by decide
theorem lab_h : labB ⟨#[104]⟩ = true := by decide
theorem chk_gC : chk [gC] = 0 := by rw [chk_one]; decide
theorem at_nil (t : Gwy) : At [] t 0 false := ⟨by simp, fun j h => by omega, fun j h h2 => by simp at h2, by simp⟩
theorem at_gC : At [gC] ⟨⟨#[99]⟩, 0, 0⟩ 0 true := RL.at_of ord dm keyed (by simp [RL.Rise]) (by simp) ((cmpI_eq _ _).2 rfl)
theorem join_gC : joinE [] [gC] = 0 := by
  rw [joinE_good chk_nil chk_gC]; rfl

set_option maxHeartbeats 800000 in
theorem begun_any (w : World) : Calls Try.prog 19 #[] w fun e w' => e = .returned (.bool true) ∧ Below w.heap.size w w' := by
  go_enter Try.func19, Try.ntmps19
  go_wp2_with fail
  refine (open_good [] _ ⟨#[99]⟩ 7 _ (sl_nil _) chk_nil (by decide) 0 false (at_nil _)).mono ?_
  rintro e w1 ⟨v1, rfl, hb1, _, h1⟩
  have hg : opn [] 0 false ⟨#[99]⟩ 7 = gC := rfl
  rw [hg] at h1 ⊢
  have ho1 : Own w.heap.size w1 v1 [gC] := h1 join_gC
  rw [join_gC]
  have HO1 : Hid (Own w.heap.size w1 v1 [gC]) := ho1
  clear h1 ho1 hg
  go_wp2_with fail
  refine (next_good [gC] v1 ⟨#[104]⟩ ⟨#[99]⟩ _ (own_names HO1.out (by intro m hm; simp at hm; subst hm; show (⟨#[99]⟩ : ByteArray).size ≤ maxLen; decide)) chk_gC (by decide) (by decide) 0 true at_gC).mono ?_
  rintro e w2 ⟨rfl, hb2⟩
  have hn : nextE true ⟨#[104]⟩ ⟨#[99]⟩ = 0 := by decide
  have hf : nextA [gC] 0 true ⟨#[104]⟩ ⟨#[99]⟩ = 7 := by rw [nextA, hn]; rfl
  rw [hn, hf]
  have HB : Hid (Below w.heap.size w w2) := hb1.trans (hb2.mono hb1.size)
  clear hb1 hb2 hn hf
  go_wp2_with fail
  go_ret
  exact ⟨rfl, HB.out⟩

end Gw
end Go.Proofs.Ytjpcngkddejdjaf
