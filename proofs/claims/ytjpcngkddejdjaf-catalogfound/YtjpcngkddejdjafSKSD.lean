
/- Drop, the document's and the program's. -/
import Derived.Test.YtjpcngkddejdjafSKS8
namespace Go.Proofs.Ytjpcngkddejdjaf
namespace Sv
open Go.RowKit

theorem labels2_any (a b : ByteArray) (ha : a.size ≤ maxLen) (hb : b.size ≤ maxLen) (W : World) :
    Calls Try.prog 36 #[.slice (some ⟨W.heap.size, 0, none⟩) 2 2] (W.alloc (.cells #[.string a, .string b] 9)) fun e w' => e = .returned (.bool (labB a && labB b)) ∧ w' = W.alloc (.cells #[.string a, .string b] 9) := by
  have hg := heap_alloc_new W (.cells #[.string a, .string b] 9)
  refine (labels_any [a, b] W.heap.size 2 _ (fun j hj => ?_) (fun j => ?_) (by simp)).mono ?_
  · rw [cellsAt hg]
    have : j = 0 ∨ j = 1 := by simp at hj; omega
    rcases this with rfl | rfl <;> rfl
  · match j with
    | 0 => exact ha
    | 1 => exact hb
    | _ + 2 => simp [List.getD]
  · rintro e w' ⟨rfl, rfl⟩
    exact ⟨ret_bool (by simp), rfl⟩

/-- A service that is gone. -/
def goneS (x : Svc) : Svc := { x with gone := true }
def dropE (ms : List Svc) (p : Nat) (f : Bool) (node idn : ByteArray) : Int :=
  if (labB node && labB idn) = true then (if (f && !(fnd ms p f).gone) = true then setE ms p f (goneS (fnd ms p f)) else 5) else 1
def drp (ms : List Svc) (p : Nat) (f : Bool) : Svc := setS ms p f (goneS (fnd ms p f))

theorem drp_join {ms : List Svc} (h0 : chk ms = 0) {p : Nat} {t : Svc} (hat : At ms t p true) :
    joinE ms [drp ms p true] = setE ms p true (goneS (fnd ms p true)) ∧ joinL ms [drp ms p true] = RL.put ms (drp ms p true) p true := by
  have hz := chk_zero h0
  have hp := (hat.is.1 rfl).1
  have hf : fnd ms p true = ms.getD p dm := if_pos rfl
  have h1 : At ms (drp ms p true) p true := RL.at_of ord dm keyed hz.2.1 hp (ord_zero.2 (by rw [← hf]; exact ⟨rfl, rfl⟩))
  have h2 : joinL ms [drp ms p true] = RL.put ms (drp ms p true) p true := (put_hear h1 (fun hf => up_new hf rfl)).symm
  refine ⟨?_, h2⟩
  have hv := fnd_ver hz.2.2 hat
  have he : (drp ms p true).e = if (asOne (fnd ms p true)).e = 0 then (if (fnd ms p true).version + 1 ≤ 1000000 then 0 else 3) else (asOne (fnd ms p true)).e := reg_e ms p true (fnd ms p true) hv.1
  have hx : (fnd ms p true).e = 0 := by rw [hf]; exact e_at hz.2.2 p hp
  have hone : (asOne (fnd ms p true)).e = 0 := by
    rw [e_if] at hx ⊢
    revert hx
    show _ → (if labB (fnd ms p true).node = true then (if labB (fnd ms p true).idn = true then (if labB (fnd ms p true).name = true then (if tagB (fnd ms p true).tag = true then (if within (fnd ms p true).addr 0 4294967295 = true then (if within (fnd ms p true).port 0 65535 = true then (if within (1 : Int) 1 1000000 = true then (0 : Int) else 3) else 3) else 3) else 1) else 1) else 1) else 1) = 0
    rw [show within (1 : Int) 1 1000000 = true by decide]
    cases labB (fnd ms p true).node <;> cases labB (fnd ms p true).idn <;> cases labB (fnd ms p true).name <;> cases tagB (fnd ms p true).tag <;> cases within (fnd ms p true).addr 0 4294967295 <;> cases within (fnd ms p true).port 0 65535 <;> simp
  rw [if_pos hone] at he
  unfold setE
  by_cases h4 : (fnd ms p true).version + 1 ≤ 1000000
  · rw [if_pos h4] at he ⊢
    rw [joinE_good h0 (by rw [chk_one]; exact he), h2]
    rfl
  · rw [if_neg h4] at he ⊢
    rw [joinE_bad2 h0 (by rw [chk_one, he]; decide), chk_one, he]

set_option maxHeartbeats 400000 in
theorem drop_bad (ms : List Svc) (v : Value) (node idn : ByteArray) (w : World) (hv : Sl w v ms) (hne : chk ms ≠ 0) :
    Calls Try.prog 13 #[v, .string node, .string idn] w fun e w' => e = .returned (.tuple #[.slice none 0 0, .int .i64 (chk ms)]) ∧ Below w.heap.size w w' := by
  have he : (chk ms != 0) = true := by simpa using hne
  have HV : Hid (Sl w v ms) := hv
  clear hne hv
  go_enter Try.func13, Try.ntmps13
  go_wp2_with (go_at_call 12; refine (check_any ms _ _ HV.out).mono ?_; rintro e w' ⟨rfl, hb2⟩)
  go_ret2
  exact ⟨rfl, hb2⟩

set_option maxHeartbeats 6400000 in
set_option maxRecDepth 100000 in
theorem drop_good (ms : List Svc) (v : Value) (node idn : ByteArray) (w : World) (hv : Sl w v ms) (h0 : chk ms = 0) (hs : node.size ≤ maxLen) (ht : idn.size ≤ maxLen) (p : Nat) (f : Bool) (hat : At ms ⟨node, idn, ⟨#[]⟩, ⟨#[]⟩, 0, 0, false, 0, false⟩ p f) :
    Calls Try.prog 13 #[v, .string node, .string idn] w fun e w' => ∃ v', e = .returned (.tuple #[v', .int .i64 (dropE ms p f node idn)]) ∧ Below w.heap.size w w' ∧ Hid ((dropE ms p f node idn ≠ 0 → v' = .slice none 0 0) ∧ (dropE ms p f node idn = 0 → Own w.heap.size w' v' (RL.put ms (drp ms p f) p f))) := by
  have he : (chk ms != 0) = false := by simpa using h0
  have hz := chk_zero h0
  have HV : Hid (Sl w v ms) := hv
  have HR : Hid (Rise ms) := hz.2.1
  have hlen := hz.1
  have hver := fnd_ver hz.2.2 hat
  have HAT : Hid (At ms ⟨node, idn, ⟨#[]⟩, ⟨#[]⟩, 0, 0, false, 0, false⟩ p f) := hat
  have HRP : Hid (f = true → ∀ W, Sl W v ms → Calls Try.prog 30 #[v, .agg #[.string (drp ms p f).node, .string (drp ms p f).idn, .string (drp ms p f).name, .string (drp ms p f).tag, .int .i64 (drp ms p f).addr, .int .i64 (drp ms p f).port, .bool (drp ms p f).passing, .int .i64 (drp ms p f).version, .bool (drp ms p f).gone]] W fun e w' => ∃ v', e = .returned (.tuple #[v', .int .i64 (setE ms p f (goneS (fnd ms p f)))]) ∧ Below W.heap.size W w' ∧
      (setE ms p f (goneS (fnd ms p f)) ≠ 0 → v' = .slice none 0 0) ∧ (setE ms p f (goneS (fnd ms p f)) = 0 → Own W.heap.size w' v' (RL.put ms (drp ms p f) p f))) := fun hf W hW => by
    subst hf
    have hp := (hat.is.1 rfl).1
    have hok : (drp ms p true).ok := by
      have h : (fnd ms p true).ok := by rw [fnd, if_pos rfl]; exact ns_get (sl_ok hv) p
      exact h
    have h := replace_any ms v (drp ms p true) W hW hok
    rw [(drp_join h0 hat).1, (drp_join h0 hat).2] at h
    exact h
  have HD : Hid (dropE ms p f node idn = if (labB node && labB idn) = true then (if (f && !(fnd ms p f).gone) = true then setE ms p f (goneS (fnd ms p f)) else 5) else 1) := rfl
  have HG : Hid (drp ms p f = { fnd ms p f with version := (fnd ms p f).version + 1, gone := true }) := rfl
  generalize dropE ms p f node idn = de at *
  generalize setE ms p f (goneS (fnd ms p f)) = se at *
  generalize RL.put ms (drp ms p f) p f = pl at *
  clear hv h0 hz hat
  rcases hl : (labB node && labB idn) with _ | _
  · have HN : Hid (de = 1) := (show de = 1 by rw [HD.out, hl]; rfl)
    go_enter Try.func13, Try.ntmps13
    go_wp2_with (first | (go_at_call 12; refine (check_any ms _ _ HV.out).mono ?_; rintro e w1 ⟨rfl, hb1⟩) | (go_at_call 36; refine (labels2_any _ _ hs ht _).mono ?_; rintro e w' ⟨rfl, rfl⟩; rw [hl]))
    go_ret2
    exact ⟨_, by rw [HN.out]; rfl, hb1.alloc hb1.size _, ⟨fun _ => rfl, fun h => by rw [HN.out] at h; cases h⟩⟩
  · have HN : Hid (de = if (f && !(fnd ms p f).gone) = true then se else 5) := (show de = _ by rw [HD.out, hl, if_pos rfl])
    clear HD
    go_enter Try.func13, Try.ntmps13
    go_wp2_with (first | (go_at_call 12; refine (check_any ms _ _ HV.out).mono ?_; rintro e w1 ⟨rfl, hb1⟩) | (go_at_call 36; refine (labels2_any _ _ hs ht _).mono ?_; rintro e w' ⟨rfl, rfl⟩; rw [hl]))
    have hbx := hb1.alloc hb1.size (.cells #[.string node, .string idn] 9)
    refine (find2_any ms _ node idn _ (HV.out.below hbx) hlen HR.out).mono ?_
    rintro e w2 ⟨p', f', rfl, hb2, hat'⟩
    obtain ⟨rfl, rfl⟩ := at_uniq HAT.out hat'
    have HB2 : Hid (Below w.heap.size w w2) := hbx.trans (hb2.mono (by simp; have := hb1.size; omega))
    clear hat' hb1 hb2 hbx
    have hs2 := HB2.out.size
    generalize hdr : drp ms p f = dr at *
    generalize fnd ms p f = kn at *
    obtain ⟨k_node, k_idn, k_name, k_tag, k_addr, k_port, k_passing, k_version, k_gone⟩ := kn
    simp only at hver
    obtain ⟨hv0, hv1⟩ := hver
    cases f
    · have HN5 : Hid (de = 5) := (show de = 5 by rw [HN.out]; rfl)
      go_wp2_with fail
      go_ret2
      exact ⟨_, by rw [HN5.out]; rfl, HB2.out.alloc hs2 _, ⟨fun _ => rfl, fun h => by rw [HN5.out] at h; cases h⟩⟩
    · cases k_gone
      · have HNS : Hid (de = se) := (show de = se by rw [HN.out]; rfl)
        have HRQ := HRP.out rfl
        rw [HG.out] at HRQ
        have HRQ' : Hid (∀ W, Sl W v ms → Calls Try.prog 30 #[v, .agg #[.string k_node, .string k_idn, .string k_name, .string k_tag, .int .i64 k_addr, .int .i64 k_port, .bool k_passing, .int .i64 (k_version + 1), .bool true]] W fun e w' => ∃ v', e = .returned (.tuple #[v', .int .i64 se]) ∧ Below W.heap.size W w' ∧ (se ≠ 0 → v' = .slice none 0 0) ∧ (se = 0 → Own W.heap.size w' v' pl)) := HRQ
        clear HRQ HRP HG
        have HBY : Hid (Below w.heap.size w (w2.alloc (.cells #[.string k_node, .string k_idn, .string k_name, .string k_tag, .int .i64 k_addr, .int .i64 k_port, .bool k_passing, .int .i64 (k_version + 1), .bool true] 24))) := HB2.out.alloc hs2 _
        go_wp2_with fail
        refine (HRQ'.out _ (HV.out.below HBY.out)).mono ?_
        rintro e w3 ⟨v3, rfl, hb3, hbad, hgood⟩
        have HBAD : Hid (se ≠ 0 → v3 = .slice none 0 0) := hbad
        have HB3 : Hid (Below w.heap.size w w3) := HBY.out.trans (hb3.mono (by simp; omega))
        have HGOOD : Hid (se = 0 → Own w.heap.size w3 v3 pl) := fun h => (hgood h).mono (by simp; omega)
        clear hbad hgood hb3
        go_wp2_with fail
        go_ret2
        exact ⟨v3, by rw [HNS.out]; rfl, HB3.out, ⟨fun h => HBAD.out (by rw [← HNS.out]; exact h), fun h => HGOOD.out (by rw [← HNS.out]; exact h)⟩⟩
      · have HN5 : Hid (de = 5) := (show de = 5 by rw [HN.out]; rfl)
        go_wp2_with fail
        go_ret2
        exact ⟨_, by rw [HN5.out]; rfl, HB2.out.alloc hs2 _, ⟨fun _ => rfl, fun h => by rw [HN5.out] at h; cases h⟩⟩

end Sv
end Go.Proofs.Ytjpcngkddejdjaf
