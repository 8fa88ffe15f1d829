/- The law CatalogFound. -/
import Derived.Test.YtjpcngkddejdjafSKSF
import Derived.Test.YtjpcngkddejdjafSKS2
namespace Go.Proofs.Ytjpcngkddejdjaf
namespace Sv
open Go.RowKit

theorem sl_row {w : World} {v : Value} {ms : List Svc} (h : Sl w v ms) (k : Nat) (hk : k < ms.length) : ∃ b off c, v = .slice (some ⟨b, off, none⟩) ms.length c ∧ b < w.heap.size ∧ w.cell? ⟨b, off + k * 9, none⟩ = some (.string (ms.getD k dm).node) ∧ w.cell? ⟨b, off + k * 9 + 1, none⟩ = some (.string (ms.getD k dm).idn) ∧ w.cell? ⟨b, off + k * 9 + 2, none⟩ = some (.string (ms.getD k dm).name) ∧ w.cell? ⟨b, off + k * 9 + 3, none⟩ = some (.string (ms.getD k dm).tag) ∧ w.cell? ⟨b, off + k * 9 + 4, none⟩ = some (.int .i64 (ms.getD k dm).addr) ∧ w.cell? ⟨b, off + k * 9 + 5, none⟩ = some (.int .i64 (ms.getD k dm).port) ∧ w.cell? ⟨b, off + k * 9 + 6, none⟩ = some (.bool (ms.getD k dm).passing) ∧ w.cell? ⟨b, off + k * 9 + 7, none⟩ = some (.int .i64 (ms.getD k dm).version) ∧ w.cell? ⟨b, off + k * 9 + 8, none⟩ = some (.bool (ms.getD k dm).gone) := by
  obtain ⟨a, c, rfl, _, h | ⟨b, off, rfl, hb, hr⟩⟩ := h
  · rw [h] at hk; simp at hk
  · exact ⟨b, off, c, rfl, hb, hr k hk⟩

/-- What CatalogFound leans on. -/
structure Found (ms : List Svc) (v : Value) (t : Svc) (X FM Y FY : List Svc) (k0 : Nat) (dE : Int) : Prop where
  reg : ∀ W, Sl W v ms → Calls Try.prog 9 #[v, .agg #[.string t.node, .string t.idn, .string t.name, .string t.tag, .int .i64 t.addr, .int .i64 t.port, .bool t.passing, .int .i64 t.version, .bool t.gone]] W fun e w' => ∃ v', e = .returned (.tuple #[v', .int .i64 0]) ∧ Below W.heap.size W w' ∧ Hid (Sl w' v' X)
  find : ∀ W u, Sl W u X → Calls Try.prog 10 #[u, .string t.name, .string t.tag] W fun e w' => ∃ v', e = .returned (.tuple #[v', .int .i64 0]) ∧ Below W.heap.size W w' ∧ Hid (Sl w' v' FM)
  at0 : ∀ W u, Sl W u FM → Calls Try.prog 11 #[u, .string t.node, .string t.idn] W fun e w' => e = .returned (.int .i64 k0) ∧ Below W.heap.size W w'
  k0lt : k0 < FM.length
  k0is : (FM.getD k0 dm).addr = t.addr ∧ (FM.getD k0 dm).port = t.port
  check : ∀ W u, Sl W u X → Calls Try.prog 12 #[u] W fun e w' => e = .returned (.int .i64 0) ∧ Below W.heap.size W w'
  others : ∀ i, i < ms.length → ¬ ((ms.getD i dm).node = t.node ∧ (ms.getD i dm).idn = t.idn) → ∃ k : Nat, k < X.length ∧ X.getD k dm = ms.getD i dm ∧ ∀ W u, Sl W u X → Calls Try.prog 11 #[u, .string (ms.getD i dm).node, .string (ms.getD i dm).idn] W fun e w' => e = .returned (.int .i64 k) ∧ Below W.heap.size W w'
  drop : ∀ W u, Sl W u X → Calls Try.prog 13 #[u, .string t.node, .string t.idn] W fun e w' => ∃ v', e = .returned (.tuple #[v', .int .i64 dE]) ∧ Below W.heap.size W w' ∧ Hid (dE = 0 → Sl w' v' Y)
  dcase : dE = 0 ∨ dE = 3
  join : dE = 0 → ∀ W u z, Sl W u X → Sl W z Y → Calls Try.prog 14 #[u, z] W fun e w' => ∃ v', e = .returned (.tuple #[v', .int .i64 0]) ∧ Below W.heap.size W w' ∧ Hid (Sl w' v' Y)
  same : dE = 0 → ∀ W u z, Sl W u Y → Sl W z Y → Calls Try.prog 15 #[u, z] W fun e w' => e = .returned (.bool true) ∧ Below W.heap.size W w'
  find2 : dE = 0 → ∀ W u, Sl W u Y → Calls Try.prog 10 #[u, .string t.name, .string t.tag] W fun e w' => ∃ v', e = .returned (.tuple #[v', .int .i64 0]) ∧ Below W.heap.size W w' ∧ Hid (Sl w' v' FY)
  gone : dE = 0 → ∀ W u, Sl W u FY → Calls Try.prog 11 #[u, .string t.node, .string t.idn] W fun e w' => e = .returned (.int .i64 (-1)) ∧ Below W.heap.size W w'
  xlen : X.length ≤ 40
  flen : FM.length ≤ 40

theorem found_of {ms : List Svc} {v : Value} {t : Svc} {w0 : World} (hv : Sl w0 v ms) (ht : t.ok) (h0 : chk ms = 0) {p : Nat} {f : Bool} (hat : At ms (keyOf t) p f) (hr : regE ms p f t = 0) (hp : t.passing = true) :
    ∃ X FM Y FY k0 dE, Found ms v t X FM Y FY k0 dE := by
  have hoks := sl_ok hv
  obtain ⟨hj1, hj2⟩ := reg_join h0 hat
  have hx := reg_chk h0 hat hr
  have hxo : ∀ m ∈ RL.put ms (reg ms p f t) p f, m.ok := put_ok hoks (reg_ok ht)
  have hz := chk_zero hx
  have hfe := reg_findE h0 hat hr
  obtain ⟨k0, hk1, hk2⟩ := reg_found h0 hat hr hp
  have hxa := reg_at h0 hat hr
  have hdo : (drp (RL.put ms (reg ms p f t) p f) p true).ok := by
    have h : (fnd (RL.put ms (reg ms p f t) p f) p true).ok := by rw [reg_fnd h0 hat hr]; exact reg_ok ht
    exact h
  have hyo : ∀ m ∈ RL.put (RL.put ms (reg ms p f t) p f) (drp (RL.put ms (reg ms p f t) p f) p true) p true, m.ok := put_ok hxo hdo
  have hdr := reg_dropped h0 hat hr
  have hfr : Rise (findL (RL.put ms (reg ms p f t) p f) t.name t.tag) := List.Pairwise.filter _ hz.2.1
  refine ⟨RL.put ms (reg ms p f t) p f, findL (RL.put ms (reg ms p f t) p f) t.name t.tag, RL.put (RL.put ms (reg ms p f t) p f) (drp (RL.put ms (reg ms p f t) p f) p true) p true, findL (RL.put (RL.put ms (reg ms p f t) p f) (drp (RL.put ms (reg ms p f t) p f) p true) p true) t.name t.tag, k0, dropE (RL.put ms (reg ms p f t) p f) p true t.node t.idn, ?_⟩
  constructor
  · intro W hW
    refine (register_good ms v t W hW h0 ht p f hat).mono ?_
    rw [hj1, hj2, hr]
    rintro e w' ⟨v', rfl, h1, h2, h3⟩
    exact ⟨v', rfl, h1, own_names (h3 rfl) hxo⟩
  · intro W u hu
    refine (findS_good _ u t.name t.tag W hu hx ht.2.2.1 ht.2.2.2 hfe).mono ?_
    rintro e w' ⟨v', rfl, h1, h2⟩
    exact ⟨v', rfl, h2, own_names h1 (findL_ok hxo)⟩
  · intro W u hu
    have ha : At (findL (RL.put ms (reg ms p f t) p f) t.name t.tag) t k0 true := RL.at_of ord dm keyed hfr hk1 (ord_zero.2 (by rw [hk2]; exact ⟨rfl, rfl⟩))
    have hl := findL_len (RL.put ms (reg ms p f t) p f) t.name t.tag
    exact refAtV _ u t W hu (by omega) hfr k0 true ha
  · exact hk1
  · rw [hk2]; exact ⟨rfl, rfl⟩
  · intro W u hu
    have h := check_any _ u W hu
    rw [hx] at h
    exact h
  · intro i hi hne
    obtain ⟨k, h1, h2⟩ := reg_others h0 hat hr hi hne
    refine ⟨k, h1, h2, fun W u hu => ?_⟩
    exact refAtV _ u (ms.getD i dm) W hu (by omega) hz.2.1 k true (RL.at_of ord dm keyed hz.2.1 h1 (by rw [h2]; exact keyed.refl _))
  · intro W u hu
    refine (drop_good _ u t.node t.idn W hu hx ht.1 ht.2.1 p true hxa).mono ?_
    rintro e w' ⟨v', rfl, h1, h2⟩
    exact ⟨v', rfl, h1, fun h => own_names (h2.out.2 h) hyo⟩
  · exact reg_drop h0 hat hr
  · intro hd W u z hu hz2
    obtain ⟨h1, h2, _, _⟩ := hdr hd
    refine (join_jx _ _ u z W hu hz2).mono ?_
    rw [h1, h2]
    rintro e w' ⟨v', rfl, h3, h4⟩
    exact ⟨v', rfl, h4, h3⟩
  · intro hd W u z hu hz2
    obtain ⟨_, _, h3, _⟩ := hdr hd
    exact same_eq _ u z W hu hz2 (by have := (chk_zero h3).1; omega)
  · intro hd W u hu
    obtain ⟨_, _, h3, _⟩ := hdr hd
    refine (findS_good _ u t.name t.tag W hu h3 ht.2.2.1 ht.2.2.2 hfe).mono ?_
    rintro e w' ⟨v', rfl, h1, h2⟩
    exact ⟨v', rfl, h2, own_names h1 (findL_ok hyo)⟩
  · intro hd W u hu
    obtain ⟨_, _, h3, h4⟩ := hdr hd
    have hl := findL_len (RL.put (RL.put ms (reg ms p f t) p f) (drp (RL.put ms (reg ms p f t) p f) p true) p true) t.name t.tag
    have hl2 := (chk_zero h3).1
    refine (refAt_any _ u t.node t.idn W hu (by omega)).mono ?_
    rintro e w' ⟨r, rfl, h5, rfl⟩
    rw [h4 r h5.out]
    exact ⟨rfl, Below.refl _ _⟩
  · exact hz.1
  · have hl := findL_len (RL.put ms (reg ms p f t) p f) t.name t.tag
    have := hz.1
    omega

end Sv
end Go.Proofs.Ytjpcngkddejdjaf
