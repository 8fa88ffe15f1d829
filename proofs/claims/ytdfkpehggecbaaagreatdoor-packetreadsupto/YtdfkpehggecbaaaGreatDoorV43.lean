/- JW -/
import Derived.Test.YtdfkpehggecbaaaGreatDoorV42
import Derived.Laws.EntriesVeiled
/- Packets: Read, in full. -/
namespace Go.Proofs.YtdfkpehggecbaaaGreatDoor
open Go.RowKit

/-- I3: what Read says. -/
def ReadSays (w : World) (o : Option Pk) (e : Ending) (w' : World) : Prop :=
  Below w.heap.size w w' ∧ ((∃ p vm vs vg vw, o = some p ∧ e = .returned (.tuple #[.agg #[.string p.frm, .bool p.whole, vm, vs, vg, vw], .int .i64 0]) ∧ PkOwn w.heap.size w' p vm vs vg vw) ∨ (o = none ∧ e = .returned (.tuple #[.agg #[.string ⟨#[]⟩, .bool false, .slice none 0 0, .slice none 0 0, .slice none 0 0, .slice none 0 0], .int .i64 1])))
theorem below_of {w w' : World} (B : Nat) (h1 : w'.os = w.os) (h2 : w'.tape = w.tape) (h3 : w'.output = w.output) (h4 : w.heap.size ≤ w'.heap.size) (h5 : ∀ k, k < B → w'.heap[k]? = w.heap[k]?) : Below B w w' := ⟨h1, h2, h3, h4, h5⟩

set_option maxHeartbeats 6400000 in
set_option maxRecDepth 100000 in
theorem pread_b {B : Nat} {l : List UInt8} {w : World} (hV : Rv B w) (hs : l.length ≤ 16777216) :
    Calls Tryz.prog 12 #[.string (bstr l)] w (ReadSays w (rdR l)) := by
  have hmf : ∀ (fn : Fn) (first cap : Array Value) (w : World), (Instr.makeFunc fn first cap).run Tryz.prog w = .ok (.func fn first cap) w := fun _ _ _ _ => rfl
  have ef : ∀ (args : Array Value) (W : World), (callFunc 32 args).run Tryz.prog W = .ok (.enter 32 args) W := enters_of Tryz.func32 (by kernel_rfl) rfl
  obtain ⟨W0, hW0⟩ : ∃ W0, W0 = ((w.alloc (.cells #[.string (bstr l)] 9)).alloc (.cells #[.string ⟨#[]⟩, .bool false, .slice none 0 0, .slice none 0 0, .slice none 0 0, .slice none 0 0] 27)).alloc (.cells #[.string ⟨#[]⟩, .bool false, .slice none 0 0, .slice none 0 0, .slice none 0 0, .slice none 0 0] 27) := ⟨_, rfl⟩
  have hb0 : Below w.heap.size w W0 := by rw [hW0]; exact (((Below.refl _ _).alloc (Nat.le_refl _) _).alloc (by simp) _).alloc (by simp; omega) _
  have hs0 : W0.heap.size = w.heap.size + 3 := by rw [hW0]; simp
  have k0 : W0.heap[w.heap.size]? = some (.cells #[.string (bstr l)] 9 (0, 0)) := by
    rw [hW0]
    exact (Lib.alloc_old _ _ _ (by simp; omega)).trans ((Lib.alloc_old _ _ _ (by simp)).trans (heap_alloc_new w _))
  have k1 : W0.heap[w.heap.size + 1]? = some (.cells #[.string ⟨#[]⟩, .bool false, .slice none 0 0, .slice none 0 0, .slice none 0 0, .slice none 0 0] 27 (0, 0)) := by
    rw [hW0]
    have := heap_alloc_new (w.alloc (.cells #[.string (bstr l)] 9)) (.cells #[.string ⟨#[]⟩, .bool false, .slice none 0 0, .slice none 0 0, .slice none 0 0, .slice none 0 0] 27)
    exact (Lib.alloc_old _ _ _ (by simp)).trans (by simpa using this)
  have k2 : W0.heap[w.heap.size + 2]? = some (.cells #[.string ⟨#[]⟩, .bool false, .slice none 0 0, .slice none 0 0, .slice none 0 0, .slice none 0 0] 27 (0, 0)) := by
    rw [hW0]
    have := heap_alloc_new ((w.alloc (.cells #[.string (bstr l)] 9)).alloc (.cells #[.string ⟨#[]⟩, .bool false, .slice none 0 0, .slice none 0 0, .slice none 0 0, .slice none 0 0] 27)) (.cells #[.string ⟨#[]⟩, .bool false, .slice none 0 0, .slice none 0 0, .slice none 0 0, .slice none 0 0] 27)
    simpa using this
  obtain ⟨W1, hW1⟩ : ∃ W1, W1 = W0.alloc (.cells #[.int .i64 0] 28) := ⟨_, rfl⟩
  have hb1 : Below W0.heap.size W0 W1 := by rw [hW1]; exact (Below.refl _ _).alloc (Nat.le_refl _) _
  have hs1 : W1.heap.size = w.heap.size + 4 := by rw [hW1]; simp; omega
  have ke : W1.heap[W0.heap.size]? = some (.cells #[.int .i64 0] 28 (0, 0)) := by rw [hW1]; exact heap_alloc_new W0 _
  have HRD : Hid (Calls Tryz.prog 32 #[.pointer (some ⟨w.heap.size, 0, none⟩), .pointer (some ⟨w.heap.size + 2, 0, none⟩)] W1 (ReP (w.heap.size + 2) W1 (rdR l))) :=
    read1_b (hV.below ((hb0.mono hV.le).trans (hb1.mono (by have := hV.le; omega)))) hs ((hb1.cell (p := ⟨w.heap.size, 0, none⟩) (by show w.heap.size < W0.heap.size; omega)).trans (cellsAt k0 0)) ((hb1.block _ (by omega)).trans k2)
  have HE : Hid (∀ w', Rp (w.heap.size + 2) W1 w' → w'.cell? ⟨W0.heap.size, 0, none⟩ = some (.int .i64 0) ∧ w'.frozen? ⟨W0.heap.size, 0, none⟩ = false ∧ W0.heap.size < w'.heap.size) := fun w' hr => by
    have e := hr.block' (k := W0.heap.size) (by omega) ke
    exact ⟨cellsAt e 0, by simp [World.frozen?, e], (Array.getElem?_eq_some_iff.1 e).1⟩
  have HK1 : Hid (∀ w', Rp (w.heap.size + 2) W1 w' → w'.heap[w.heap.size + 1]? = some (.cells #[.string ⟨#[]⟩, .bool false, .slice none 0 0, .slice none 0 0, .slice none 0 0, .slice none 0 0] 27 (0, 0))) := fun w' hr => hr.block' (by omega) ((hb1.block _ (by omega)).trans k1)
  have HBW : Hid (∀ w', Rp (w.heap.size + 2) W1 w' → Below w.heap.size w w') := fun w' hr => (hb0.trans (hb1.mono (by omega))).trans (hr.below (B := w.heap.size) (by omega) (by omega))
  have HS0 : Hid (W0.heap.size = w.heap.size + 3) := hs0
  have HS1 : Hid (W1.heap.size = w.heap.size + 4) := hs1
  clear hV hs hb0 hb1 k0 k1 k2 ke hs0 hs1
  cases hR : rdR l with
  | some p =>
    rw [hR] at HRD
    have HAT : Hid (Calls Tryz.prog 35 #[.func (.func 32) #[] #[.pointer (some ⟨w.heap.size, 0, none⟩), .pointer (some ⟨w.heap.size + 2, 0, none⟩)]] W0 fun r w' => r = .returned (.int .i64 0) ∧ ∃ w1, (Rp (w.heap.size + 2) W1 w1 ∧ ∃ vm vs vg vw, w1.heap[w.heap.size + 2]? = some (.cells #[.string p.frm, .bool p.whole, vm, vs, vg, vw] 27 (0, 0)) ∧ PkOwn (W1.heap.size + 1) w1 p vm vs vg vw) ∧ W0.heap.size < w1.heap.size ∧ w' = w1.setCell ⟨W0.heap.size, 0, none⟩ (.int .i64 0)) :=
      attempt_ok _ _ W0 (fun w1 => Rp (w.heap.size + 2) W1 w1 ∧ ∃ vm vs vg vw, w1.heap[w.heap.size + 2]? = some (.cells #[.string p.frm, .bool p.whole, vm, vs, vg, vw] 27 (0, 0)) ∧ PkOwn (W1.heap.size + 1) w1 p vm vs vg vw) ef (by
        rw [← hW1]
        refine HRD.out.mono ?_
        rintro e w' ⟨hr, ⟨q, vm, vs, vg, vw, hq, rfl, h1, h2⟩ | ⟨hq, _⟩⟩
        · simp only [Option.some.injEq] at hq
          subst hq
          exact ⟨rfl, ⟨hr, vm, vs, vg, vw, h1, h2⟩, HE.out w' hr⟩
        · cases hq)
    clear HRD hR hW1
    go_enter Tryz.func12, Tryz.ntmps12
    go_wp2_with fail
    rw [← hW0]
    clear hW0
    refine HAT.out.mono ?_
    rintro e w2 ⟨rfl, w1, ⟨hr, vm, vs, vg, vw, h1, h2⟩, hlt, hw2⟩
    obtain ⟨a2, l2, c2, rfl⟩ := slice_of_row h2.ms
    obtain ⟨a3, l3, c3, rfl⟩ := slice_of_row h2.sv
    obtain ⟨a4, l4, c4, rfl⟩ := slice_of_row h2.gw
    obtain ⟨a5, l5, c5, rfl⟩ := slice_of_row h2.wh
    have hoth : ∀ k, k ≠ W0.heap.size → w2.heap[k]? = w1.heap[k]? := fun k hk => by rw [hw2]; exact Below.heap_setCell _ _ _ k hk
    have hk1 : w2.heap[w.heap.size + 1]? = some (.cells #[.string ⟨#[]⟩, .bool false, .slice none 0 0, .slice none 0 0, .slice none 0 0, .slice none 0 0] 27 (0, 0)) := (hoth _ (by have := HS0.out; omega)).trans (HK1.out w1 hr)
    have hk2 : w2.heap[w.heap.size + 2]? = some (.cells #[.string p.frm, .bool p.whole, .slice a2 l2 c2, .slice a3 l3 c3, .slice a4 l4 c4, .slice a5 l5 c5] 27 (0, 0)) := (hoth _ (by have := HS0.out; omega)).trans h1
    have ho2 : PkOwn (W1.heap.size + 1) w2 p (.slice a2 l2 c2) (.slice a3 l3 c3) (.slice a4 l4 c4) (.slice a5 l5 c5) := h2.keep (fun b hb _ => hoth b (by have := HS0.out; have := HS1.out; omega))
    have hbw : Below w.heap.size w w2 := by
      have h := HBW.out w1 hr
      rw [hw2]
      exact h.setCell (p := ⟨W0.heap.size, 0, none⟩) (by have := HS0.out; show w.heap.size ≤ W0.heap.size; omega) _
    obtain ⟨w3, hw3⟩ : ∃ w3, w3 = setAll (w.heap.size + 1) [.string p.frm, .bool p.whole, .slice a2 l2 c2, .slice a3 l3 c3, .slice a4 l4 c4, .slice a5 l5 c5] 0 w2 := ⟨_, rfl⟩
    have hk3 : w3.heap[w.heap.size + 1]? = some (.cells #[.string p.frm, .bool p.whole, .slice a2 l2 c2, .slice a3 l3 c3, .slice a4 l4 c4, .slice a5 l5 c5] 27 (0, 0)) := by rw [hw3]; exact setAll6 hk1 _ _ _ _ _ _
    have HO3 : Hid (PkOwn w.heap.size w3 p (.slice a2 l2 c2) (.slice a3 l3 c3) (.slice a4 l4 c4) (.slice a5 l5 c5)) := (ho2.keep (fun b hb _ => by rw [hw3]; exact setAll_other (by have := HS1.out; omega) _ _ _)).mono (by have := HS1.out; omega)
    have HB3 : Hid (Below w.heap.size w w3) := by rw [hw3]; exact setAll_below (by omega) _ _ hbw
    obtain ⟨b0, b1, b2, b3, b4, b5⟩ := cells6 hk1
    obtain ⟨z0, z1, z2, z3, z4, z5⟩ := free6 hk1
    obtain ⟨f0, f1, f2, f3, f4, f5⟩ := cells6 hk2
    obtain ⟨g0, g1, g2, g3, g4, g5⟩ := cells6 hk3
    have HRES : Hid (ReadSays w (some p) (.returned (.tuple #[.agg #[.string p.frm, .bool p.whole, .slice a2 l2 c2, .slice a3 l3 c3, .slice a4 l4 c4, .slice a5 l5 c5], .int .i64 0])) w3) := ⟨HB3.out, .inl ⟨p, _, _, _, _, rfl, rfl, HO3.out⟩⟩
    generalize hpp : (some p : Option Pk) = op at *
    clear hpp HO3 HB3 HAT hk1 hk2 hk3 ho2 hbw hoth h1 h2 hr hlt hw2 HE HK1 HBW HS0 HS1
    obtain ⟨q0, q1, qm, qs, qg, qw⟩ := p
    simp only at f0 f1 g0 g1 HRES hw3
    clear qm qs qg qw
    go_wp2_with fail
    simp only [setAll, Nat.zero_add, Nat.reduceAdd] at hw3
    rw [← hw3]
    clear hw3 b0 b1 b2 b3 b4 b5 z0 z1 z2 z3 z4 z5 f0 f1 f2 f3 f4 f5
    exact bodyPost_ret (v := .tuple #[.agg #[.string q0, .bool q1, .slice a2 l2 c2, .slice a3 l3 c3, .slice a4 l4 c4, .slice a5 l5 c5], .int .i64 0]) (by simp [results, Tryz.results12, go_sem, g0, g1, g2, g3, g4, g5]) rfl HRES.out
  | none =>
    rw [hR] at HRD
    have HAT : Hid (Calls Tryz.prog 35 #[.func (.func 32) #[] #[.pointer (some ⟨w.heap.size, 0, none⟩), .pointer (some ⟨w.heap.size + 2, 0, none⟩)]] W0 fun r w' => r = .returned (.int .i64 1) ∧ ∃ w1, Rp (w.heap.size + 2) W1 w1 ∧ W0.heap.size < w1.heap.size ∧ Below W0.heap.size w1 w') :=
      attempt_no _ _ 1 W0 (fun w1 => Rp (w.heap.size + 2) W1 w1) ef (by
        rw [← hW1]
        refine HRD.out.mono ?_
        rintro e w' ⟨hr, ⟨q, vm, vs, vg, vw, hq, rfl, h1, h2⟩ | ⟨_, rfl⟩⟩
        · cases hq
        · exact ⟨rfl, hr, HE.out w' hr⟩)
    clear HRD hR hW1
    go_enter Tryz.func12, Tryz.ntmps12
    go_wp2_with fail
    rw [← hW0]
    clear hW0
    refine HAT.out.mono ?_
    rintro e w2 ⟨rfl, w1, hr, hlt, hb2⟩
    have hk1 : w2.heap[w.heap.size + 1]? = some (.cells #[.string ⟨#[]⟩, .bool false, .slice none 0 0, .slice none 0 0, .slice none 0 0, .slice none 0 0] 27 (0, 0)) := (hb2.block _ (by have := HS0.out; omega)).trans (HK1.out w1 hr)
    have hbw : Below w.heap.size w w2 := (HBW.out w1 hr).trans (hb2.mono (by have := HS0.out; omega))
    obtain ⟨w3, hw3⟩ : ∃ w3, w3 = setAll (w.heap.size + 1) [.string ⟨#[]⟩, .bool false, .slice none 0 0, .slice none 0 0, .slice none 0 0, .slice none 0 0] 0 w2 := ⟨_, rfl⟩
    have hk3 : w3.heap[w.heap.size + 1]? = some (.cells #[.string ⟨#[]⟩, .bool false, .slice none 0 0, .slice none 0 0, .slice none 0 0, .slice none 0 0] 27 (0, 0)) := by rw [hw3]; exact setAll6 hk1 _ _ _ _ _ _
    have HRES : Hid (ReadSays w none (.returned (.tuple #[.agg #[.string ⟨#[]⟩, .bool false, .slice none 0 0, .slice none 0 0, .slice none 0 0, .slice none 0 0], .int .i64 1])) w3) := ⟨by rw [hw3]; exact setAll_below (by omega) _ _ hbw, .inr ⟨rfl, rfl⟩⟩
    obtain ⟨b0, b1, b2, b3, b4, b5⟩ := cells6 hk1
    obtain ⟨z0, z1, z2, z3, z4, z5⟩ := free6 hk1
    obtain ⟨g0, g1, g2, g3, g4, g5⟩ := cells6 hk3
    generalize hpp : (none : Option Pk) = op at *
    clear hpp HAT hk1 hk3 hbw hr hlt hb2 HE HK1 HBW HS0 HS1
    go_wp2_with fail
    simp only [setAll, Nat.zero_add, Nat.reduceAdd] at hw3
    rw [← hw3]
    clear hw3 b0 b1 b2 b3 b4 b5 z0 z1 z2 z3 z4 z5
    exact bodyPost_ret (v := .tuple #[.agg #[.string ⟨#[]⟩, .bool false, .slice none 0 0, .slice none 0 0, .slice none 0 0, .slice none 0 0], .int .i64 1]) (by simp [results, Tryz.results12, go_sem, g0, g1, g2, g3, g4, g5]) rfl HRES.out

end Go.Proofs.YtdfkpehggecbaaaGreatDoor

