
/- The law RumorEnds, whatever it is handed. -/
import Derived.Test.YtdcekfbejjjkkaaRE4
import Derived.Test.YtdcekfbejjjkkaaRUN
import Derived.SizedLaws
namespace Go.Proofs.Ytdcekfbejjjkkaa
open Go.RowKit Go.ChangeShapes Go.WideShapes

theorem wf_i64 {n : Int} (h : (Lit.int .i64 n).wf = true) : -9223372036854775808 ≤ n ∧ n ≤ 9223372036854775807 := by
  simp only [Lit.wf, Bool.and_eq_true, decide_eq_true_eq] at h
  exact h
theorem Try.bytesR : Try.prog.bytesOf 47 = 56 := by kernel_rfl

theorem rumorEnds_walk (rs : List Rum) (v : Value) (most times : Int) (w : World) (hv : RSl w v rs) (hl : rs.length ≤ 35184372088832) (hm : (Lit.int .i64 most).wf = true) (ht : (Lit.int .i64 times).wf = true) :
    Calls Try.prog 6 #[v, .int .i64 most, .int .i64 times] w fun e w' => e = .returned (.bool true) ∧ Below w.heap.size w w' := by
  obtain ⟨hm1, hm2⟩ := wf_i64 hm
  obtain ⟨ht1, ht2⟩ := wf_i64 ht
  by_cases h0 : chkR rs = 0
  · exact ends_good rs v most times w hv hm1 hm2 ht1 ht2 h0
  · exact ends_bad rs v most times w hv hl hm1 hm2 ht1 ht2 h0

section
variable {H : Type} {enc : TypeId × Value → H} {w : World} {base : Nat} {spare : Nat → Bool} {held : Bool}
set_option maxRecDepth 100000 in
theorem rs_small {r : Reach} {b0 : Nat} {v : Value} {d : DataW H} {p : List MemPlace} (hv : Value.okWide Try.prog w r b0 22 v) (h : DataW.Trod enc Try.prog w base spare held 22 v d p) {rs : List Rum} (hs : RSl w v rs)
    (hz : ∀ elems spare, d = .slice elems spare → (elems.length + spare.length) * 56 ≤ reachBytes) : rs.length ≤ 35184372088832 := by
  obtain ⟨a, len, cap, rfl⟩ := okWide_slice Try.underlying22 hv
  obtain ⟨a', c', hva, _, _⟩ := hs
  simp only [Value.slice.injEq] at hva
  obtain ⟨_, hlen, _⟩ := hva
  obtain ⟨fuel, hf⟩ := h
  have hr := reachBytes_lt
  rcases Go.Deep.open_slice Try.underlying22 hf with ⟨hcs, _⟩ | ⟨x, l, c, m, n, D, Pl, hcs, hb, hl, hm, hmm, hx, _⟩
  · simp [Value.cells] at hcs
    omega
  · simp [Value.cells] at hcs
    have h1 := hz _ _ (congrArg Prod.fst hx)
    simp only [List.length_map, List.length_range] at h1
    omega
end

end Go.Proofs.Ytdcekfbejjjkkaa
