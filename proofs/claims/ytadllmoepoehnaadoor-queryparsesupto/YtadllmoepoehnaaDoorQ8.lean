/- The names of queries; the document's print. -/
import Derived.Test.YtadllmoepoehnaaDoorQ5
import Derived.Test.YtadllmoepoehnaaDoorQ7
namespace Go.Proofs.YtadllmoepoehnaaDoor
open Go.RowKit

def bytes (s : ByteArray) : List UInt8 := s.data.toList
/-- Not at all, if it is empty. -/
def opt (s : ByteArray) : List (List UInt8) := if s.size = 0 then [] else [bytes s]
/-- The labels of a query's name. -/
def pLabs (q : Qu) : List (List UInt8) :=
  if q.node.size = 0 then opt q.tag ++ (opt q.service ++ ([lServ] ++ (opt q.centre ++ [lMesh]))) else opt q.node ++ ([lNode] ++ (opt q.centre ++ [lMesh]))
def prt (q : Qu) : ByteArray := mk (jn (pLabs q))
def prE (q : Qu) : Int := if chkQ q = 0 then chkN (prt q) else chkQ q
def prS (q : Qu) : ByteArray := if prE q = 0 then prt q else ⟨#[]⟩

theorem opt_full {s : ByteArray} (h : s.size ≠ 0) : opt s = [bytes s] := if_neg h
theorem opt_none {s : ByteArray} (h : s.size = 0) : opt s = [] := if_pos h
theorem chkQ_zero {q : Qu} (h : chkQ q = 0) : frmQ q = false ∧ labE q.service = true ∧ labE q.tag = true ∧ labE q.node = true ∧ labE q.centre = true ∧ wordB q = false := by
  unfold chkQ at h
  split at h
  · omega
  · rename_i h1
    split at h
    · omega
    · rename_i h2
      split at h
      · omega
      · rename_i h3
        have h2' : [q.service, q.tag, q.node, q.centre].all labE = true := by simpa using h2
        simp only [List.all_cons, List.all_nil, Bool.and_true, Bool.and_eq_true] at h2'
        exact ⟨by simpa using h1, h2'.1, h2'.2.1, h2'.2.2.1, h2'.2.2.2, by simpa using h3⟩
theorem labE_size {s : ByteArray} (h : labE s = true) : s.size ≤ 30 := by
  unfold labE at h
  simp only [Bool.or_eq_true, decide_eq_true_eq] at h
  rcases h with rfl | h
  · decide
  · unfold labB at h
    simp only [Bool.and_eq_true, decide_eq_true_eq] at h
    exact h.1.2
theorem ba_app (a b : ByteArray) : a ++ b = mk (bytes a ++ bytes b) := by
  rw [← mk_data (a ++ b)]
  simp [bytes]
theorem bytes_mk (l : List UInt8) : bytes (mk l) = l := data_mk l

theorem qbox {w w1 : World} {a b c d : Value} {t : TypeId} (h : Below (w.alloc (.cells #[a, b, c, d] t)).heap.size (w.alloc (.cells #[a, b, c, d] t)) w1) :
    w1.cell? ⟨w.heap.size, 0, none⟩ = some a ∧ w1.cell? ⟨w.heap.size, 1, none⟩ = some b ∧ w1.cell? ⟨w.heap.size, 2, none⟩ = some c ∧ w1.cell? ⟨w.heap.size, 3, none⟩ = some d ∧ Hid (Below w.heap.size w w1) ∧ w.heap.size < w1.heap.size := by
  have hg : w1.heap[w.heap.size]? = some (.cells #[a, b, c, d] t (0, 0)) := (h.block _ (by simp)).trans (heap_alloc_new w _)
  exact ⟨cellsAt hg 0, cellsAt hg 1, cellsAt hg 2, cellsAt hg 3, ((Below.refl _ _).alloc (Nat.le_refl _) _).trans (h.mono (by simp)), (Array.getElem?_eq_some_iff.1 hg).1⟩
theorem lit1 : (ByteArray.mk #[46, 115, 101, 114, 118, 105, 99, 101, 46]).size = 9 := rfl
theorem lit2 : (ByteArray.mk #[109, 101, 115, 104]).size = 4 := rfl
theorem lit3 : (ByteArray.mk #[46]).size = 1 := rfl
theorem lit4 : (ByteArray.mk #[46, 110, 111, 100, 101, 46]).size = 6 := rfl
theorem ret2_eq {a b : ByteArray} {x y : Int} (h1 : a = b) (h2 : x = y) : Ending.returned (.tuple #[.string a, .int .i64 x]) = .returned (.tuple #[.string b, .int .i64 y]) := by rw [h1, h2]
theorem prS_ret {E : Int} {T S : ByteArray} (h : S = if E = 0 then T else ⟨#[]⟩) (h0 : E = 0) : S = T := by rw [h, if_pos h0]

set_option maxHeartbeats 3200000 in
set_option maxRecDepth 100000 in
theorem printOf_any (q : Qu) (w : World) (hq : q.ok) :
    Calls Tryd.prog 7 #[.agg #[.string q.service, .string q.tag, .string q.node, .string q.centre]] w fun e w' => e = .returned (.tuple #[.string (prS q), .int .i64 (prE q)]) ∧ Below w.heap.size w w' := by
  have HCQ : Hid (∀ W, Calls Tryd.prog 10 #[.agg #[.string q.service, .string q.tag, .string q.node, .string q.centre]] W fun e w' => e = .returned (.int .i64 (chkQ q)) ∧ Below W.heap.size W w') := fun W => rCheckQ_any q W hq
  by_cases h0 : chkQ q = 0
  · obtain ⟨zf, z1, z2, z3, z4, _⟩ := chkQ_zero h0
    have hsn : q.node.size = 0 → q.service.size ≠ 0 := fun hn hs => by
      unfold frmQ at zf
      simp [hn, hs] at zf
    have y1 := labE_size z1
    have y2 := labE_size z2
    have y3 := labE_size z3
    have y4 := labE_size z4
    clear z1 z2 z3 z4 zf
    have HCN : Hid (∀ (t : ByteArray) W, t = prt q → t.size ≤ 2000000 → Calls Tryd.prog 16 #[.string t] W fun e w' => e = .returned (.int .i64 (chkN (prt q))) ∧ Below W.heap.size W w') := fun t W h hz => by
      rw [← h]; exact rCheckName_any t W hz
    have HE : Hid (prE q = chkN (prt q)) := if_pos h0
    have HS : Hid (prS q = if prE q = 0 then prt q else ⟨#[]⟩) := rfl
    have HP : Hid (prt q = mk (jn (pLabs q))) := rfl
    have HPL : Hid (pLabs q = if q.node.size = 0 then opt q.tag ++ (opt q.service ++ ([lServ] ++ (opt q.centre ++ [lMesh]))) else opt q.node ++ ([lNode] ++ (opt q.centre ++ [lMesh]))) := rfl
    rw [h0] at HCQ
    generalize pLabs q = PL at *
    generalize prS q = S at *
    generalize hce : chkN (prt q) = ce' at *
    generalize prt q = T at *
    generalize prE q = E at *
    clear h0 hq hce
    obtain ⟨sv, tg, nd, ce⟩ := q
    simp only at HCQ HPL y1 y2 y3 y4 hsn ⊢
    by_cases hn : nd.size = 0 <;> by_cases ht : tg.size = 0 <;> by_cases hc : ce.size = 0
    all_goals
      have HPL2 := HPL.out
      simp only [hn, if_true, if_false] at HPL2
      clear HPL
      first | (rw [opt_full (hsn hn)] at HPL2) | (rw [opt_full hn] at HPL2)
      first | (rw [opt_none ht] at HPL2) | (rw [opt_full ht] at HPL2) | skip
      first | (rw [opt_none hc] at HPL2) | (rw [opt_full hc] at HPL2)
      have HT : Hid (T = mk (jn PL)) := HP.out
      rw [HPL2] at HT
      clear HP HPL2 hsn
      first | (have en := isempty hn; subst en) | (obtain ⟨n1, n2⟩ := nempty hn)
      first | (have et := isempty ht; subst et) | (obtain ⟨t1, t2⟩ := nempty ht)
      first | (have ec := isempty hc; subst ec) | (obtain ⟨c1, c2⟩ := nempty hc)
      clear hn ht hc
      go_enter Tryd.func7, Tryd.ntmps7
      go_wp2_with fail
      refine (HCQ.out _).mono ?_
      rintro e w1 ⟨rfl, hb1⟩
      obtain ⟨f0, f1, f2, f3, HB1, hl1⟩ := qbox hb1
      clear hb1
      go_wp2_with fail
      refine (HCN.out _ w1 ?_ ?_).mono ?_
      · rw [HT.out]
        simp [ba_app, jn, bytes, mk]
      · simp only [ByteArray.size_append, lit1, lit2, lit3, lit4]
        omega
      rintro e w2 ⟨rfl, hb2⟩
      have HBT : Hid (Below w.heap.size w w2) := HB1.out.trans (hb2.mono (Nat.le_of_lt hl1))
      clear HCN hb2 f0 f1 f2 f3
      by_cases hz : ce' = 0
      · have HS2 : Hid (S = T) := prS_ret HS.out (by rw [HE.out]; exact hz)
        subst hz
        go_wp2_with fail
        go_ret2
        refine ⟨ret2_eq ?_ HE.out.symm, HBT.out⟩
        rw [HS2.out, HT.out]
        simp [ba_app, jn, bytes, mk]
      · have HS2 : Hid (S = ⟨#[]⟩) := (show S = ⟨#[]⟩ by rw [HS.out, if_neg (by rw [HE.out]; exact hz)])
        have hz2 : (ce' == 0) = false := by simpa using hz
        go_wp2_with fail
        go_ret2
        exact ⟨ret2_eq HS2.out.symm HE.out.symm, HBT.out⟩
  · have HE : Hid (prE q = chkQ q) := if_neg h0
    have HS : Hid (prS q = ⟨#[]⟩) := if_neg (by rw [HE.out]; exact h0)
    rw [HE.out, HS.out]
    have h1 : (chkQ q == 0) = false := by simpa using h0
    clear HE HS
    generalize chkQ q = r at *
    go_enter Tryd.func7, Tryd.ntmps7
    go_wp2_with (go_at_call 10; refine (HCQ.out _).mono ?_; rintro e w1 ⟨rfl, hb1⟩)
    go_ret2
    have hz := hb1.size
    simp at hz
    exact ⟨rfl, ((Below.refl _ _).alloc (Nat.le_refl _) _).trans (hb1.mono (by simp))⟩

end Go.Proofs.YtadllmoepoehnaaDoor
