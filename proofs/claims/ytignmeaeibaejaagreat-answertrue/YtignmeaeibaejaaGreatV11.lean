/- Q7, Q8, DK1, AN0 -/
import Derived.Test.YtignmeaeibaejaaGreatV10
import Derived.Test.YtignmeaeibaejaaGreatV2
import Derived.Test.YtignmeaeibaejaaGreatV3
import Derived.Test.YtignmeaeibaejaaGreatV5
import Derived.Test.YtignmeaeibaejaaGreatV8
import Derived.Test.YtignmeaeibaejaaGreatV9
/- The document's check of a name. -/
namespace Go.Proofs.YtignmeaeibaejaaGreat
open Go.RowKit

theorem chkN_labs (s : ByteArray) : chkN s = if (labs s).all labB = false then 1 else if 8 < (labs s).length ∨ 120 < s.size then 2 else 0 := by
  unfold chkN labs
  by_cases h0 : s.size = 0
  · rw [if_pos h0, if_pos h0]; simp [h0]
  · rw [if_neg h0, if_neg h0]
    have e : ((spl s.data.toList).map mk).all labB = (spl s.data.toList).all labL := by rw [List.all_map]; rfl
    rw [e, List.length_map]

theorem labs_len (s : ByteArray) : (labs s).length ≤ s.size + 1 := by
  unfold labs
  split
  · simp
  · rw [List.length_map]; exact spl_le s
theorem len_le_jn : ∀ {xs : List (List UInt8)} {x : List UInt8}, x ∈ xs → x.length ≤ (jn xs).length
  | [y], x, h => by simp at h; subst h; exact Nat.le_refl _
  | y :: z :: r, x, h => by
    have e : (jn (y :: z :: r)).length = y.length + 1 + (jn (z :: r)).length := by
      show (y ++ 46 :: jn (z :: r)).length = _
      simp; omega
    rcases List.mem_cons.1 h with rfl | h2
    · omega
    · have := len_le_jn h2; omega
theorem labs_size (s : ByteArray) (hs : s.size ≤ maxLen) : ∀ j, ((labs s).getD j ByteArray.empty).size ≤ maxLen := fun j => by
  by_cases hj : j < (labs s).length
  · rw [show (labs s).getD j ByteArray.empty = (labs s)[j] by simp [List.getD, List.getElem?_eq_getElem hj]]
    have hm : (labs s)[j] ∈ labs s := List.getElem_mem hj
    revert hm
    generalize (labs s)[j] = x
    unfold labs
    split
    · simp
    · intro hm
      obtain ⟨y, hy, rfl⟩ := List.mem_map.1 hm
      rw [mk_size]
      have h := len_le_jn hy
      rw [jn_spl] at h
      have h6 : s.data.toList.length = s.size := by simp
      omega
  · rw [show (labs s).getD j ByteArray.empty = ByteArray.empty by simp [List.getD, List.getElem?_eq_none (by omega : (labs s).length ≤ j)]]; decide

set_option maxHeartbeats 1600000 in
theorem rCheckName_any (s : ByteArray) (w : World) (hs : s.size ≤ 2000000) :
    Calls Tryz.prog 32 #[.string s] w fun e w' => e = .returned (.int .i64 (chkN s)) ∧ Below w.heap.size w w' := by
  have HLO : Hid (Calls Tryz.prog 55 #[.string s] w fun e w' => ∃ v, e = .returned v ∧ OwnS w.heap.size w' v (labs s) ∧ Below w.heap.size w w') := labelsOf_any s w hs
  have hsm : s.size ≤ maxLen := by unfold maxLen; omega
  have HZ : Hid (∀ j, ((labs s).getD j ByteArray.empty).size ≤ maxLen) := labs_size s hsm
  have HE : Hid (chkN s = if (labs s).all labB = false then 1 else if 8 < (labs s).length ∨ 120 < s.size then 2 else 0) := chkN_labs s
  have hln := labs_len s
  have H0 : Hid ((∀ j, j < (labs s).length → labB ((labs s).getD j ByteArray.empty) = true) → (labs s).all labB = true) := fun h => by
    rw [List.all_eq_true]
    intro x hx
    obtain ⟨j, hj, rfl⟩ := List.getElem_of_mem hx
    have := h j hj
    simpa [List.getD, List.getElem?_eq_getElem hj] using this
  have H1 : Hid (∀ j, j < (labs s).length → labB ((labs s).getD j ByteArray.empty) = false → (labs s).all labB = false) := fun j hj h => by
    rw [List.all_eq_false]
    refine ⟨(labs s)[j], List.getElem_mem hj, ?_⟩
    rw [show (labs s).getD j ByteArray.empty = (labs s)[j] by simp [List.getD, List.getElem?_eq_getElem hj]] at h
    simp [h]
  generalize chkN s = r at *
  generalize labs s = L at *
  generalize L.all labB = al at *
  go_enter Tryz.func32, Tryz.ntmps32
  go_wp2_with (go_at_call 55; refine HLO.out.mono ?_; rintro e w1 ⟨v, rfl, hO, hb1⟩)
  have HB1 : Hid (Below w.heap.size w w1) := hb1
  obtain ⟨p, c, hv, hcl⟩ : ∃ p c, v = .slice p L.length c ∧ Hid (0 < L.length → ∃ g, p = some ⟨g, 0, none⟩ ∧ ∀ j, j < L.length → w1.cell? ⟨g, j, none⟩ = some (.string (L.getD j ByteArray.empty))) := by
    rcases OwnS.form hO with ⟨h1, h2⟩ | ⟨g, c, h1, _, _, _, h5⟩
    · exact ⟨none, 0, by rw [h1, h2]; rfl, fun h => by rw [h2] at h; simp at h⟩
    · exact ⟨_, c, h1, fun _ => ⟨g, rfl, h5⟩⟩
  subst hv
  clear hO hb1 HLO
  generalize hna : L.length = n at *
  clear hna
  go_loop [4] (fun i => ∃ k : Nat, k ≤ n ∧ i = .int .i64 k ∧ Hid (∀ j, j < k → labB (L.getD j ByteArray.empty) = true)) (fun i => n - (intOf i).toNat)
  case atStart => exact ⟨0, Nat.zero_le _, rfl, fun j h => absurd h (Nat.not_lt_zero _)⟩
  case round =>
    obtain ⟨k, hk, rfl, hz⟩ := hrel
    by_cases hlt : k < n
    · obtain ⟨g, hp, hc⟩ := hcl.out (by omega)
      subst hp
      have hck := hc k hlt
      have hsk := HZ.out k
      have HZ2 : Hid (labB (L.getD k ByteArray.empty) = true → ∀ j, j < k + 1 → labB (L.getD j ByteArray.empty) = true) := fun h j hj => by
        rcases Nat.lt_succ_iff_lt_or_eq.1 hj with h2 | rfl
        · exact hz.out j h2
        · exact h
      have HFF : Hid (labB (L.getD k ByteArray.empty) = false → r = 1) := fun h => by rw [HE.out, H1.out k hlt h]; rfl
      clear hc
      generalize L.getD k ByteArray.empty = x at *
      rcases hl : labB x with _ | _
      · have HR : Hid (r = 1) := HFF.out hl
        go_wp2_with (go_at_call 28; refine (isLabel_any _ _ hsk).mono ?_; rintro e w' ⟨rfl, rfl⟩; rw [hl])
        go_ret
        exact ⟨ret_int HR.out.symm, HB1.out⟩
      · have HZ3 := HZ2.out hl
        have HZ4 : Hid (∀ j, j < k + 1 → labB (L.getD j ByteArray.empty) = true) := HZ3
        clear HZ2 HFF HZ3
        go_wp2_with (go_at_call 28; refine (isLabel_any _ _ hsk).mono ?_; rintro e w' ⟨rfl, rfl⟩; rw [hl])
        go_round
        case rel => exact ⟨k + 1, by omega, by go_num, HZ4.out⟩
        case measure => simp [intOf]; omega
    · have HAL : al = true := H0.out fun j hj => hz.out j (by omega)
      have HR0 : Hid (r = if 8 < n ∨ 120 < s.size then 2 else 0) := (show r = _ by rw [HE.out, HAL]; rfl)
      clear hz HE HAL
      by_cases h8 : 8 < n
      · have HR : Hid (r = 2) := (show r = 2 by rw [HR0.out, if_pos (.inl h8)])
        have h9 : decide (8 < (n : Int)) = true := by simp; omega
        clear HR0
        go_wp2_with fail
        go_ret
        exact ⟨ret_int HR.out.symm, HB1.out⟩
      · have h9 : decide (8 < (n : Int)) = false := by simp; omega
        by_cases h120 : 120 < s.size
        · have HR : Hid (r = 2) := (show r = 2 by rw [HR0.out, if_pos (.inr h120)])
          have h10 : decide (120 < (s.size : Int)) = true := by simp; omega
          clear HR0
          go_wp2_with fail
          go_ret
          exact ⟨ret_int HR.out.symm, HB1.out⟩
        · have HR : Hid (r = 0) := (show r = 0 by rw [HR0.out, if_neg (by omega)])
          have h10 : decide (120 < (s.size : Int)) = false := by simp; omega
          clear HR0
          go_wp2_with fail
          go_ret
          exact ⟨ret_int HR.out.symm, HB1.out⟩

end Go.Proofs.YtignmeaeibaejaaGreat

/- The names of queries; the document's print. -/
namespace Go.Proofs.YtignmeaeibaejaaGreat
open Go.RowKit

def bytes (s : ByteArray) : List UInt8 := s.data.toList
/-- Not at all, if it is empty. -/
def opt (s : ByteArray) : List (List UInt8) := if s.size = 0 then [] else [bytes s]
/-- The labels of a query's name. -/
def pLabs (q : Qu) : List (List UInt8) :=
  if q.node.size = 0 then opt q.tag ++ (opt q.service ++ ([lServ] ++ (opt q.centre ++ [lMesh]))) else opt q.node ++ ([lNode] ++ (opt q.centre ++ [lMesh]))
def prt (q : Qu) : ByteArray := mk (jn (pLabs q))
def prE (q : Qu) : Int := if chkQ q = 0 then chkN (prt q) else chkQ q
def prS (q : Qu) : ByteArray := if prE q = 0 then prt q else ⟨#[]⟩

theorem opt_full {s : ByteArray} (h : s.size ≠ 0) : opt s = [bytes s] := if_neg h
theorem opt_none {s : ByteArray} (h : s.size = 0) : opt s = [] := if_pos h
theorem chkQ_zero {q : Qu} (h : chkQ q = 0) : frmQ q = false ∧ labE q.service = true ∧ labE q.tag = true ∧ labE q.node = true ∧ labE q.centre = true ∧ wordB q = false := by
  unfold chkQ at h
  split at h
  · omega
  · rename_i h1
    split at h
    · omega
    · rename_i h2
      split at h
      · omega
      · rename_i h3
        have h2' : [q.service, q.tag, q.node, q.centre].all labE = true := by simpa using h2
        simp only [List.all_cons, List.all_nil, Bool.and_true, Bool.and_eq_true] at h2'
        exact ⟨by simpa using h1, h2'.1, h2'.2.1, h2'.2.2.1, h2'.2.2.2, by simpa using h3⟩
theorem labE_size {s : ByteArray} (h : labE s = true) : s.size ≤ 30 := by
  unfold labE at h
  simp only [Bool.or_eq_true, decide_eq_true_eq] at h
  rcases h with rfl | h
  · decide
  · unfold labB at h
    simp only [Bool.and_eq_true, decide_eq_true_eq] at h
    exact h.1.2
theorem ba_app (a b : ByteArray) : a ++ b = mk (bytes a ++ bytes b) := by
  rw [← mk_data (a ++ b)]
  simp [bytes]
theorem bytes_mk (l : List UInt8) : bytes (mk l) = l := data_mk l

theorem qbox {w w1 : World} {a b c d : Value} {t : TypeId} (h : Below (w.alloc (.cells #[a, b, c, d] t)).heap.size (w.alloc (.cells #[a, b, c, d] t)) w1) :
    w1.cell? ⟨w.heap.size, 0, none⟩ = some a ∧ w1.cell? ⟨w.heap.size, 1, none⟩ = some b ∧ w1.cell? ⟨w.heap.size, 2, none⟩ = some c ∧ w1.cell? ⟨w.heap.size, 3, none⟩ = some d ∧ Hid (Below w.heap.size w w1) ∧ w.heap.size < w1.heap.size := by
  have hg : w1.heap[w.heap.size]? = some (.cells #[a, b, c, d] t (0, 0)) := (h.block _ (by simp)).trans (heap_alloc_new w _)
  exact ⟨cellsAt hg 0, cellsAt hg 1, cellsAt hg 2, cellsAt hg 3, ((Below.refl _ _).alloc (Nat.le_refl _) _).trans (h.mono (by simp)), (Array.getElem?_eq_some_iff.1 hg).1⟩
theorem lit1 : (ByteArray.mk #[46, 115, 101, 114, 118, 105, 99, 101, 46]).size = 9 := rfl
theorem lit2 : (ByteArray.mk #[109, 101, 115, 104]).size = 4 := rfl
theorem lit3 : (ByteArray.mk #[46]).size = 1 := rfl
theorem lit4 : (ByteArray.mk #[46, 110, 111, 100, 101, 46]).size = 6 := rfl
theorem ret2_eq {a b : ByteArray} {x y : Int} (h1 : a = b) (h2 : x = y) : Ending.returned (.tuple #[.string a, .int .i64 x]) = .returned (.tuple #[.string b, .int .i64 y]) := by rw [h1, h2]
theorem prS_ret {E : Int} {T S : ByteArray} (h : S = if E = 0 then T else ⟨#[]⟩) (h0 : E = 0) : S = T := by rw [h, if_pos h0]

set_option maxHeartbeats 3200000 in
set_option maxRecDepth 100000 in
theorem printOf_any (q : Qu) (w : World) (hq : q.ok) :
    Calls Tryz.prog 16 #[.agg #[.string q.service, .string q.tag, .string q.node, .string q.centre]] w fun e w' => e = .returned (.tuple #[.string (prS q), .int .i64 (prE q)]) ∧ Below w.heap.size w w' := by
  have HCQ : Hid (∀ W, Calls Tryz.prog 13 #[.agg #[.string q.service, .string q.tag, .string q.node, .string q.centre]] W fun e w' => e = .returned (.int .i64 (chkQ q)) ∧ Below W.heap.size W w') := fun W => rCheckQ_any q W hq
  by_cases h0 : chkQ q = 0
  · obtain ⟨zf, z1, z2, z3, z4, _⟩ := chkQ_zero h0
    have hsn : q.node.size = 0 → q.service.size ≠ 0 := fun hn hs => by
      unfold frmQ at zf
      simp [hn, hs] at zf
    have y1 := labE_size z1
    have y2 := labE_size z2
    have y3 := labE_size z3
    have y4 := labE_size z4
    clear z1 z2 z3 z4 zf
    have HCN : Hid (∀ (t : ByteArray) W, t = prt q → t.size ≤ 2000000 → Calls Tryz.prog 32 #[.string t] W fun e w' => e = .returned (.int .i64 (chkN (prt q))) ∧ Below W.heap.size W w') := fun t W h hz => by
      rw [← h]; exact rCheckName_any t W hz
    have HE : Hid (prE q = chkN (prt q)) := if_pos h0
    have HS : Hid (prS q = if prE q = 0 then prt q else ⟨#[]⟩) := rfl
    have HP : Hid (prt q = mk (jn (pLabs q))) := rfl
    have HPL : Hid (pLabs q = if q.node.size = 0 then opt q.tag ++ (opt q.service ++ ([lServ] ++ (opt q.centre ++ [lMesh]))) else opt q.node ++ ([lNode] ++ (opt q.centre ++ [lMesh]))) := rfl
    rw [h0] at HCQ
    generalize pLabs q = PL at *
    generalize prS q = S at *
    generalize hce : chkN (prt q) = ce' at *
    generalize prt q = T at *
    generalize prE q = E at *
    clear h0 hq hce
    obtain ⟨sv, tg, nd, ce⟩ := q
    simp only at HCQ HPL y1 y2 y3 y4 hsn ⊢
    by_cases hn : nd.size = 0 <;> by_cases ht : tg.size = 0 <;> by_cases hc : ce.size = 0
    all_goals
      have HPL2 := HPL.out
      simp only [hn, if_true, if_false] at HPL2
      clear HPL
      first | (rw [opt_full (hsn hn)] at HPL2) | (rw [opt_full hn] at HPL2)
      first | (rw [opt_none ht] at HPL2) | (rw [opt_full ht] at HPL2) | skip
      first | (rw [opt_none hc] at HPL2) | (rw [opt_full hc] at HPL2)
      have HT : Hid (T = mk (jn PL)) := HP.out
      rw [HPL2] at HT
      clear HP HPL2 hsn
      first | (have en := isempty hn; subst en) | (obtain ⟨n1, n2⟩ := nempty hn)
      first | (have et := isempty ht; subst et) | (obtain ⟨t1, t2⟩ := nempty ht)
      first | (have ec := isempty hc; subst ec) | (obtain ⟨c1, c2⟩ := nempty hc)
      clear hn ht hc
      go_enter Tryz.func16, Tryz.ntmps16
      go_wp2_with fail
      refine (HCQ.out _).mono ?_
      rintro e w1 ⟨rfl, hb1⟩
      obtain ⟨f0, f1, f2, f3, HB1, hl1⟩ := qbox hb1
      clear hb1
      go_wp2_with fail
      refine (HCN.out _ w1 ?_ ?_).mono ?_
      · rw [HT.out]
        simp [ba_app, jn, bytes, mk]
      · simp only [ByteArray.size_append, lit1, lit2, lit3, lit4]
        omega
      rintro e w2 ⟨rfl, hb2⟩
      have HBT : Hid (Below w.heap.size w w2) := HB1.out.trans (hb2.mono (Nat.le_of_lt hl1))
      clear HCN hb2 f0 f1 f2 f3
      by_cases hz : ce' = 0
      · have HS2 : Hid (S = T) := prS_ret HS.out (by rw [HE.out]; exact hz)
        subst hz
        go_wp2_with fail
        go_ret2
        refine ⟨ret2_eq ?_ HE.out.symm, HBT.out⟩
        rw [HS2.out, HT.out]
        simp [ba_app, jn, bytes, mk]
      · have HS2 : Hid (S = ⟨#[]⟩) := (show S = ⟨#[]⟩ by rw [HS.out, if_neg (by rw [HE.out]; exact hz)])
        have hz2 : (ce' == 0) = false := by simpa using hz
        go_wp2_with fail
        go_ret2
        exact ⟨ret2_eq HS2.out.symm HE.out.symm, HBT.out⟩
  · have HE : Hid (prE q = chkQ q) := if_neg h0
    have HS : Hid (prS q = ⟨#[]⟩) := if_neg (by rw [HE.out]; exact h0)
    rw [HE.out, HS.out]
    have h1 : (chkQ q == 0) = false := by simpa using h0
    clear HE HS
    generalize chkQ q = r at *
    go_enter Tryz.func16, Tryz.ntmps16
    go_wp2_with (go_at_call 13; refine (HCQ.out _).mono ?_; rintro e w1 ⟨rfl, hb1⟩)
    go_ret2
    have hz := hb1.size
    simp at hz
    exact ⟨rfl, ((Below.refl _ _).alloc (Nat.le_refl _) _).trans (hb1.mono (by simp))⟩

end Go.Proofs.YtignmeaeibaejaaGreat

/- Lists of records in memory. -/
namespace Go.Proofs.YtignmeaeibaejaaGreat
namespace Rc
open Go.RowKit

structure Rec where
  name : ByteArray
  typ : Int
  lasts : Int
  addr : Int
  text : ByteArray
  port : Int
  target : ByteArray

def dm : Rec := ⟨ByteArray.empty, 0, 0, 0, ByteArray.empty, 0, ByteArray.empty⟩
/-- Its texts are no longer than texts may be. -/
def Rec.ok (m : Rec) : Prop := m.name.size ≤ maxLen ∧ m.text.size ≤ maxLen ∧ m.target.size ≤ maxLen
theorem dm_ok : dm.ok := by simp [Rec.ok, dm]

def Row (w : World) (b off : Nat) (ms : List Rec) : Prop := ∀ j, j < ms.length →
  w.cell? ⟨b, off + j * 7, none⟩ = some (.string (ms.getD j dm).name) ∧ w.cell? ⟨b, off + j * 7 + 1, none⟩ = some (.int .i64 (ms.getD j dm).typ) ∧ w.cell? ⟨b, off + j * 7 + 2, none⟩ = some (.int .i64 (ms.getD j dm).lasts) ∧ w.cell? ⟨b, off + j * 7 + 3, none⟩ = some (.int .i64 (ms.getD j dm).addr) ∧ w.cell? ⟨b, off + j * 7 + 4, none⟩ = some (.string (ms.getD j dm).text) ∧ w.cell? ⟨b, off + j * 7 + 5, none⟩ = some (.int .i64 (ms.getD j dm).port) ∧ w.cell? ⟨b, off + j * 7 + 6, none⟩ = some (.string (ms.getD j dm).target)

/-- A slice's value, and what it holds in a world. -/
def Sl (w : World) (v : Value) (ms : List Rec) : Prop :=
  ∃ (a : Option Addr) (cap : Nat), v = .slice a ms.length cap ∧ (∀ j, (ms.getD j dm).ok) ∧
    (ms = [] ∨ ∃ b off, a = some ⟨b, off, none⟩ ∧ b < w.heap.size ∧ Row w b off ms)

def Rec.cs (m : Rec) : List Value := [.string m.name, .int .i64 m.typ, .int .i64 m.lasts, .int .i64 m.addr, .string m.text, .int .i64 m.port, .string m.target]
def fl (ms : List Rec) : List Value := ms.flatMap Rec.cs

theorem cs_len (m : Rec) : m.cs.length = 7 := rfl
theorem fl_cons (m : Rec) (r : List Rec) : fl (m :: r) = m.cs ++ fl r := by simp [fl]
theorem fl_append (a b : List Rec) : fl (a ++ b) = fl a ++ fl b := by simp [fl]
theorem fl_len : ∀ ms : List Rec, (fl ms).length = ms.length * 7
  | [] => rfl
  | m :: r => by rw [fl_cons, List.length_append, fl_len r, cs_len, List.length_cons]; omega
theorem fl_take : ∀ (ms : List Rec) (i : Nat), (fl ms).take (i * 7) = fl (ms.take i)
  | [], i => by simp [fl]
  | m :: r, 0 => by simp [fl]
  | m :: r, i + 1 => by
    rw [fl_cons, List.take_succ_cons, fl_cons, show (i + 1) * 7 = m.cs.length + i * 7 by rw [cs_len]; omega, List.take_length_add_append, fl_take r i]
theorem fl_drop : ∀ (ms : List Rec) (i : Nat), (fl ms).drop (i * 7) = fl (ms.drop i)
  | [], i => by simp [fl]
  | m :: r, 0 => by simp
  | m :: r, i + 1 => by
    rw [fl_cons, List.drop_succ_cons, show (i + 1) * 7 = m.cs.length + i * 7 by rw [cs_len]; omega, List.drop_length_add_append, fl_drop r i]
theorem cs_one (m : Rec) : ∀ v ∈ m.cs, v.oneCell' = true := by
  intro v hv; simp [Rec.cs] at hv; rcases hv with rfl | rfl | rfl | rfl | rfl | rfl | rfl <;> rfl
theorem fl_one (ms : List Rec) : ∀ v ∈ fl ms, v.oneCell' = true := by
  intro v hv
  obtain ⟨m, _, h⟩ := List.mem_flatMap.1 hv
  exact cs_one m v h
theorem fl_get (ms : List Rec) (j : Nat) (hj : j < ms.length) (t : Nat) (ht : t < 7) : (fl ms)[j * 7 + t]? = (ms.getD j dm).cs[t]? := by
  induction ms generalizing j with
  | nil => simp at hj
  | cons m r ih =>
    rw [fl_cons]
    cases j with
    | zero => rw [List.getElem?_append_left (by rw [cs_len]; omega)]; simp
    | succ j =>
      rw [List.getElem?_append_right (by rw [cs_len]; omega), cs_len, show (j + 1) * 7 + t - 7 = j * 7 + t by omega, ih j (by simpa using hj)]
      simp
theorem fl_set (ms : List Rec) (p : Nat) (hp : p < ms.length) (m : Rec) : ((((((((fl ms).set (p * 7) (.string m.name)).set (p * 7 + 1) (.int .i64 m.typ)).set (p * 7 + 2) (.int .i64 m.lasts)).set (p * 7 + 3) (.int .i64 m.addr)).set (p * 7 + 4) (.string m.text)).set (p * 7 + 5) (.int .i64 m.port)).set (p * 7 + 6) (.string m.target)) = fl (ms.set p m) := by
  induction ms generalizing p with
  | nil => simp at hp
  | cons x r ih =>
    cases p with
    | zero => simp [fl, Rec.cs]
    | succ p =>
      have ih' := ih p (by simpa using hp)
      rw [List.set_cons_succ, fl_cons, fl_cons, ← ih']
      simp only [Nat.add_mul, Nat.one_mul]
      have e : ∀ (l : List Value) (k : Nat) (v : Value), (x.cs ++ l).set (k + 7) v = x.cs ++ l.set k v := fun l k v => by
        rw [List.set_append, if_neg (by rw [cs_len]; omega), cs_len, Nat.add_sub_cancel]
      have c : ∀ i : Nat, p * 7 + 7 + i = (p * 7 + i) + 7 := fun i => by omega
      simp only [c]
      rw [e, e, e, e, e, e, e]

abbrev Own (base : Nat) (w : World) (v : Value) (ms : List Rec) : Prop := w.ownsRow base 42 7 v ms.length (fl ms)

theorem own_of {base g G : Nat} {w : World} {cur : Array Value} {ms : List Rec} (hb : base ≤ g) (hg : w.heap[g]? = some (.cells cur 42 (0, 0))) (hs : cur.size = G * 7) (hn : ms.length ≤ G) (hG : G ≤ maxLen) (ht : cur.toList.take (ms.length * 7) = fl ms) :
    Own base w (.slice (some ⟨g, 0, none⟩) ms.length G) ms := ⟨fl_len ms, .inr ⟨g, G, cur, rfl, hb, hg, hn, hG, hs, ht⟩⟩

/-- What a call owns is a slice as any. -/
theorem Own.sl {base : Nat} {w : World} {v : Value} {ms : List Rec} (h : Own base w v ms) (hs : ∀ j, (ms.getD j dm).ok) : Sl w v ms := by
  rcases h.2 with ⟨rfl, h0⟩ | ⟨g, c, cur, rfl, hbg, hg, hnc, hcm, hcs, htake⟩
  · exact ⟨none, 0, by rw [h0], hs, .inl (List.eq_nil_of_length_eq_zero h0)⟩
  · refine ⟨_, c, rfl, hs, .inr ⟨g, 0, rfl, (Array.getElem?_eq_some_iff.1 hg).1, fun j hj => ?_⟩⟩
    have hc : ∀ t, t < 7 → w.cell? ⟨g, 0 + j * 7 + t, none⟩ = (ms.getD j dm).cs[t]? := fun t ht => by
      rw [cellsAt hg, ← fl_get ms j hj t ht, ← htake, List.getElem?_take_of_lt (by omega)]; simp
    exact ⟨hc 0 (by omega), hc 1 (by omega), hc 2 (by omega), hc 3 (by omega), hc 4 (by omega), hc 5 (by omega), hc 6 (by omega)⟩

theorem Own.below {base : Nat} {w w' : World} {v : Value} {ms : List Rec} (h : Own base w v ms) (hb : Below w.heap.size w w') : Own base w' v ms := by
  rcases h.2 with ⟨rfl, h0⟩ | ⟨g, c, cur, rfl, hbg, hg, hnc, hcm, hcs, htake⟩
  · exact ⟨h.1, .inl ⟨rfl, h0⟩⟩
  · have hlt : g < w.heap.size := (Array.getElem?_eq_some_iff.1 hg).1
    exact ⟨h.1, .inr ⟨g, c, cur, rfl, hbg, (hb.block g hlt).trans hg, hnc, hcm, hcs, htake⟩⟩

theorem Own.lt {base : Nat} {w : World} {v : Value} {ms : List Rec} (h : Own base w v ms) (k : Nat) (hk : v.ownBlock = some k) : base ≤ k ∧ k < w.heap.size := World.ownsRow.lt h k hk

theorem below_grown {base : Nat} {w w1 w2 : World} {v : Value} {ms : List Rec} (hb : Below base w w1) (h : Own base w1 v ms) (hg : w1.grownBy w2 v.ownBlock) (hbase : base ≤ w1.heap.size) : Below base w w2 :=
  hb.grown hg hbase (fun k hk => (h.lt k hk).1)

theorem own_cells {base g c : Nat} {w : World} {ms : List Rec} (h : Own base w (.slice (some ⟨g, 0, none⟩) ms.length c) ms) (j : Nat) (hj : j < ms.length) :
    w.cell? ⟨g, j * 7, none⟩ = some (.string (ms.getD j dm).name) ∧ w.cell? ⟨g, j * 7 + 1, none⟩ = some (.int .i64 (ms.getD j dm).typ) ∧ w.cell? ⟨g, j * 7 + 2, none⟩ = some (.int .i64 (ms.getD j dm).lasts) ∧ w.cell? ⟨g, j * 7 + 3, none⟩ = some (.int .i64 (ms.getD j dm).addr) ∧ w.cell? ⟨g, j * 7 + 4, none⟩ = some (.string (ms.getD j dm).text) ∧ w.cell? ⟨g, j * 7 + 5, none⟩ = some (.int .i64 (ms.getD j dm).port) ∧ w.cell? ⟨g, j * 7 + 6, none⟩ = some (.string (ms.getD j dm).target) := by
  rcases h.2 with ⟨h1, _⟩ | ⟨g', c', cur, h1, hbg, hg, hnc, hcm, hcs, htake⟩
  · cases h1
  · simp only [Value.slice.injEq, Option.some.injEq, Addr.mk.injEq] at h1
    obtain ⟨⟨rfl, _, _⟩, _, _⟩ := h1
    have hc : ∀ t, t < 7 → w.cell? ⟨g, j * 7 + t, none⟩ = (ms.getD j dm).cs[t]? := fun t ht => by
      rw [cellsAt hg, ← fl_get ms j hj t ht, ← htake, List.getElem?_take_of_lt (by omega)]; simp
    exact ⟨hc 0 (by omega), hc 1 (by omega), hc 2 (by omega), hc 3 (by omega), hc 4 (by omega), hc 5 (by omega), hc 6 (by omega)⟩

theorem own_form {base : Nat} {w : World} {v : Value} {ms : List Rec} (h : Own base w v ms) (p : Nat) (hp : p < ms.length) : ∃ g c, v = .slice (some ⟨g, 0, none⟩) ms.length c := by
  rcases h.2 with ⟨_, h0⟩ | ⟨g, c, cur, h1, _⟩
  · omega
  · exact ⟨g, c, h1⟩

theorem own_set {base g c p : Nat} {W : World} {ms : List Rec} (h : Own base W (.slice (some ⟨g, 0, none⟩) ms.length c) ms) (hp : p < ms.length) (m : Rec) :
    Own base (((((((W.setCell ⟨g, p * 7, none⟩ (.string m.name)).setCell ⟨g, p * 7 + 1, none⟩ (.int .i64 m.typ)).setCell ⟨g, p * 7 + 2, none⟩ (.int .i64 m.lasts)).setCell ⟨g, p * 7 + 3, none⟩ (.int .i64 m.addr)).setCell ⟨g, p * 7 + 4, none⟩ (.string m.text)).setCell ⟨g, p * 7 + 5, none⟩ (.int .i64 m.port)).setCell ⟨g, p * 7 + 6, none⟩ (.string m.target)) (.slice (some ⟨g, 0, none⟩) ms.length c) (ms.set p m) := by
  have h1 := World.ownsRow.stored h (p * 7) (.string m.name)
  have h2 := World.ownsRow.stored h1.1 (p * 7 + 1) (.int .i64 m.typ)
  have h3 := World.ownsRow.stored h2.1 (p * 7 + 2) (.int .i64 m.lasts)
  have h4 := World.ownsRow.stored h3.1 (p * 7 + 3) (.int .i64 m.addr)
  have h5 := World.ownsRow.stored h4.1 (p * 7 + 4) (.string m.text)
  have h6 := World.ownsRow.stored h5.1 (p * 7 + 5) (.int .i64 m.port)
  have h7 := World.ownsRow.stored h6.1 (p * 7 + 6) (.string m.target)
  have e := h7.1
  rw [fl_set ms p hp m] at e
  show World.ownsRow _ _ _ _ _ (ms.set p m).length _
  rw [List.length_set]
  exact e

theorem Sl.below {w w' : World} {v : Value} {ms : List Rec} (h : Sl w v ms) (hb : Below w.heap.size w w') : Sl w' v ms := by
  obtain ⟨a, cap, rfl, hs, h⟩ := h
  refine ⟨a, cap, rfl, hs, ?_⟩
  rcases h with h | ⟨b, off, rfl, hlt, hr⟩
  · exact .inl h
  · refine .inr ⟨b, off, rfl, Nat.lt_of_lt_of_le hlt hb.size, fun j hj => ?_⟩
    obtain ⟨hc, _⟩ := bcell hb
    obtain ⟨c0, c1, c2, c3, c4, c5, c6⟩ := hr j hj
    exact ⟨(hc _ _ hlt).trans c0, (hc _ _ hlt).trans c1, (hc _ _ hlt).trans c2, (hc _ _ hlt).trans c3, (hc _ _ hlt).trans c4, (hc _ _ hlt).trans c5, (hc _ _ hlt).trans c6⟩

theorem Row.later {w w' : World} {b off : Nat} {ms : List Rec} (hr : Row w b off ms) (hb : Below w.heap.size w w') (hlt : b < w.heap.size) : Row w' b off ms := fun j hj => by
  obtain ⟨hc, _⟩ := bcell hb
  obtain ⟨c0, c1, c2, c3, c4, c5, c6⟩ := hr j hj
  exact ⟨(hc _ _ hlt).trans c0, (hc _ _ hlt).trans c1, (hc _ _ hlt).trans c2, (hc _ _ hlt).trans c3, (hc _ _ hlt).trans c4, (hc _ _ hlt).trans c5, (hc _ _ hlt).trans c6⟩

theorem Own.mono {base base' : Nat} {w : World} {v : Value} {ms : List Rec} (h : Own base w v ms) (hb : base' ≤ base) : Own base' w v ms := by
  rcases h.2 with ⟨rfl, h0⟩ | ⟨g, c, cur, rfl, hbg, hg, hnc, hcm, hcs, htake⟩
  · exact ⟨h.1, .inl ⟨rfl, h0⟩⟩
  · exact ⟨h.1, .inr ⟨g, c, cur, rfl, Nat.le_trans hb hbg, hg, hnc, hcm, hcs, htake⟩⟩

theorem own_nil (base : Nat) (w : World) : Own base w (.slice none 0 0) [] := World.ownsRow_nil w base 42 7

theorem ns_mem {ms : List Rec} (h : ∀ j, (ms.getD j dm).ok) : ∀ m ∈ ms, (m).ok := by
  intro m hm
  obtain ⟨j, hj, rfl⟩ := List.getElem_of_mem hm
  have := h j
  simpa [List.getD, List.getElem?_eq_getElem hj] using this
theorem ns_get {ms : List Rec} (h : ∀ m ∈ ms, (m).ok) : ∀ j, (ms.getD j dm).ok := by
  intro j
  by_cases hj : j < ms.length
  · have := h ms[j] (List.getElem_mem hj)
    simpa [List.getD, List.getElem?_eq_getElem hj] using this
  · rw [List.getD, List.getElem?_eq_none (Nat.le_of_not_lt hj)]; exact dm_ok

theorem own_names {base : Nat} {w : World} {v : Value} {ms : List Rec} (h : Own base w v ms) (hs : ∀ m ∈ ms, (m).ok) : Sl w v ms := h.sl (ns_get hs)

theorem sl_one (w : World) (b cap : Nat) (m : Rec) (hm : (m).ok) (hg : w.heap[b]? = some (.cells #[.string m.name, .int .i64 m.typ, .int .i64 m.lasts, .int .i64 m.addr, .string m.text, .int .i64 m.port, .string m.target] 42 (0, 0))) : Sl w (.slice (some ⟨b, 0, none⟩) 1 cap) [m] := by
  refine ⟨_, cap, rfl, ns_get (fun x hx => by simp at hx; subst hx; exact hm), .inr ⟨b, 0, rfl, (Array.getElem?_eq_some_iff.1 hg).1, fun j hj => ?_⟩⟩
  have : j = 0 := by simpa using hj
  subst this
  exact ⟨cellsAt hg (0 + 0 * 7), cellsAt hg (0 + 0 * 7 + 1), cellsAt hg (0 + 0 * 7 + 2), cellsAt hg (0 + 0 * 7 + 3), cellsAt hg (0 + 0 * 7 + 4), cellsAt hg (0 + 0 * 7 + 5), cellsAt hg (0 + 0 * 7 + 6)⟩

theorem own_snoc {base : Nat} {w : World} {v : Value} {L : List Rec} {m : Rec} (h : w.ownsRow base 42 7 v (L.length + 1) (fl L ++ m.cs)) : Own base w v (L ++ [m]) := by
  have e : fl (L ++ [m]) = fl L ++ m.cs := by rw [fl_append, fl_cons]; simp [fl]
  show w.ownsRow base 42 7 v (L ++ [m]).length (fl (L ++ [m]))
  rw [e, List.length_append]
  exact h

end Rc
end Go.Proofs.YtignmeaeibaejaaGreat

/- What is answered, as plain functions: who is out, whose services come first, the records of them. -/
namespace Go.Proofs.YtignmeaeibaejaaGreat
open Go.RowKit

/-- Nodes, each once, as they come. -/
def addN (acc : List ByteArray) (n : ByteArray) : List ByteArray := if acc.any (fun y => decide (y = n)) = true then acc else acc ++ [n]
theorem any_mem {acc : List ByteArray} {n : ByteArray} : acc.any (fun y => decide (y = n)) = true ↔ n ∈ acc := by simp
theorem addN_in {acc : List ByteArray} {n : ByteArray} (h : n ∈ acc) : addN acc n = acc := if_pos (any_mem.2 h)
theorem addN_out {acc : List ByteArray} {n : ByteArray} (h : n ∉ acc) : addN acc n = acc ++ [n] := if_neg (fun h2 => h (any_mem.1 h2))
def nodesP (L : List Sv.Svc) : List ByteArray := L.foldl (fun acc s => addN acc s.node) []
def addR (acc : List ByteArray) (n : ByteArray) : List ByteArray := if acc.getLast? = some n then acc else acc ++ [n]
def nodesR (L : List Sv.Svc) : List ByteArray := L.foldl (fun acc s => addR acc s.node) []
theorem nodesP_snoc (L : List Sv.Svc) (s : Sv.Svc) : nodesP (L ++ [s]) = addN (nodesP L) s.node := by simp [nodesP, List.foldl_append]
theorem nodesR_snoc (L : List Sv.Svc) (s : Sv.Svc) : nodesR (L ++ [s]) = addR (nodesR L) s.node := by simp [nodesR, List.foldl_append]
theorem snoc_cases {α : Type} (l : List α) : l = [] ∨ ∃ r x, l = r ++ [x] := by
  by_cases h : l = []
  · exact .inl h
  · exact .inr ⟨l.dropLast, l.getLast h, (List.dropLast_concat_getLast h).symm⟩
theorem snoc_ind {α : Type} {p : List α → Prop} (h0 : p []) (h1 : ∀ l x, p l → p (l ++ [x])) (l : List α) : p l := by
  have h : ∀ r : List α, p r.reverse := by
    intro r
    induction r with
    | nil => exact h0
    | cons a r ih => rw [List.reverse_cons]; exact h1 _ _ ih
  have := h l.reverse
  rwa [List.reverse_reverse] at this
theorem addN_mem {acc : List ByteArray} {n x : ByteArray} : x ∈ addN acc n ↔ x ∈ acc ∨ x = n := by
  by_cases h : n ∈ acc
  · rw [addN_in h]
    exact ⟨.inl, fun h2 => h2.elim id (fun e => e ▸ h)⟩
  · rw [addN_out h]; simp
theorem nodesP_mem (L : List Sv.Svc) : ∀ x, x ∈ nodesP L ↔ ∃ s ∈ L, s.node = x := by
  refine snoc_ind (p := fun L => ∀ x, x ∈ nodesP L ↔ ∃ s ∈ L, s.node = x) (by simp [nodesP]) (fun l s ih x => ?_) L
  rw [nodesP_snoc, addN_mem, ih x]
  constructor
  · rintro (⟨y, hy, e⟩ | rfl)
    · exact ⟨y, List.mem_append_left _ hy, e⟩
    · exact ⟨s, by simp, rfl⟩
  · rintro ⟨y, hy, e⟩
    rcases List.mem_append.1 hy with h | h
    · exact .inl ⟨y, h, e⟩
    · simp at h; subst h; exact .inr e.symm
theorem cmpI_anti {a b : ByteArray} (h1 : cmpI a b ≤ 0) (h2 : cmpI b a ≤ 0) : a = b := by
  have h3 := cmpI_flip b a
  have h4 : ¬ cmpI a b < 0 := fun h => by have := h3.2 h; omega
  exact (cmpI_eq a b).1 (by omega)
/-- Nodes that do not fall. -/
abbrev UpN (L : List Sv.Svc) : Prop := L.Pairwise fun a b => cmpI a.node b.node ≤ 0
theorem upN_of {ms : List Sv.Svc} (h : Sv.Rise ms) : UpN ms := h.imp fun {a b} hab => by
  have h2 : (if cmpI a.node b.node = 0 then cmpI a.idn b.idn else cmpI a.node b.node) < 0 := hab
  split at h2 <;> omega
theorem nodesP_last (L : List Sv.Svc) : UpN L → (nodesP L).getLast? = L.getLast?.map Sv.Svc.node := by
  refine snoc_ind (p := fun L => UpN L → (nodesP L).getLast? = L.getLast?.map Sv.Svc.node) (fun _ => rfl) (fun l s ih hu => ?_) L
  have hul : UpN l := (List.pairwise_append.1 hu).1
  have hls : ∀ x ∈ l, cmpI x.node s.node ≤ 0 := fun x hx => (List.pairwise_append.1 hu).2.2 x hx s (by simp)
  have ih := ih hul
  rw [nodesP_snoc]
  by_cases hm : s.node ∈ nodesP l
  · rw [addN_in hm]
    obtain ⟨x, hx, hxe⟩ := (nodesP_mem l s.node).1 hm
    rcases snoc_cases l with rfl | ⟨r, y, rfl⟩
    · simp at hx
    · rw [ih]
      simp only [List.getLast?_append, List.getLast?_singleton, Option.some_or, Option.map_some, Option.some.injEq]
      have hy : cmpI y.node s.node ≤ 0 := hls y (by simp)
      rcases List.mem_append.1 hx with h | h
      · have hxy : cmpI x.node y.node ≤ 0 := (List.pairwise_append.1 hul).2.2 x h y (by simp)
        rw [← hxe] at hy ⊢
        exact cmpI_anti hy hxy
      · simp at h
        rw [← hxe, h]
  · rw [addN_out hm]
    simp
theorem nodes_eq (L : List Sv.Svc) : UpN L → nodesR L = nodesP L := by
  refine snoc_ind (p := fun L => UpN L → nodesR L = nodesP L) (fun _ => rfl) (fun l s ih hu => ?_) L
  have hul : UpN l := (List.pairwise_append.1 hu).1
  have hls : ∀ x ∈ l, cmpI x.node s.node ≤ 0 := fun x hx => (List.pairwise_append.1 hu).2.2 x hx s (by simp)
  rw [nodesR_snoc, nodesP_snoc, ih hul]
  unfold addR
  by_cases hm : s.node ∈ nodesP l
  · have h2 : UpN (l ++ [s]) := hu
    have h3 := nodesP_last _ h2
    rw [nodesP_snoc] at h3
    rw [addN_in hm] at h3 ⊢
    rw [if_pos]
    rw [h3]; simp
  · rw [addN_out hm, if_neg]
    intro h
    exact hm (List.mem_of_getLast? h)
theorem nodesP_len (L : List Sv.Svc) : (nodesP L).length ≤ L.length := by
  refine snoc_ind (p := fun L => (nodesP L).length ≤ L.length) (by simp [nodesP]) (fun l s ih => ?_) L
  rw [nodesP_snoc]
  by_cases hm : s.node ∈ nodesP l
  · rw [addN_in hm]; simp; omega
  · rw [addN_out hm]; simp; omega

/-- Services of nodes that are not out. -/
def liveL (ms : List Mem) (L : List Sv.Svc) : List Sv.Svc := L.filter fun s => !outB ms s.node
def ofN (L : List Sv.Svc) (n : ByteArray) : List Sv.Svc := L.filter fun s => decide (s.node = n)
/-- All that come, by nodes. -/
def allN (ns : List ByteArray) (L : List Sv.Svc) : List Sv.Svc := ns.flatMap (ofN L)
def nearL (p : Pl) (wh : List Wh.Whe) (ms : List Mem) (found : List Sv.Svc) : List Sv.Svc := (allN (srt p wh (nodesP (liveL ms found))) (liveL ms found)).take 20
theorem srt_mem {p : Pl} {wh : List Wh.Whe} {ns : List ByteArray} {x : ByteArray} : x ∈ srt p wh ns ↔ x ∈ ns := by
  unfold srt
  have h := (So.insAll_ok (swoN (dV (Dd (farW p) wh wh.length))) ns ns.length).2
  rw [List.take_length] at h
  exact h.mem_iff
theorem ofN_live {ms : List Mem} {L : List Sv.Svc} {n : ByteArray} (h : outB ms n = false) : ofN (liveL ms L) n = ofN L n := by
  unfold ofN liveL
  rw [List.filter_filter]
  apply List.filter_congr
  intro s _
  by_cases e : s.node = n
  · simp [e, h]
  · simp [e]
theorem near_found {p : Pl} {wh : List Wh.Whe} {ms : List Mem} {L : List Sv.Svc} : nearL p wh ms L = (allN (srt p wh (nodesP (liveL ms L))) L).take 20 := by
  unfold nearL allN
  congr 1
  rw [List.flatMap_def, List.flatMap_def]
  congr 1
  apply List.map_congr_left
  intro n hn
  obtain ⟨s, hs, e⟩ := (nodesP_mem _ n).1 (srt_mem.1 hn)
  refine ofN_live ?_
  have h2 := (List.mem_filter.1 hs).2
  rw [e] at h2
  simpa using h2

/-- One record of a service: its fields, and what Print says of its target. -/
def qN (n here : ByteArray) : Qu := ⟨⟨#[]⟩, ⟨#[]⟩, n, here⟩
def rec1 (name here : ByteArray) (t : Int) (s : Sv.Svc) : Rc.Rec :=
  ⟨name, t, 0, if t = 1 then s.addr else 0, if t = 16 then s.idn else ⟨#[]⟩, if t = 33 then s.port else 0, if t = 33 then prS (qN s.node here) else ⟨#[]⟩⟩
def recE (here : ByteArray) (t : Int) (s : Sv.Svc) : Int := if t = 33 then prE (qN s.node here) else 0
def recsE (here : ByteArray) (t : Int) : List Sv.Svc → Int
  | [] => 0
  | s :: r => if recE here t s = 0 then recsE here t r else recE here t s
theorem recsE_all {here : ByteArray} {t : Int} : ∀ {L : List Sv.Svc}, (∀ j, j < L.length → recE here t (L.getD j Sv.dm) = 0) → recsE here t L = 0
  | [], _ => rfl
  | s :: r, h => by
    have h0 := h 0 (by simp)
    simp at h0
    rw [recsE, if_pos h0]
    exact recsE_all fun j hj => by have := h (j + 1) (by simpa using hj); simpa using this
theorem recsE_at {here : ByteArray} {t : Int} : ∀ {L : List Sv.Svc} {k : Nat}, k < L.length → (∀ j, j < k → recE here t (L.getD j Sv.dm) = 0) → recE here t (L.getD k Sv.dm) ≠ 0 → recsE here t L = recE here t (L.getD k Sv.dm)
  | [], k, hk, _, _ => by simp at hk
  | s :: r, 0, _, _, h => by
    simp at h
    rw [recsE, if_neg h]; simp
  | s :: r, k + 1, hk, h, h2 => by
    have h0 := h 0 (by simp)
    simp at h0
    rw [recsE, if_pos h0]
    have := recsE_at (L := r) (k := k) (by simpa using hk) (fun j hj => by have := h (j + 1) (by omega); simpa using this) (by simpa using h2)
    simpa using this

/-- H1, of what is right: records, a code, and Print's errors. -/
structure Ans where
  rs : List Rc.Rec
  code : Int
  e : Int
def ofSv (q : Qu) (t : Int) (here : ByteArray) (sv : List Sv.Svc) (ms : List Mem) (p : Pl) (wh : List Wh.Whe) : Ans :=
  if Sv.findL sv q.service ⟨#[]⟩ = [] then ⟨[], 3, 0⟩
  else if recsE here t (nearL p wh ms (Sv.findL sv q.service q.tag)) = 0 then ⟨(nearL p wh ms (Sv.findL sv q.service q.tag)).map (rec1 (prS q) here t), 0, 0⟩
  else ⟨[], 0, recsE here t (nearL p wh ms (Sv.findL sv q.service q.tag))⟩
def ofNd (q : Qu) (t : Int) (ms : List Mem) : Ans :=
  if (mOf ms q.node).state = 1 ∨ (mOf ms q.node).state = 2 then (if t = 1 then ⟨[⟨prS q, 1, 0, (mOf ms q.node).addr, ⟨#[]⟩, 0, ⟨#[]⟩⟩], 0, 0⟩ else ⟨[], 0, 0⟩) else ⟨[], 3, 0⟩
def anS (q : Qu) (t : Int) (here : ByteArray) (sv : List Sv.Svc) (ms : List Mem) (p : Pl) (wh : List Wh.Whe) : Ans :=
  if prE q = 0 then (if q.centre.size ≠ 0 ∧ q.centre ≠ here then ⟨[], 3, 0⟩ else if q.node.size ≠ 0 then ofNd q t ms else ofSv q t here sv ms p wh) else ⟨[], 0, prE q⟩
/-- What is wrong with what is known. -/
def plE (p : Pl) (wh : List Wh.Whe) : Int := if 20 < wh.length then 2 else chkPs (p :: (plcs wh).map toPl)
def knE (here : ByteArray) (sv : List Sv.Svc) (ms : List Mem) (p : Pl) (wh : List Wh.Whe) : Int :=
  if labB here = true then (if Sv.chk sv = 0 then (if chk ms = 0 then plE p wh else chk ms) else Sv.chk sv) else 1

theorem near_len (p : Pl) (wh : List Wh.Whe) (ms : List Mem) (L : List Sv.Svc) : (nearL p wh ms L).length ≤ 20 := by unfold nearL; exact List.length_take_le _ _
theorem near_mem {p : Pl} {wh : List Wh.Whe} {ms : List Mem} {L : List Sv.Svc} {s : Sv.Svc} (h : s ∈ nearL p wh ms L) : s ∈ L ∧ outB ms s.node = false := by
  unfold nearL allN at h
  have h1 := List.mem_of_mem_take h
  obtain ⟨n, _, h2⟩ := List.mem_flatMap.1 h1
  have h3 := (List.mem_filter.1 h2).1
  have h4 := List.mem_filter.1 h3
  exact ⟨h4.1, by simpa using h4.2⟩

end Go.Proofs.YtignmeaeibaejaaGreat

