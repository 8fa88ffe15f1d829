/- Q9, QA, F1, F2, FM, MK3, MK4, MK5, MK6 -/
import Derived.Test.YtignmeaeibaejaaGreatV11
import Derived.Test.YtignmeaeibaejaaGreatV13
import Derived.Test.YtignmeaeibaejaaGreatV10
import Derived.Test.YtignmeaeibaejaaGreatV2
import Derived.Defers
import Derived.Recover
import Derived.Laws.Pointers
import Derived.Test.YtignmeaeibaejaaGreatV9
import Derived.Lib.QuietBelow
/- joinLabels, and Print. -/
namespace Go.Proofs.YtignmeaeibaejaaGreat
open Go.RowKit Go.Shelf Go.Lib Go.Sort

theorem isEmp_gives (x : ByteArray) (W : World) : FnGives Tryz.prog 64 #[] #[.string x] (.bool (decide (x.size = 0))) W := by
  show Calls Tryz.prog 64 #[.string x] W _
  by_cases h : x.size = 0
  · have e := isempty h
    subst e
    go_enter Tryz.func64, Tryz.ntmps64
    go_wp2_with fail
    go_ret
    exact ⟨rfl, 0, rfl⟩
  · obtain ⟨n1, n2⟩ := nempty h
    rw [show decide (x.size = 0) = false by simpa using h]
    clear h
    go_enter Tryz.func64, Tryz.ntmps64
    go_wp2_with fail
    go_ret
    exact ⟨rfl, 0, rfl⟩

theorem zero9 : ∀ w, (zeroValue 9).run Tryz.prog w = .ok (Value.string (⟨#[]⟩ : ByteArray)) w := Tryz.zeroValue9
theorem put_block {α : Type} [Inhabited α] (enc : α → Value) (w : World) (q blk off g : Nat) (d : Array α) (hne : g ≠ blk) : (putRow enc (Sort.ahead w q) blk off d).heap[g]? = w.heap[g]? := by
  show (w.heap.modify blk _)[g]? = _
  rw [Array.getElem?_modify, if_neg (Ne.symm hne)]
theorem below_put {α : Type} [Inhabited α] (enc : α → Value) (w : World) (q blk off B : Nat) (d : Array α) (hB : B ≤ blk) : Below B w (putRow enc (Sort.ahead w q) blk off d) :=
  ⟨rfl, rfl, rfl, by simp [Sort.ahead], fun k hk => put_block enc w q blk off k d (by omega)⟩
theorem join_jn : ∀ (xs : List (List UInt8)), Lib.join xs [46] = jn xs
  | [] => rfl
  | [x] => by simp [Lib.join, jn]
  | x :: y :: r => by
    have ih := join_jn (y :: r)
    simp [Lib.join, jn] at ih ⊢
    first | exact ih | simp [ih]

set_option maxHeartbeats 1600000 in
/-- The labels that stand there, and no others. -/
theorem qjoin_any (xs : List ByteArray) (w : World) (g : Nat) (hg : w.heap[g]? = some (.cells (xs.map Value.string).toArray 9 (0, 0))) (hn : xs.length ≤ 10) (hz : (jn ((xs.filter fun x => !decide (x.size = 0)).map bytes)).length ≤ 1000) :
    Calls Tryz.prog 45 #[.slice (some ⟨g, 0, none⟩) xs.length xs.length] w fun e w' => e = .returned (.string (mk (jn ((xs.filter fun x => !decide (x.size = 0)).map bytes)))) ∧ Below g w w' := by
  have eg : ∀ args w, (callFunc 64 args).run Tryz.prog w = .ok (.enter 64 args) w := enters_of Tryz.func64 (by kernel_rfl) rfl
  have hlt : g < w.heap.size := (Array.getElem?_eq_some_iff.1 hg).1
  have hH : Holds Value.string w g 0 xs.toArray := fun j hj => by
    have hj2 : j < xs.length := by simpa using hj
    refine ⟨?_, ?_⟩
    · rw [Nat.zero_add, cellsAt hg]
      simp [hj2]
    · simp [World.frozen?, hg]
  have hcon := AnyE.slices_DeleteFunc (P := Tryz.prog) (ρ := Tryz.delS_ren) Tryz.delS Value.string (fun _ => rfl) (fun x : ByteArray => decide (x.size = 0)) 64 #[] eg ⟨#[]⟩ zero9 g 0 xs.length xs.toArray w (fun W x _ => isEmp_gives x W) (fun n os dk x _ => isEmp_gives x _) hH (by simp; omega) (by simp)
  change Calls Tryz.prog 66 _ _ _ at hcon
  simp only [List.size_toArray] at hcon
  have HFL : Hid ((xs.filter fun x => !decide (x.size = 0)).length ≤ xs.length) := List.length_filter_le _ _
  generalize hF : (xs.filter fun x => !decide (x.size = 0)) = F at *
  have HCE : Hid (∀ q j, j < F.length → (putRow Value.string (Sort.ahead w q) g 0 (F ++ List.replicate (xs.length - F.length) (⟨#[]⟩ : ByteArray)).toArray).cell? ⟨g, 0 + j, none⟩ = some (.string (F.getD j ByteArray.empty))) := fun q j hj => by
    have hsz : ((F ++ List.replicate (xs.length - F.length) (⟨#[]⟩ : ByteArray)).toArray).size = xs.toArray.size := by simp; have := HFL.out; omega
    have h := cell?_putRow Value.string (Sort.ahead w q) g 0 xs.toArray _ (fun j hj => hH j hj) hsz j (by rw [hsz]; simp; have := HFL.out; omega)
    rw [h]
    simp [List.getD, hj, List.getElem?_append_left hj]
  have HBP : Hid (∀ q, Below g w (putRow Value.string (Sort.ahead w q) g 0 (F ++ List.replicate (xs.length - F.length) (⟨#[]⟩ : ByteArray)).toArray)) := fun q => below_put _ _ _ _ _ _ _ (Nat.le_refl _)
  have HCON : Hid (Calls Tryz.prog 66 #[.slice (some ⟨g, 0, none⟩) xs.length xs.length, .func (.func 64) #[] #[]] w fun e w' => e = .returned (.slice (some ⟨g, 0, none⟩) F.length xs.length) ∧ Hid (∀ j, j < F.length → w'.cell? ⟨g, 0 + j, none⟩ = some (.string (F.getD j ByteArray.empty))) ∧ Hid (Below g w w') ∧ g < w'.heap.size) := (show Calls _ _ _ _ _ by
    refine hcon.mono ?_
    rintro e w' ⟨rfl, q, rfl⟩
    exact ⟨rfl, HCE.out q, HBP.out q, by rw [size_putRow]; exact hlt⟩)
  have HJ : Hid (∀ W, (∀ j, j < F.length → W.cell? ⟨g, 0 + j, none⟩ = some (.string (F.getD j ByteArray.empty))) → g < W.heap.size → Calls Tryz.prog 65 #[.slice (some ⟨g, 0, none⟩) F.length xs.length, .string ⟨#[46]⟩] W fun e w' => e = .returned (.string (mk (jn (F.map bytes)))) ∧ Below W.heap.size W w') := fun W h1 h2 => by
    have h3 := Tryz.strings_Join g 0 xs.length F ⟨#[46]⟩ W (fun j x hj => by
      obtain ⟨hj1, hj2⟩ := List.getElem?_eq_some_iff.1 hj
      rw [h1 j hj1]
      simp [List.getD, hj1, hj2]) h2 (by have := HFL.out; omega) HFL.out (by
      rw [show (ByteArray.mk #[46]).data.toList = [46] from rfl, join_jn]
      exact Nat.le_trans hz (by omega))
    rw [show (ByteArray.mk #[46]).data.toList = [46] from rfl, join_jn] at h3
    exact h3
  clear hcon HCE HBP hg hH hz eg
  generalize mk (jn (F.map bytes)) = R at *
  generalize F.length = fl at *
  generalize xs.length = n at *
  go_enter Tryz.func45, Tryz.ntmps45
  go_wp2_with (first | (go_at_call 66; refine HCON.out.mono ?_; rintro e w1 ⟨rfl, HC1, HB1, hl1⟩) | (go_at_call 65; refine (HJ.out _ HC1.out hl1).mono ?_; rintro e w2 ⟨rfl, hb2⟩))
  go_ret
  exact ⟨rfl, HB1.out.trans (hb2.mono (Nat.le_of_lt hl1))⟩

end Go.Proofs.YtignmeaeibaejaaGreat

/- Print. -/
namespace Go.Proofs.YtignmeaeibaejaaGreat
open Go.RowKit

theorem jn_le : ∀ (xs : List (List UInt8)), (∀ x ∈ xs, x.length ≤ 30) → (jn xs).length ≤ 31 * xs.length
  | [], _ => by simp [jn]
  | [x], h => by have := h x List.mem_cons_self; simp [jn]; omega
  | x :: y :: r, h => by
    have h1 := h x List.mem_cons_self
    have h2 := jn_le (y :: r) (fun z hz => h z (List.mem_cons_of_mem _ hz))
    show (x ++ 46 :: jn (y :: r)).length ≤ _
    simp only [List.length_append, List.length_cons] at h2 ⊢
    omega
theorem fil_cons (s : ByteArray) (r : List ByteArray) : (((s :: r).filter fun x => !decide (x.size = 0)).map bytes) = opt s ++ (r.filter fun x => !decide (x.size = 0)).map bytes := by
  by_cases h : s.size = 0
  · rw [opt_none h, List.filter_cons_of_neg (by simp [h])]; rfl
  · rw [opt_full h, List.filter_cons_of_pos (by simp [h])]; rfl
theorem fil5 (sv tg ce : ByteArray) : (([tg, sv, bServ, ce, bMesh].filter fun x => !decide (x.size = 0)).map bytes) = opt tg ++ (opt sv ++ ([lServ] ++ (opt ce ++ [lMesh]))) := by
  rw [fil_cons, fil_cons, fil_cons, fil_cons, fil_cons]; rfl
theorem fil4 (nd ce : ByteArray) : (([nd, bNode, ce, bMesh].filter fun x => !decide (x.size = 0)).map bytes) = opt nd ++ ([lNode] ++ (opt ce ++ [lMesh])) := by
  rw [fil_cons, fil_cons, fil_cons, fil_cons]; rfl
theorem opt_le {s : ByteArray} (h : s.size ≤ 30) : ∀ x ∈ opt s, x.length ≤ 30 := fun x hx => by
  unfold opt at hx
  split at hx
  · cases hx
  · simp at hx; subst hx; simpa [bytes] using h
theorem opt_len (s : ByteArray) : (opt s).length ≤ 1 := by unfold opt; split <;> simp
theorem len5 {sv tg ce : ByteArray} (h1 : sv.size ≤ 30) (h2 : tg.size ≤ 30) (h3 : ce.size ≤ 30) : (jn (opt tg ++ (opt sv ++ ([lServ] ++ (opt ce ++ [lMesh]))))).length ≤ 155 := by
  refine Nat.le_trans (jn_le _ fun x hx => ?_) ?_
  · simp only [List.mem_append, List.mem_singleton] at hx
    rcases hx with h | h | h | h | h
    · exact opt_le h2 x h
    · exact opt_le h1 x h
    · subst h; decide
    · exact opt_le h3 x h
    · subst h; decide
  · have a := opt_len tg; have b := opt_len sv; have c := opt_len ce
    simp only [List.length_append, List.length_singleton]; omega
theorem len4 {nd ce : ByteArray} (h1 : nd.size ≤ 30) (h3 : ce.size ≤ 30) : (jn (opt nd ++ ([lNode] ++ (opt ce ++ [lMesh])))).length ≤ 155 := by
  refine Nat.le_trans (jn_le _ fun x hx => ?_) ?_
  · simp only [List.mem_append, List.mem_singleton] at hx
    rcases hx with h | h | h | h
    · exact opt_le h1 x h
    · subst h; decide
    · exact opt_le h3 x h
    · subst h; decide
  · have a := opt_len nd; have c := opt_len ce
    simp only [List.length_append, List.length_singleton]; omega
theorem join5 (sv tg ce : ByteArray) (W : World) (g : Nat) (hg : W.heap[g]? = some (.cells #[.string tg, .string sv, .string bServ, .string ce, .string bMesh] 9 (0, 0))) (h1 : sv.size ≤ 30) (h2 : tg.size ≤ 30) (h3 : ce.size ≤ 30) :
    Calls Tryz.prog 45 #[.slice (some ⟨g, 0, none⟩) 5 5] W fun e w' => e = .returned (.string (mk (jn (opt tg ++ (opt sv ++ ([lServ] ++ (opt ce ++ [lMesh]))))))) ∧ Below g W w' := by
  have h := qjoin_any [tg, sv, bServ, ce, bMesh] W g hg (by simp) (by rw [fil5]; exact Nat.le_trans (len5 h1 h2 h3) (by omega))
  rw [fil5] at h
  exact h
theorem join4 (nd ce : ByteArray) (W : World) (g : Nat) (hg : W.heap[g]? = some (.cells #[.string nd, .string bNode, .string ce, .string bMesh] 9 (0, 0))) (h1 : nd.size ≤ 30) (h3 : ce.size ≤ 30) :
    Calls Tryz.prog 45 #[.slice (some ⟨g, 0, none⟩) 4 4] W fun e w' => e = .returned (.string (mk (jn (opt nd ++ ([lNode] ++ (opt ce ++ [lMesh])))))) ∧ Below g W w' := by
  have h := qjoin_any [nd, bNode, ce, bMesh] W g hg (by simp) (by rw [fil4]; exact Nat.le_trans (len4 h1 h3) (by omega))
  rw [fil4] at h
  exact h

theorem prt_size {q : Qu} (h : chkQ q = 0) : (prt q).size ≤ 155 := by
  obtain ⟨_, z1, z2, z3, z4, _⟩ := chkQ_zero h
  unfold prt pLabs
  rw [mk_size]
  split
  · exact len5 (labE_size z1) (labE_size z2) (labE_size z4)
  · exact len4 (labE_size z3) (labE_size z4)

set_option maxHeartbeats 3200000 in
set_option maxRecDepth 100000 in
theorem print_any (q : Qu) (w : World) (hq : q.ok) :
    Calls Tryz.prog 25 #[.agg #[.string q.service, .string q.tag, .string q.node, .string q.centre]] w fun e w' => e = .returned (.tuple #[.string (prS q), .int .i64 (prE q)]) ∧ Below w.heap.size w w' := by
  have HCQ : Hid (∀ W, Calls Tryz.prog 19 #[.agg #[.string q.service, .string q.tag, .string q.node, .string q.centre]] W fun e w' => e = .returned (.int .i64 (chkQ q)) ∧ Below W.heap.size W w') := fun W => qCheck_any q W hq
  by_cases h0 : chkQ q = 0
  · obtain ⟨_, z1, z2, z3, z4, _⟩ := chkQ_zero h0
    have y1 := labE_size z1
    have y2 := labE_size z2
    have y3 := labE_size z3
    have y4 := labE_size z4
    have hps := prt_size h0
    have HJ5 : Hid (∀ (W : World) (g : Nat), W.heap[g]? = some (.cells #[.string q.tag, .string q.service, .string bServ, .string q.centre, .string bMesh] 9 (0, 0)) → Calls Tryz.prog 45 #[.slice (some ⟨g, 0, none⟩) 5 5] W fun e w' => e = .returned (.string (mk (jn (opt q.tag ++ (opt q.service ++ ([lServ] ++ (opt q.centre ++ [lMesh]))))))) ∧ Below g W w') := fun W g h => join5 _ _ _ W g h y1 y2 y4
    have HJ4 : Hid (∀ (W : World) (g : Nat), W.heap[g]? = some (.cells #[.string q.node, .string bNode, .string q.centre, .string bMesh] 9 (0, 0)) → Calls Tryz.prog 45 #[.slice (some ⟨g, 0, none⟩) 4 4] W fun e w' => e = .returned (.string (mk (jn (opt q.node ++ ([lNode] ++ (opt q.centre ++ [lMesh])))))) ∧ Below g W w') := fun W g h => join4 _ _ W g h y3 y4
    have HDC : Hid (∀ W, Calls Tryz.prog 46 #[.string (prt q)] W fun e w' => e = .returned (.int .i64 (chkN (prt q))) ∧ Below W.heap.size W w') := fun W => dnsCheck_any _ W (by unfold maxLen; omega)
    have HE : Hid (prE q = chkN (prt q)) := if_pos h0
    have HS : Hid (prS q = if prE q = 0 then prt q else ⟨#[]⟩) := rfl
    have HP : Hid (prt q = if q.node.size = 0 then mk (jn (opt q.tag ++ (opt q.service ++ ([lServ] ++ (opt q.centre ++ [lMesh]))))) else mk (jn (opt q.node ++ ([lNode] ++ (opt q.centre ++ [lMesh]))))) := (show prt q = _ by unfold prt pLabs; split <;> rfl)
    rw [h0] at HCQ
    generalize mk (jn (opt q.tag ++ (opt q.service ++ ([lServ] ++ (opt q.centre ++ [lMesh]))))) = N5 at *
    generalize mk (jn (opt q.node ++ ([lNode] ++ (opt q.centre ++ [lMesh])))) = N4 at *
    generalize prS q = S at *
    generalize hce : chkN (prt q) = ce' at *
    generalize prt q = T at *
    generalize prE q = E at *
    clear h0 hq hce z1 z2 z3 z4 y1 y2 y3 y4 hps
    obtain ⟨sv, tg, nd, ce⟩ := q
    simp only at HCQ HJ5 HJ4 HP ⊢
    go_enter Tryz.func25, Tryz.ntmps25
    go_wp2_with fail
    refine (HCQ.out _).mono ?_
    rintro e w1 ⟨rfl, hb1⟩
    obtain ⟨f0, f1, f2, f3, HB1, hl1⟩ := qbox hb1
    clear hb1
    go_wp2_with fail
    refine (HJ5.out _ _ (new_at _ rfl)).mono ?_
    rintro e w2 ⟨rfl, hb2⟩
    have HB2 : Hid (Below w1.heap.size w1 w2) := ((Below.refl _ _).alloc (Nat.le_refl _) _).trans hb2
    have g0 := (HB2.out.cell (p := ⟨w.heap.size, 0, none⟩) hl1).trans f0
    have g1 := (HB2.out.cell (p := ⟨w.heap.size, 1, none⟩) hl1).trans f1
    have g2 := (HB2.out.cell (p := ⟨w.heap.size, 2, none⟩) hl1).trans f2
    have g3 := (HB2.out.cell (p := ⟨w.heap.size, 3, none⟩) hl1).trans f3
    have hl2 : w1.heap.size ≤ w2.heap.size := HB2.out.size
    clear f0 f1 f2 f3 hb2
    by_cases hn : nd.size = 0
    · have HT : N5 = T := by rw [HP.out, if_pos hn]
      subst HT
      have en := isempty hn
      subst en
      clear hn HP
      go_wp2_with fail
      refine (HDC.out _).mono ?_
      rintro e w4 ⟨rfl, hb4⟩
      have HBT : Hid (Below w.heap.size w w4) := (HB1.out.trans (HB2.out.mono (Nat.le_of_lt hl1))).trans (hb4.mono (by omega))
      clear hb4
      by_cases hz : ce' = 0
      · have HS2 : Hid (S = N5) := prS_ret HS.out (by rw [HE.out]; exact hz)
        subst hz
        go_wp2_with fail
        go_ret2
        exact ⟨ret2_eq HS2.out.symm HE.out.symm, HBT.out⟩
      · have HS2 : Hid (S = ⟨#[]⟩) := (show S = ⟨#[]⟩ by rw [HS.out, if_neg (by rw [HE.out]; exact hz)])
        have hz2 : (ce' == 0) = false := by simpa using hz
        go_wp2_with fail
        go_ret2
        exact ⟨ret2_eq HS2.out.symm HE.out.symm, HBT.out⟩
    · have HT : N4 = T := by rw [HP.out, if_neg hn]
      subst HT
      obtain ⟨n1, n2⟩ := nempty hn
      clear hn HP
      go_wp2_with fail
      refine (HJ4.out _ _ (new_at _ rfl)).mono ?_
      rintro e w3 ⟨rfl, hb3⟩
      have HB3 : Hid (Below w2.heap.size w2 w3) := ((Below.refl _ _).alloc (Nat.le_refl _) _).trans hb3
      have hl3 : w2.heap.size ≤ w3.heap.size := HB3.out.size
      clear hb3
      go_wp2_with fail
      refine (HDC.out _).mono ?_
      rintro e w4 ⟨rfl, hb4⟩
      have HBT : Hid (Below w.heap.size w w4) := ((HB1.out.trans (HB2.out.mono (Nat.le_of_lt hl1))).trans (HB3.out.mono (by omega))).trans (hb4.mono (by omega))
      clear hb4
      by_cases hz : ce' = 0
      · have HS2 : Hid (S = N4) := prS_ret HS.out (by rw [HE.out]; exact hz)
        subst hz
        go_wp2_with fail
        go_ret2
        exact ⟨ret2_eq HS2.out.symm HE.out.symm, HBT.out⟩
      · have HS2 : Hid (S = ⟨#[]⟩) := (show S = ⟨#[]⟩ by rw [HS.out, if_neg (by rw [HE.out]; exact hz)])
        have hz2 : (ce' == 0) = false := by simpa using hz
        go_wp2_with fail
        go_ret2
        exact ⟨ret2_eq HS2.out.symm HE.out.symm, HBT.out⟩
  · have HE : Hid (prE q = chkQ q) := if_neg h0
    have HS : Hid (prS q = ⟨#[]⟩) := if_neg (by rw [HE.out]; exact h0)
    rw [HE.out, HS.out]
    have h1 : (chkQ q == 0) = false := by simpa using h0
    clear HE HS
    generalize chkQ q = r at *
    go_enter Tryz.func25, Tryz.ntmps25
    go_wp2_with (go_at_call 19; refine (HCQ.out _).mono ?_; rintro e w1 ⟨rfl, hb1⟩)
    go_ret2
    exact ⟨rfl, ((Below.refl _ _).alloc (Nat.le_refl _) _).trans (hb1.mono (by simp))⟩

end Go.Proofs.YtignmeaeibaejaaGreat

/- How work gives up: Need, Attempt. -/
namespace Go.Proofs.YtignmeaeibaejaaGreat
open Go.RowKit

end Go.Proofs.YtignmeaeibaejaaGreat

/- dns.check of a message with no records. -/
namespace Go.Proofs.YtignmeaeibaejaaGreat
open Go.RowKit

set_option maxHeartbeats 800000 in
theorem rtype_any (n : Int) (w : World) :
    Calls Tryz.prog 20 #[.int .i64 n] w fun e w' => e = .returned (.bool (decide (n = 1) || decide (n = 16) || decide (n = 33))) ∧ w' = w := by
  go_enter Tryz.func20, Tryz.ntmps20
  go_wp2
  all_goals
    go_ret
    exact ⟨ret_bool (by rw [Bool.eq_iff_iff]; simp; try omega), rfl⟩

end Go.Proofs.YtignmeaeibaejaaGreat

/- dns.check, both ways: what a call gives up with. -/
namespace Go.Proofs.YtignmeaeibaejaaGreat
open Go.RowKit

def typB (n : Int) : Bool := decide (n = 1) || decide (n = 16) || decide (n = 33)
/-- The record without what its type does not name. -/
def ownF (r : Rc.Rec) : Rc.Rec := if r.typ = 1 then ⟨r.name, r.typ, r.lasts, r.addr, ⟨#[]⟩, 0, ⟨#[]⟩⟩ else if r.typ = 16 then ⟨r.name, r.typ, r.lasts, 0, r.text, 0, ⟨#[]⟩⟩ else if r.typ = 33 then ⟨r.name, r.typ, r.lasts, 0, ⟨#[]⟩, r.port, r.target⟩ else ⟨r.name, r.typ, r.lasts, 0, ⟨#[]⟩, 0, ⟨#[]⟩⟩
abbrev recV (r : Rc.Rec) : Value := .agg #[.string r.name, .int .i64 r.typ, .int .i64 r.lasts, .int .i64 r.addr, .string r.text, .int .i64 r.port, .string r.target]

end Go.Proofs.YtignmeaeibaejaaGreat

/- members: the order and which is newer, walked. -/
namespace Go.Proofs.YtignmeaeibaejaaGreat

open Go.RowKit

set_option maxHeartbeats 400000 in
theorem order_any (a b : Mem) (w : World) :
    Calls Tryz.prog 43 #[.agg #[.string a.name, .int .i64 a.state, .int .i64 a.life, .int .i64 a.addr, .bool a.server], .agg #[.string b.name, .int .i64 b.state, .int .i64 b.life, .int .i64 b.addr, .bool b.server]] w fun e w' => e = .returned (.int .i64 (cmpI a.name b.name)) ∧ Below w.heap.size w w' := by
  go_enter Tryz.func43, Tryz.ntmps43
  go_wp2_with (go_at_call 62; refine (compare_any _ _ _).mono ?_; rintro e w' ⟨rfl, rfl⟩)
  go_ret
  exact ⟨rfl, ((Below.refl _ _).alloc (Nat.le_refl _) _).alloc (by simp) _⟩

end Go.Proofs.YtignmeaeibaejaaGreat

/- Do members rise? Where is one of a key? The library's binary search, walked. -/
namespace Go.Proofs.YtignmeaeibaejaaGreat

open Go.RowKit

set_option maxHeartbeats 800000 in
set_option maxRecDepth 100000 in
theorem rises_row (ms : List Mem) (b off cap : Nat) (w : World) (hr : Row w b off ms) (hb : b < w.heap.size) (hn : ms.length ≤ 20) :
    Calls Tryz.prog 42 #[.slice (some ⟨b, off, none⟩) ms.length cap, .func (.func 43) #[] #[]] w fun e w' => e = .returned (.bool (risesB ms)) ∧ Below w.heap.size w w' := by
  have HR : Hid (Row w b off ms) := hr
  clear hr
  have H4 : Hid (∀ k, k + 1 < ms.length → 0 ≤ cmpI (ms.getD k dm).name (ms.getD (k + 1) dm).name → risesB ms = false) := fun k hk hl => by
    rcases h : risesB ms with _ | _
    · rfl
    · have := rises_getO ms h k hk; omega
  have H0 : Hid ((∀ j, j + 1 < ms.length → cmpI (ms.getD j dm).name (ms.getD (j + 1) dm).name < 0) → risesB ms = true) := rises_allO ms
  generalize hN : ms.length = n at *
  have HN : Hid (ms.length = n) := hN
  clear hN
  generalize hC : risesB ms = res at *
  have HC : Hid (risesB ms = res) := hC
  clear hC
  go_enter Tryz.func42, Tryz.ntmps42
  go_wp2_with fail
  go_loopw [5] (fun i w' => ∃ k : Nat, (k + 1 ≤ n ∨ k = 0) ∧ i = .int .i64 (k + 1) ∧ Below w.heap.size w w' ∧ Hid (∀ j, j < k → cmpI (ms.getD j dm).name (ms.getD (j + 1) dm).name < 0)) (fun i _ => n - (intOf i).toNat)
  case atStart => exact ⟨0, .inr rfl, rfl, Below.refl _ _, fun j h => absurd h (Nat.not_lt_zero _)⟩
  case round =>
    obtain ⟨q, hq, rfl, hbl, hz⟩ := hrel
    obtain ⟨hbc, hbf⟩ := bcell hbl
    have hsz := hbl.size
    by_cases hlt : q + 1 < n
    · obtain ⟨c0, c1, c2, c3, c4⟩ := HR.out q (by rw [HN.out]; omega)
      obtain ⟨d0, d1, d2, d3, d4⟩ := HR.out (q + 1) (by rw [HN.out]; exact hlt)
      have HK : Hid (0 ≤ cmpI (ms.getD q dm).name (ms.getD (q + 1) dm).name → res = false) := fun h => H4.out q hlt h
      have HZ : Hid (cmpI (ms.getD q dm).name (ms.getD (q + 1) dm).name < 0 → ∀ j, j < q + 1 → cmpI (ms.getD j dm).name (ms.getD (j + 1) dm).name < 0) := fun h j hj => by
        rcases Nat.lt_succ_iff_lt_or_eq.1 hj with h2 | rfl
        · exact hz.out j h2
        · exact h
      generalize ms.getD q dm = m1 at *
      generalize ms.getD (q + 1) dm = m2 at *
      have hN : ∀ d os, Calls Tryz.prog 43 #[.agg #[.string m1.name, .int .i64 m1.state, .int .i64 m1.life, .int .i64 m1.addr, .bool m1.server], .agg #[.string m2.name, .int .i64 m2.state, .int .i64 m2.life, .int .i64 m2.addr, .bool m2.server]] (Go.Sort.grow (redrawn wr d) os) fun e w'' => e = .returned (.int .i64 (cmpI m1.name m2.name)) ∧ ∃ p : Regrown, w'' = Go.Sort.grow (redrawn wr p.d) p.os := fun d os => Calls.regrown_of (order_any m1 m2 _)
      have F0 : ∀ d os, (Go.Sort.grow (redrawn wr d) os).cell? ⟨b, off + q * 5, none⟩ = some (.string m1.name) := cell_regrown ((hbc _ _ hb).trans c0)
      have F1 : ∀ d os, (Go.Sort.grow (redrawn wr d) os).cell? ⟨b, off + q * 5 + 1, none⟩ = some (.int .i64 m1.state) := cell_regrown ((hbc _ _ hb).trans c1)
      have F2 : ∀ d os, (Go.Sort.grow (redrawn wr d) os).cell? ⟨b, off + q * 5 + 2, none⟩ = some (.int .i64 m1.life) := cell_regrown ((hbc _ _ hb).trans c2)
      have F3 : ∀ d os, (Go.Sort.grow (redrawn wr d) os).cell? ⟨b, off + q * 5 + 3, none⟩ = some (.int .i64 m1.addr) := cell_regrown ((hbc _ _ hb).trans c3)
      have F4 : ∀ d os, (Go.Sort.grow (redrawn wr d) os).cell? ⟨b, off + q * 5 + 4, none⟩ = some (.bool m1.server) := cell_regrown ((hbc _ _ hb).trans c4)
      have G0 : ∀ d os, (Go.Sort.grow (redrawn wr d) os).cell? ⟨b, off + (q + 1) * 5, none⟩ = some (.string m2.name) := cell_regrown ((hbc _ _ hb).trans d0)
      have G1 : ∀ d os, (Go.Sort.grow (redrawn wr d) os).cell? ⟨b, off + (q + 1) * 5 + 1, none⟩ = some (.int .i64 m2.state) := cell_regrown ((hbc _ _ hb).trans d1)
      have G2 : ∀ d os, (Go.Sort.grow (redrawn wr d) os).cell? ⟨b, off + (q + 1) * 5 + 2, none⟩ = some (.int .i64 m2.life) := cell_regrown ((hbc _ _ hb).trans d2)
      have G3 : ∀ d os, (Go.Sort.grow (redrawn wr d) os).cell? ⟨b, off + (q + 1) * 5 + 3, none⟩ = some (.int .i64 m2.addr) := cell_regrown ((hbc _ _ hb).trans d3)
      have G4 : ∀ d os, (Go.Sort.grow (redrawn wr d) os).cell? ⟨b, off + (q + 1) * 5 + 4, none⟩ = some (.bool m2.server) := cell_regrown ((hbc _ _ hb).trans d4)
      clear c0 c1 c2 c3 c4 d0 d1 d2 d3 d4 hbc hbf
      generalize cmpI m1.name m2.name = r at *
      have hwq : IntKind.i64.wrap (q : Int) = (q : Int) := by rw [IntKind.wrap_i64]; omega
      have hqn : q < n := by omega
      have hq1 : (q : Int) + 1 < (n : Int) := by omega
      have hq0 : (0 : Int) ≤ (q : Int) + 1 := by omega
      have htn : ((q : Int) + 1).toNat = q + 1 := by omega
      by_cases hl : r < 0
      · have hl2 : ¬ (0 ≤ r) := by omega
        go_wp2_with fail
        refine wp_region_quiet_below (by kernel_rfl) (by kernel_rfl) ?_
        repeat (quiet_step (exact hN _ _))
        refine wpQuiet_nil ?_
        intro _ hw'
        obtain ⟨⟨dq, osq⟩, hw''⟩ := hw'
        subst hw''
        have HBQ : Hid (Below wr.heap.size wr (Go.Sort.grow (redrawn wr dq) osq)) := below_regrown wr dq osq
        clear hN F0 F1 F2 F3 F4 G0 G1 G2 G3 G4
        go_wp2_with fail
        go_roundw
        case rel => exact ⟨q + 1, .inl (by omega), by go_num, hbl.trans (HBQ.out.mono hsz), HZ.out hl⟩
        case measure => simp [intOf]; omega
      · have hl2 : 0 ≤ r := by omega
        have h4 : Hid (res = false) := HK.out hl2
        go_wp2_with fail
        refine wp_region_quiet_below (by kernel_rfl) (by kernel_rfl) ?_
        repeat (quiet_step (exact hN _ _))
        refine wpQuiet_nil ?_
        intro _ hw'
        obtain ⟨⟨dq, osq⟩, hw''⟩ := hw'
        subst hw''
        have HBQ : Hid (Below wr.heap.size wr (Go.Sort.grow (redrawn wr dq) osq)) := below_regrown wr dq osq
        clear hN F0 F1 F2 F3 F4 G0 G1 G2 G3 G4
        go_wp2_with fail
        go_ret
        exact ⟨ret_bool h4.out.symm, hbl.trans (HBQ.out.mono hsz)⟩
    · have h0 : Hid (res = true) := H0.out fun j hj => hz.out j (by omega)
      go_wp2_with fail
      go_ret
      exact ⟨ret_bool h0.out.symm, hbl⟩

set_option maxHeartbeats 400000 in
theorem rises_none (a : Option Addr) (cap : Nat) (fv : Value) (w : World) :
    Calls Tryz.prog 42 #[.slice a 0 cap, fv] w fun e w' => e = .returned (.bool true) ∧ w' = w := by
  go_enter Tryz.func42, Tryz.ntmps42
  go_wp2_with fail
  go_loop [5] (fun i => i = .int .i64 1) (fun _ => 0)
  case atStart => rfl
  case round =>
    subst hrel
    go_wp2_with fail
    go_ret
    exact ⟨rfl, rfl⟩

theorem rises_any (ms : List Mem) (v : Value) (w : World) (h : Sl w v ms) (hn : ms.length ≤ 20) :
    Calls Tryz.prog 42 #[v, .func (.func 43) #[] #[]] w fun e w' => e = .returned (.bool (risesB ms)) ∧ Below w.heap.size w w' := by
  obtain ⟨a, cap, rfl, hs, h⟩ := h
  rcases h with rfl | ⟨b, off, rfl, hb, hr⟩
  · refine (rises_none a cap _ w).mono ?_
    rintro e w' ⟨rfl, rfl⟩
    exact ⟨rfl, Below.refl _ _⟩
  · exact rises_row ms b off cap w hr hb hn

end Go.Proofs.YtignmeaeibaejaaGreat

/- Two lists of members, joined. -/
namespace Go.Proofs.YtignmeaeibaejaaGreat

open Go.RowKit

theorem stg_len {a b : List Mem} (hla : a.length ≤ 20) (hlb : b.length ≤ 20) (k : Nat) : (stg a b k).length ≤ 40 := by
  unfold stg
  split
  · simp
  · split
    · omega
    · have := joinL_len b a; omega

/-- Of the k-th list: where it lies, and what is known behind it. -/
structure Kth (w : World) (pb : Nat) (a b : List Mem) (k : Nat) (l : List Mem) (pk : Option Addr) (ck : Nat) : Prop where
  cell : w.cell? ⟨pb, k, none⟩ = some (.slice pk l.length ck)
  row : l = [] ∨ ∃ b off, pk = some ⟨b, off, none⟩ ∧ b < w.heap.size ∧ Row w b off l
  oks : ∀ m ∈ l, (m).name.size ≤ maxLen
  len : l.length ≤ 20
  len0 : (stg a b k).length ≤ 20
  rise0 : Rise (stg a b k)
  oks0 : ∀ m ∈ stg a b k, (m).name.size ≤ maxLen
  step : stg a b (k + 1) = joinL (stg a b k) l

theorem kth_of {a b : List Mem} {va vb : Value} {pb : Nat} {w : World} (ha : Sl w va a) (hb : Sl w vb b) (hc0 : w.cell? ⟨pb, 0, none⟩ = some va) (hc1 : w.cell? ⟨pb, 1, none⟩ = some vb) (hla : a.length ≤ 20) (hlb : b.length ≤ 20) (ra : Rise a) (k : Nat) (hk : k < 2) :
    ∃ l pk ck, Kth w pb a b k l pk ck := by
  obtain ⟨pa, ca, rfl, nsa, ha⟩ := ha
  obtain ⟨pv, cb, rfl, nsb, hb⟩ := hb
  have hcases : k = 0 ∨ k = 1 := by omega
  rcases hcases with rfl | rfl
  · exact ⟨a, pa, ca, hc0, ha, ns_mem nsa, hla, by simp [stg], by simp [stg], by simp [stg], (joinL_nil a ra).symm⟩
  · exact ⟨b, pv, cb, hc1, hb, ns_mem nsb, hlb, hla, ra, ns_mem nsa, rfl⟩

end Go.Proofs.YtignmeaeibaejaaGreat

/- members: Check, one list and two; join. -/
namespace Go.Proofs.YtignmeaeibaejaaGreat

open Go.RowKit

theorem checkOneE_any (m : Mem) (w : World) (hm : m.name.size ≤ maxLen) :
    Calls Tryz.prog 41 #[.agg #[.string m.name, .int .i64 m.state, .int .i64 m.life, .int .i64 m.addr, .bool m.server]] w fun e w' => e = .returned (.int .i64 m.e) ∧ Below w.heap.size w w' := by
  refine (checkOne_any m.name m.state m.life m.addr m.server w hm).mono ?_
  rintro e w' ⟨rfl, rfl⟩
  exact ⟨rfl, (Below.refl _ _).alloc (Nat.le_refl _) _⟩






set_option maxHeartbeats 800000 in
theorem check_row (ms : List Mem) (b off cap : Nat) (w : World) (hr : Row w b off ms) (hb : b < w.heap.size) (hn : ms.length ≤ 20) (hs : ∀ j, (ms.getD j dm).name.size ≤ maxLen) :
    Calls Tryz.prog 23 #[.slice (some ⟨b, off, none⟩) ms.length cap] w fun e w' => e = .returned (.int .i64 (chk ms)) ∧ Below w.heap.size w w' := by
  have HR : Hid (Row w b off ms) := hr
  have HE : Hid (∀ k, k < ms.length → (∀ j, j < k → (ms.getD j dm).e = 0) → (ms.getD k dm).e ≠ 0 → chk ms = (ms.getD k dm).e) := fun k h1 h2 h3 => chk_e ms k hn h1 h2 h3
  have H4 : Hid ((∀ j, j < ms.length → (ms.getD j dm).e = 0) → chk ms = if risesB ms = true then 0 else 4) := fun h1 => chk_r ms hn h1
  have HSl : Hid (∀ w', Below w.heap.size w w' → Calls Tryz.prog 42 #[.slice (some ⟨b, off, none⟩) ms.length cap, .func (.func 43) #[] #[]] w' fun e w'' => e = .returned (.bool (risesB ms)) ∧ Below w'.heap.size w' w'') := fun w' hbw => rises_row ms b off cap w' (hr.later hbw hb) (Nat.lt_of_lt_of_le hb hbw.size) hn
  clear hr
  generalize hN : ms.length = n at *
  have HN : Hid (ms.length = n) := hN
  clear hN
  have HS : Hid (∀ j, (ms.getD j dm).name.size ≤ maxLen) := hs
  clear hs
  generalize hC : chk ms = res at *
  have HC : Hid (chk ms = res) := hC
  clear hC
  generalize hRB : risesB ms = rb at *
  have HRB : Hid (risesB ms = rb) := hRB
  clear hRB
  go_enter Tryz.func23, Tryz.ntmps23
  go_wp2_with fail
  go_loopw [11] (fun i w' => ∃ k : Nat, k ≤ n ∧ i = .int .i64 k ∧ Below w.heap.size w w' ∧ Hid (∀ j, j < k → (ms.getD j dm).e = 0)) (fun i _ => n - (intOf i).toNat)
  case atStart => exact ⟨0, Nat.zero_le _, rfl, Below.refl _ _, fun j h => absurd h (Nat.not_lt_zero _)⟩
  case round =>
    obtain ⟨k, hk, rfl, hbl, hz⟩ := hrel
    obtain ⟨hbc, hbf⟩ := bcell hbl
    have hsz := hbl.size
    by_cases hlt : k < n
    · obtain ⟨c0, c1, c2, c3, c4⟩ := HR.out k (by rw [HN.out]; exact hlt)
      have HSK : Hid ((ms.getD k dm).name.size ≤ maxLen) := HS.out k
      have HK : Hid ((ms.getD k dm).e ≠ 0 → res = (ms.getD k dm).e) := fun h => HE.out k hlt hz.out h
      have HZ : Hid ((ms.getD k dm).e = 0 → ∀ j, j < k + 1 → (ms.getD j dm).e = 0) := fun h j hj => by
        rcases Nat.lt_succ_iff_lt_or_eq.1 hj with h2 | rfl
        · exact hz.out j h2
        · exact h
      generalize ms.getD k dm = m at *
      have HO : Hid (∀ w, Calls Tryz.prog 41 #[.agg #[.string m.name, .int .i64 m.state, .int .i64 m.life, .int .i64 m.addr, .bool m.server]] w fun e w' => e = .returned (.int .i64 m.e) ∧ Below w.heap.size w w') := fun w => checkOneE_any m w HSK.out
      generalize m.e = me at *
      rcases he : decide (me = 0) with _ | _
      · have he' : (me != 0) = true := by simpa using he
        clear he
        go_wp2_with (go_at_call 41; refine (HO.out _).mono ?_; rintro e w' ⟨rfl, hb2⟩)
        go_ret
        have hne : me ≠ 0 := by simpa using he'
        have hres : res = me := HK.out hne
        exact ⟨ret_int hres.symm, (hbl.alloc hsz _).trans (hb2.mono (by simp; omega))⟩
      · have he' : (me != 0) = false := by simpa using he
        clear he
        go_wp2_with (go_at_call 41; refine (HO.out _).mono ?_; rintro e w' ⟨rfl, hb2⟩)
        go_roundw
        case rel =>
          have he0 : me = 0 := by simpa using he'
          exact ⟨k + 1, by omega, by go_num, (hbl.alloc hsz _).trans (hb2.mono (by simp; omega)), HZ.out he0⟩
        case measure => simp [intOf]; omega
    · have hall : Hid (∀ j, j < n → (ms.getD j dm).e = 0) := fun j hj => hz.out j (by omega)
      have HRes : Hid (res = if rb = true then 0 else 4) := H4.out hall.out
      clear hz hall H4 HE HC HRB
      cases rb
      · go_wp2_with (go_at_call 42; refine (HSl.out _ hbl).mono ?_; rintro e w' ⟨rfl, hb2⟩)
        go_ret
        exact ⟨ret_int (by rw [HRes.out]; rfl), hbl.trans (hb2.mono hsz)⟩
      · go_wp2_with (go_at_call 42; refine (HSl.out _ hbl).mono ?_; rintro e w' ⟨rfl, hb2⟩)
        go_ret
        exact ⟨ret_int (by rw [HRes.out]; rfl), hbl.trans (hb2.mono hsz)⟩

set_option maxHeartbeats 400000 in
theorem check_many (a : Option Addr) (n cap : Nat) (w : World) (hn : 20 < n) :
    Calls Tryz.prog 23 #[.slice a n cap] w fun e w' => e = .returned (.int .i64 2) ∧ w' = w := by
  go_enter Tryz.func23, Tryz.ntmps23
  go_wp2_with fail
  go_ret
  exact ⟨rfl, rfl⟩
set_option maxHeartbeats 400000 in
theorem check_none (a : Option Addr) (cap : Nat) (w : World) :
    Calls Tryz.prog 23 #[.slice a 0 cap] w fun e w' => e = .returned (.int .i64 0) ∧ w' = w := by
  go_enter Tryz.func23, Tryz.ntmps23
  go_wp2_with fail
  go_loop [11] (fun i => i = .int .i64 0) (fun _ => 0)
  case atStart => rfl
  case round =>
    subst hrel
    go_wp2_with (go_at_call 42; refine (rises_none _ _ _ _).mono ?_; rintro e w' ⟨rfl, rfl⟩)
    go_ret
    exact ⟨rfl, rfl⟩

theorem check_any (ms : List Mem) (v : Value) (w : World) (h : Sl w v ms) :
    Calls Tryz.prog 23 #[v] w fun e w' => e = .returned (.int .i64 (chk ms)) ∧ Below w.heap.size w w' := by
  obtain ⟨a, cap, rfl, hs, h⟩ := h
  by_cases hn : 20 < ms.length
  · refine (check_many a ms.length cap w hn).mono ?_
    rintro e w' ⟨rfl, rfl⟩
    exact ⟨ret_int (by rw [chk, if_pos hn]), Below.refl _ _⟩
  · rcases h with rfl | ⟨b, off, rfl, hb, hr⟩
    · refine (check_none a cap w).mono ?_
      rintro e w' ⟨rfl, rfl⟩
      exact ⟨rfl, Below.refl _ _⟩
    · exact check_row ms b off cap w hr hb (by omega) hs

end Go.Proofs.YtignmeaeibaejaaGreat

