/- joinLabels, and Print. -/
import Derived.Test.YtadllmoepoehnaaDoorQ8
import Derived.Test.YtadllmoepoehnaaDoorShelfD
import Derived.Test.YtadllmoepoehnaaDoorShelfC
namespace Go.Proofs.YtadllmoepoehnaaDoor
open Go.RowKit Go.Shelf Go.Lib Go.Sort

theorem isEmp_gives (x : ByteArray) (W : World) : FnGives Tryd.prog 23 #[] #[.string x] (.bool (decide (x.size = 0))) W := by
  show Calls Tryd.prog 23 #[.string x] W _
  by_cases h : x.size = 0
  · have e := isempty h
    subst e
    go_enter Tryd.func23, Tryd.ntmps23
    go_wp2_with fail
    go_ret
    exact ⟨rfl, 0, rfl⟩
  · obtain ⟨n1, n2⟩ := nempty h
    rw [show decide (x.size = 0) = false by simpa using h]
    clear h
    go_enter Tryd.func23, Tryd.ntmps23
    go_wp2_with fail
    go_ret
    exact ⟨rfl, 0, rfl⟩

theorem zero9 : ∀ w, (zeroValue 9).run Tryd.prog w = .ok (Value.string (⟨#[]⟩ : ByteArray)) w := Tryd.zeroValue9
theorem put_block {α : Type} [Inhabited α] (enc : α → Value) (w : World) (q blk off g : Nat) (d : Array α) (hne : g ≠ blk) : (putRow enc (Sort.ahead w q) blk off d).heap[g]? = w.heap[g]? := by
  show (w.heap.modify blk _)[g]? = _
  rw [Array.getElem?_modify, if_neg (Ne.symm hne)]
theorem below_put {α : Type} [Inhabited α] (enc : α → Value) (w : World) (q blk off B : Nat) (d : Array α) (hB : B ≤ blk) : Below B w (putRow enc (Sort.ahead w q) blk off d) :=
  ⟨rfl, rfl, rfl, by simp [Sort.ahead], fun k hk => put_block enc w q blk off k d (by omega)⟩
theorem join_jn : ∀ (xs : List (List UInt8)), Lib.join xs [46] = jn xs
  | [] => rfl
  | [x] => by simp [Lib.join, jn]
  | x :: y :: r => by
    have ih := join_jn (y :: r)
    simp [Lib.join, jn] at ih ⊢
    first | exact ih | simp [ih]

set_option maxHeartbeats 1600000 in
/-- The labels that stand there, and no others. -/
theorem join_any (xs : List ByteArray) (w : World) (g : Nat) (hg : w.heap[g]? = some (.cells (xs.map Value.string).toArray 9 (0, 0))) (hn : xs.length ≤ 10) (hz : (jn ((xs.filter fun x => !decide (x.size = 0)).map bytes)).length ≤ 1000) :
    Calls Tryd.prog 14 #[.slice (some ⟨g, 0, none⟩) xs.length xs.length] w fun e w' => e = .returned (.string (mk (jn ((xs.filter fun x => !decide (x.size = 0)).map bytes)))) ∧ Below g w w' := by
  have eg : ∀ args w, (callFunc 23 args).run Tryd.prog w = .ok (.enter 23 args) w := enters_of Tryd.func23 (by kernel_rfl) rfl
  have hlt : g < w.heap.size := (Array.getElem?_eq_some_iff.1 hg).1
  have hH : Holds Value.string w g 0 xs.toArray := fun j hj => by
    have hj2 : j < xs.length := by simpa using hj
    refine ⟨?_, ?_⟩
    · rw [Nat.zero_add, cellsAt hg]
      simp [hj2]
    · simp [World.frozen?, hg]
  have hcon := AnyE.slices_DeleteFunc (P := Tryd.prog) (ρ := Tryd.delS_ren) Tryd.delS Value.string (fun _ => rfl) (fun x : ByteArray => decide (x.size = 0)) 23 #[] eg ⟨#[]⟩ zero9 g 0 xs.length xs.toArray w (fun W x _ => isEmp_gives x W) (fun n os dk x _ => isEmp_gives x _) hH (by simp; omega) (by simp)
  change Calls Tryd.prog 25 _ _ _ at hcon
  simp only [List.size_toArray] at hcon
  have HFL : Hid ((xs.filter fun x => !decide (x.size = 0)).length ≤ xs.length) := List.length_filter_le _ _
  generalize hF : (xs.filter fun x => !decide (x.size = 0)) = F at *
  have HCE : Hid (∀ q j, j < F.length → (putRow Value.string (Sort.ahead w q) g 0 (F ++ List.replicate (xs.length - F.length) (⟨#[]⟩ : ByteArray)).toArray).cell? ⟨g, 0 + j, none⟩ = some (.string (F.getD j ByteArray.empty))) := fun q j hj => by
    have hsz : ((F ++ List.replicate (xs.length - F.length) (⟨#[]⟩ : ByteArray)).toArray).size = xs.toArray.size := by simp; have := HFL.out; omega
    have h := cell?_putRow Value.string (Sort.ahead w q) g 0 xs.toArray _ (fun j hj => hH j hj) hsz j (by rw [hsz]; simp; have := HFL.out; omega)
    rw [h]
    simp [List.getD, hj, List.getElem?_append_left hj]
  have HBP : Hid (∀ q, Below g w (putRow Value.string (Sort.ahead w q) g 0 (F ++ List.replicate (xs.length - F.length) (⟨#[]⟩ : ByteArray)).toArray)) := fun q => below_put _ _ _ _ _ _ _ (Nat.le_refl _)
  have HCON : Hid (Calls Tryd.prog 25 #[.slice (some ⟨g, 0, none⟩) xs.length xs.length, .func (.func 23) #[] #[]] w fun e w' => e = .returned (.slice (some ⟨g, 0, none⟩) F.length xs.length) ∧ Hid (∀ j, j < F.length → w'.cell? ⟨g, 0 + j, none⟩ = some (.string (F.getD j ByteArray.empty))) ∧ Hid (Below g w w') ∧ g < w'.heap.size) := (show Calls _ _ _ _ _ by
    refine hcon.mono ?_
    rintro e w' ⟨rfl, q, rfl⟩
    exact ⟨rfl, HCE.out q, HBP.out q, by rw [size_putRow]; exact hlt⟩)
  have HJ : Hid (∀ W, (∀ j, j < F.length → W.cell? ⟨g, 0 + j, none⟩ = some (.string (F.getD j ByteArray.empty))) → g < W.heap.size → Calls Tryd.prog 24 #[.slice (some ⟨g, 0, none⟩) F.length xs.length, .string ⟨#[46]⟩] W fun e w' => e = .returned (.string (mk (jn (F.map bytes)))) ∧ Below W.heap.size W w') := fun W h1 h2 => by
    have h3 := Tryd.strings_Join g 0 xs.length F ⟨#[46]⟩ W (fun j x hj => by
      obtain ⟨hj1, hj2⟩ := List.getElem?_eq_some_iff.1 hj
      rw [h1 j hj1]
      simp [List.getD, hj1, hj2]) h2 (by have := HFL.out; omega) HFL.out (by
      rw [show (ByteArray.mk #[46]).data.toList = [46] from rfl, join_jn]
      exact Nat.le_trans hz (by omega))
    rw [show (ByteArray.mk #[46]).data.toList = [46] from rfl, join_jn] at h3
    exact h3
  clear hcon HCE HBP hg hH hz eg
  generalize mk (jn (F.map bytes)) = R at *
  generalize F.length = fl at *
  generalize xs.length = n at *
  go_enter Tryd.func14, Tryd.ntmps14
  go_wp2_with (first | (go_at_call 25; refine HCON.out.mono ?_; rintro e w1 ⟨rfl, HC1, HB1, hl1⟩) | (go_at_call 24; refine (HJ.out _ HC1.out hl1).mono ?_; rintro e w2 ⟨rfl, hb2⟩))
  go_ret
  exact ⟨rfl, HB1.out.trans (hb2.mono (Nat.le_of_lt hl1))⟩

end Go.Proofs.YtadllmoepoehnaaDoor
