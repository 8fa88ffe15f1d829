/- Queries: words in them, and Check. -/
import Derived.Test.YtadllmoepoehnaaDoorQ2
import Derived.Test.YtadllmoepoehnaaDoorShelfC
namespace Go.Proofs.YtadllmoepoehnaaDoor
open Go.RowKit

structure Qu where
  service : ByteArray
  tag : ByteArray
  node : ByteArray
  centre : ByteArray
def Qu.ok (q : Qu) : Prop := q.service.size ≤ maxLen ∧ q.tag.size ≤ maxLen ∧ q.node.size ≤ maxLen ∧ q.centre.size ≤ maxLen
abbrev bServ : ByteArray := ⟨#[115, 101, 114, 118, 105, 99, 101]⟩
abbrev bNode : ByteArray := ⟨#[110, 111, 100, 101]⟩
abbrev bMesh : ByteArray := ⟨#[109, 101, 115, 104]⟩
def isW2 (x : ByteArray) : Bool := Lib.containsS [bServ, bNode] x
def isW3 (x : ByteArray) : Bool := Lib.containsS [bServ, bNode, bMesh] x
def wordB (q : Qu) : Bool := isW2 q.node || isW3 q.tag || isW3 q.service || isW3 q.centre

set_option maxHeartbeats 400000 in
theorem word_any (x : ByteArray) (zs : List ByteArray) (g c : Nat) (w : World) (hn : zs.length ≤ 1000) (hc : ∀ j, j < zs.length → w.cell? ⟨g, 0 + j, none⟩ = some (.string (zs.getD j ByteArray.empty))) :
    Calls Tryd.prog 30 #[.string x, .slice (some ⟨g, 0, none⟩) zs.length c] w fun e w' => e = .returned (.bool (Lib.containsS zs x)) ∧ w' = w := by
  have HC : Hid (Calls Tryd.prog 31 #[.slice (some ⟨g, 0, none⟩) zs.length c, .string x] w fun e w' => e = .returned (.bool (Lib.containsS zs x)) ∧ w' = w) := (show Calls _ _ _ _ _ by
    have h := Tryd.slices_Contains_string g 0 zs.length c zs x w (Nat.le_refl _) (by omega) hc
    rwa [List.take_length] at h)
  clear hc
  go_enter Tryd.func30, Tryd.ntmps30
  go_wp2_with (go_at_call 31; refine HC.out.mono ?_; rintro e w' ⟨rfl, rfl⟩)
  go_ret
  exact ⟨rfl, rfl⟩
theorem new_at (W : World) {cs : Array Value} {t : TypeId} {g : Nat} (hg : g = W.heap.size) : (W.alloc (.cells cs t)).heap[g]? = some (.cells cs t (0, 0)) := by
  subst hg
  exact heap_alloc_new W _
theorem word2 (x : ByteArray) (W : World) (g : Nat) (hg : W.heap[g]? = some (.cells #[.string bServ, .string bNode] 9 (0, 0))) :
    Calls Tryd.prog 30 #[.string x, .slice (some ⟨g, 0, none⟩) 2 2] W fun e w' => e = .returned (.bool (isW2 x)) ∧ w' = W :=
  word_any x [bServ, bNode] g 2 W (by simp) (fun j hj => by
    rw [cellsAt hg]
    match j, hj with
    | 0, _ => rfl
    | 1, _ => rfl)
theorem word3 (x : ByteArray) (W : World) (g : Nat) (hg : W.heap[g]? = some (.cells #[.string bServ, .string bNode, .string bMesh] 9 (0, 0))) :
    Calls Tryd.prog 30 #[.string x, .slice (some ⟨g, 0, none⟩) 3 3] W fun e w' => e = .returned (.bool (isW3 x)) ∧ w' = W :=
  word_any x [bServ, bNode, bMesh] g 3 W (by simp) (fun j hj => by
    rw [cellsAt hg]
    match j, hj with
    | 0, _ => rfl
    | 1, _ => rfl
    | 2, _ => rfl)

set_option maxHeartbeats 1600000 in
set_option maxRecDepth 100000 in
theorem hasWord_any (q : Qu) (w : World) :
    Calls Tryd.prog 18 #[.agg #[.string q.service, .string q.tag, .string q.node, .string q.centre]] w fun e w' => e = .returned (.bool (wordB q)) ∧ Below w.heap.size w w' := by
  obtain ⟨sv, tg, nd, ce⟩ := q
  have HW : Hid (wordB ⟨sv, tg, nd, ce⟩ = (isW2 nd || isW3 tg || isW3 sv || isW3 ce)) := rfl
  generalize wordB ⟨sv, tg, nd, ce⟩ = r at *
  have HT : Hid (isW2 nd = true → r = true) := fun h => by rw [HW.out, h]; rfl
  have HT2 : Hid (isW2 nd = false → isW3 tg = true → r = true) := fun h h2 => by rw [HW.out, h, h2]; rfl
  have HT3 : Hid (isW2 nd = false → isW3 tg = false → isW3 sv = true → r = true) := fun h h2 h3 => by rw [HW.out, h, h2, h3]; rfl
  have HT4 : Hid (isW2 nd = false → isW3 tg = false → isW3 sv = false → r = isW3 ce) := fun h h2 h3 => by rw [HW.out, h, h2, h3]; rfl
  clear HW
  go_enter Tryd.func18, Tryd.ntmps18
  go_wp2_with fail
  refine (word2 _ _ _ (new_at _ (by simp))).mono ?_
  rintro e w' ⟨rfl, rfl⟩
  rcases h1 : isW2 nd with _ | _
  · go_wp2_with fail
    refine (word3 _ _ _ (new_at _ (by simp))).mono ?_
    rintro e w' ⟨rfl, rfl⟩
    rcases h2 : isW3 tg with _ | _
    · go_wp2_with fail
      refine (word3 _ _ _ (new_at _ (by simp))).mono ?_
      rintro e w' ⟨rfl, rfl⟩
      rcases h3 : isW3 sv with _ | _
      · have HR : Hid (r = isW3 ce) := HT4.out h1 h2 h3
        go_wp2_with fail
        refine (word3 _ _ _ (new_at _ (by simp))).mono ?_
        rintro e w' ⟨rfl, rfl⟩
        go_wp2_with fail
        go_ret
        refine ⟨ret_bool HR.out.symm, ?_⟩
        repeat (first | exact Below.refl _ _ | refine Below.alloc ?_ (by simp <;> omega) _)
      · have HR : Hid (r = true) := HT3.out h1 h2 h3
        go_wp2_with fail
        go_ret
        refine ⟨ret_bool HR.out.symm, ?_⟩
        repeat (first | exact Below.refl _ _ | refine Below.alloc ?_ (by simp <;> omega) _)
    · have HR : Hid (r = true) := HT2.out h1 h2
      go_wp2_with fail
      go_ret
      refine ⟨ret_bool HR.out.symm, ?_⟩
      repeat (first | exact Below.refl _ _ | refine Below.alloc ?_ (by simp <;> omega) _)
  · have HR : Hid (r = true) := HT.out h1
    go_wp2_with fail
    go_ret
    refine ⟨ret_bool HR.out.symm, ?_⟩
    repeat (first | exact Below.refl _ _ | refine Below.alloc ?_ (by simp <;> omega) _)

end Go.Proofs.YtadllmoepoehnaaDoor
