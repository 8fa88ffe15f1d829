/- ShelfC, Q3, Q4, Q5, Q6 -/
import Derived.Shelf.Strings.Builder1
import Derived.Shelf.Strings.Builder2
import Derived.Shelf.Strings.OnBuilder
import Derived.Shelf.Small.Bits
import Derived.Shelf.Small.Strs
import Derived.Shelf.Small.Wraps
import Derived.Shelf.Strconv.Itoa0
import Derived.Shelf.Strings.Search1
import Derived.Shelf.Strings.Search2
import Derived.Shelf.Strings.Search3
import Derived.Shelf.Strings.Cut
import Derived.Shelf.Strings.Count
import Derived.Shelf.LaysM
import Derived.Shelf.Strings.Shaped
import Derived.Shelf.Strings.Split
import Derived.Shelf.Slices.Turned
import Derived.Ground.SlgfProg
import Derived.Shelf.SlicesE.IndexFunc
import Derived.Shelf.SlicesE.DeleteFunc
import Derived.Ground.SlsfProg
import Derived.Shelf.SlSortCmp.Insertion
import Derived.Shelf.SlSortCmp.Insertion1
import Derived.Shelf.SlSortCmp.Median1
import Derived.Shelf.SlSortCmp.Pivot1
import Derived.Shelf.SlSortCmp.ReverseRange1
import Derived.Test.YtignmeaeibaejaaGreatProg
import Derived.Test.YtignmeaeibaejaaGreatV9
import Derived.Test.YtignmeaeibaejaaGreatV5
/- Contracts of the library, laid at this program. -/
namespace Go.Proofs
open Go.Shelf
def Tryz.lays156_ren : Go.Shelf.Ren := ⟨fun | 156 => 65 | 165 => 79 | 166 => 80 | 169 => 81 | 240 => 97 | 241 => 98 | 276 => 105 | 277 => 106 | n => n, fun | 31 => 57 | 9 => 9 | 3 => 3 | 4 => 4 | 0 => 0 | 20 => 20 | 72 => 109 | 76 => 113 | 70 => 106 | 37 => 107 | 75 => 112 | 127 => 131 | 164 => 135 | 5 => 5 | 80 => 115 | n => n, fun | n => n⟩
theorem Tryz.lays156 : Go.Proofs.Lays.n156 Tryz.prog Tryz.lays156_ren := {
  mixed := by kernel_rfl
  f156 := Tryz.func65.trans (congrArg some (by kernel_rfl))
  f165 := Tryz.func79.trans (congrArg some (by kernel_rfl))
  f166 := Tryz.func80.trans (congrArg some (by kernel_rfl))
  f169 := Tryz.func81.trans (congrArg some (by kernel_rfl))
  f240 := Tryz.func97.trans (congrArg some (by kernel_rfl))
  f241 := Tryz.func98.trans (congrArg some (by kernel_rfl))
  f276 := Tryz.func105.trans (congrArg some (by kernel_rfl))
  f277 := Tryz.func106.trans (congrArg some (by kernel_rfl))
  t0 := Tryz.underlying0
  a0 := Tryz.isAgg0
  z0 := Tryz.sizeOf0
  v0 := Tryz.zeroValue0
  t3 := Tryz.underlying3
  a3 := Tryz.isAgg3
  z3 := Tryz.sizeOf3
  v3 := Tryz.zeroValue3
  t4 := Tryz.underlying4
  a4 := Tryz.isAgg4
  z4 := Tryz.sizeOf4
  v4 := Tryz.zeroValue4
  t9 := Tryz.underlying9
  a9 := Tryz.isAgg9
  z9 := Tryz.sizeOf9
  v9 := Tryz.zeroValue9
  t20 := Tryz.underlying20
  a20 := Tryz.isAgg20
  z20 := Tryz.sizeOf20
  v20 := Tryz.zeroValue20
  t31 := Tryz.underlying57
  a31 := Tryz.isAgg57
  z31 := Tryz.sizeOf57
  v31 := Tryz.zeroValue57
  t37 := Tryz.underlying107
  a37 := Tryz.isAgg107
  z37 := Tryz.sizeOf107
  v37 := Tryz.zeroValue107
  t70 := Tryz.underlying106
  a70 := Tryz.isAgg106
  z70 := Tryz.sizeOf106
  v70 := Tryz.zeroValue106
  t72 := Tryz.underlying109
  a72 := Tryz.isAgg109
  z72 := Tryz.sizeOf109
  v72 := Tryz.zeroValue109
  t75 := Tryz.underlying112
  a75 := Tryz.isAgg112
  z75 := Tryz.sizeOf112
  v75 := Tryz.zeroValue112
  t76 := Tryz.underlying113
  a76 := Tryz.isAgg113
  z76 := Tryz.sizeOf113
  v76 := Tryz.zeroValue113
  t127 := Tryz.underlying131
  a127 := Tryz.isAgg131
  z127 := Tryz.sizeOf131
  v127 := Tryz.zeroValue131
  t164 := Tryz.underlying135
  a164 := Tryz.isAgg135
  z164 := Tryz.sizeOf135
  v164 := Tryz.zeroValue135 }
theorem Tryz.Builder_Extra_156 : Builder.Extra Tryz.prog Tryz.lays156_ren := {
  sizeBuilder := by kernel_rfl
  liesBuilder := by kernel_rfl
  t5 := Tryz.underlying5
  a5 := Tryz.isAgg5
  z5 := Tryz.sizeOf5
  v5 := Tryz.zeroValue5
  infoByte := by kernel_rfl
  cellsByte := by kernel_rfl
  sizeByte := by kernel_rfl
  neB5 := by decide }
open Go.RowKit in
theorem Tryz.strings_Join (bk o c : Nat) (xs : List ByteArray) (sep : ByteArray) (w : World) (hcells : ∀ (j : Nat) x, xs[j]? = some x → w.cell? ⟨bk, o + j, none⟩ = some (.string x)) (hbk : bk < w.heap.size) (hN : xs.length ≤ 140737488355328) (hcap : xs.length ≤ c) (hlen : (Lib.join (xs.map (·.data.toList)) sep.data.toList).length ≤ 140737488355328) :
    Calls Tryz.prog 65 #[.slice (some ⟨bk, o, none⟩) xs.length c, .string sep] w fun e w' => e = .returned (.string ⟨(Lib.join (xs.map (·.data.toList)) sep.data.toList).toArray⟩) ∧ Below w.heap.size w w' := Any.strings_Join Tryz.lays156 Tryz.Builder_Extra_156 bk o c xs sep w hcells hbk hN hcap hlen
def Tryz.lays110_ren : Go.Shelf.Ren := ⟨fun | 110 => 58 | 109 => 76 | n => n, fun | 31 => 57 | 9 => 9 | 4 => 4 | 3 => 3 | 0 => 0 | n => n, fun | n => n⟩
theorem Tryz.lays110 : Go.Proofs.Lays.n110 Tryz.prog Tryz.lays110_ren := {
  mixed := by kernel_rfl
  f109 := Tryz.func76.trans (congrArg some (by kernel_rfl))
  f110 := Tryz.func58.trans (congrArg some (by kernel_rfl))
  t0 := Tryz.underlying0
  a0 := Tryz.isAgg0
  z0 := Tryz.sizeOf0
  v0 := Tryz.zeroValue0
  t3 := Tryz.underlying3
  a3 := Tryz.isAgg3
  z3 := Tryz.sizeOf3
  v3 := Tryz.zeroValue3
  t4 := Tryz.underlying4
  a4 := Tryz.isAgg4
  z4 := Tryz.sizeOf4
  v4 := Tryz.zeroValue4
  t9 := Tryz.underlying9
  a9 := Tryz.isAgg9
  z9 := Tryz.sizeOf9
  v9 := Tryz.zeroValue9
  t31 := Tryz.underlying57
  a31 := Tryz.isAgg57
  z31 := Tryz.sizeOf57
  v31 := Tryz.zeroValue57 }
open Go.Lib in
theorem Tryz.slices_Contains_string (b off n c : Nat) (zs : List ByteArray) (x : ByteArray) (w : World) (hz : n ≤ zs.length) (hbig : n ≤ 9223372036854775807) (hc : ∀ j, j < zs.length → w.cell? ⟨b, off + j, none⟩ = some (.string (zs.getD j ByteArray.empty))) :
    Calls Tryz.prog 58 #[.slice (some ⟨b, off, none⟩) n c, .string x] w fun e w' => e = .returned (.bool (Lib.containsS (zs.take n) x)) ∧ w' = w := Any.slices_Contains_string Tryz.lays110 b off n c zs x w hz hbig hc
end Go.Proofs

/- Queries: words in them, and Check. -/
namespace Go.Proofs.YtignmeaeibaejaaGreat
open Go.RowKit

structure Qu where
  service : ByteArray
  tag : ByteArray
  node : ByteArray
  centre : ByteArray
def Qu.ok (q : Qu) : Prop := q.service.size ≤ maxLen ∧ q.tag.size ≤ maxLen ∧ q.node.size ≤ maxLen ∧ q.centre.size ≤ maxLen
abbrev bServ : ByteArray := ⟨#[115, 101, 114, 118, 105, 99, 101]⟩
abbrev bNode : ByteArray := ⟨#[110, 111, 100, 101]⟩
abbrev bMesh : ByteArray := ⟨#[109, 101, 115, 104]⟩
def isW2 (x : ByteArray) : Bool := Lib.containsS [bServ, bNode] x
def isW3 (x : ByteArray) : Bool := Lib.containsS [bServ, bNode, bMesh] x
def wordB (q : Qu) : Bool := isW2 q.node || isW3 q.tag || isW3 q.service || isW3 q.centre

set_option maxHeartbeats 400000 in
theorem word_any (x : ByteArray) (zs : List ByteArray) (g c : Nat) (w : World) (hn : zs.length ≤ 1000) (hc : ∀ j, j < zs.length → w.cell? ⟨g, 0 + j, none⟩ = some (.string (zs.getD j ByteArray.empty))) :
    Calls Tryz.prog 57 #[.string x, .slice (some ⟨g, 0, none⟩) zs.length c] w fun e w' => e = .returned (.bool (Lib.containsS zs x)) ∧ w' = w := by
  have HC : Hid (Calls Tryz.prog 58 #[.slice (some ⟨g, 0, none⟩) zs.length c, .string x] w fun e w' => e = .returned (.bool (Lib.containsS zs x)) ∧ w' = w) := (show Calls _ _ _ _ _ by
    have h := Tryz.slices_Contains_string g 0 zs.length c zs x w (Nat.le_refl _) (by omega) hc
    rwa [List.take_length] at h)
  clear hc
  go_enter Tryz.func57, Tryz.ntmps57
  go_wp2_with (go_at_call 58; refine HC.out.mono ?_; rintro e w' ⟨rfl, rfl⟩)
  go_ret
  exact ⟨rfl, rfl⟩
theorem new_at (W : World) {cs : Array Value} {t : TypeId} {g : Nat} (hg : g = W.heap.size) : (W.alloc (.cells cs t)).heap[g]? = some (.cells cs t (0, 0)) := by
  subst hg
  exact heap_alloc_new W _
theorem word2 (x : ByteArray) (W : World) (g : Nat) (hg : W.heap[g]? = some (.cells #[.string bServ, .string bNode] 9 (0, 0))) :
    Calls Tryz.prog 57 #[.string x, .slice (some ⟨g, 0, none⟩) 2 2] W fun e w' => e = .returned (.bool (isW2 x)) ∧ w' = W :=
  word_any x [bServ, bNode] g 2 W (by simp) (fun j hj => by
    rw [cellsAt hg]
    match j, hj with
    | 0, _ => rfl
    | 1, _ => rfl)
theorem word3 (x : ByteArray) (W : World) (g : Nat) (hg : W.heap[g]? = some (.cells #[.string bServ, .string bNode, .string bMesh] 9 (0, 0))) :
    Calls Tryz.prog 57 #[.string x, .slice (some ⟨g, 0, none⟩) 3 3] W fun e w' => e = .returned (.bool (isW3 x)) ∧ w' = W :=
  word_any x [bServ, bNode, bMesh] g 3 W (by simp) (fun j hj => by
    rw [cellsAt hg]
    match j, hj with
    | 0, _ => rfl
    | 1, _ => rfl
    | 2, _ => rfl)

set_option maxHeartbeats 1600000 in
set_option maxRecDepth 100000 in
theorem hasWord_any (q : Qu) (w : World) :
    Calls Tryz.prog 35 #[.agg #[.string q.service, .string q.tag, .string q.node, .string q.centre]] w fun e w' => e = .returned (.bool (wordB q)) ∧ Below w.heap.size w w' := by
  obtain ⟨sv, tg, nd, ce⟩ := q
  have HW : Hid (wordB ⟨sv, tg, nd, ce⟩ = (isW2 nd || isW3 tg || isW3 sv || isW3 ce)) := rfl
  generalize wordB ⟨sv, tg, nd, ce⟩ = r at *
  have HT : Hid (isW2 nd = true → r = true) := fun h => by rw [HW.out, h]; rfl
  have HT2 : Hid (isW2 nd = false → isW3 tg = true → r = true) := fun h h2 => by rw [HW.out, h, h2]; rfl
  have HT3 : Hid (isW2 nd = false → isW3 tg = false → isW3 sv = true → r = true) := fun h h2 h3 => by rw [HW.out, h, h2, h3]; rfl
  have HT4 : Hid (isW2 nd = false → isW3 tg = false → isW3 sv = false → r = isW3 ce) := fun h h2 h3 => by rw [HW.out, h, h2, h3]; rfl
  clear HW
  go_enter Tryz.func35, Tryz.ntmps35
  go_wp2_with fail
  refine (word2 _ _ _ (new_at _ (by simp))).mono ?_
  rintro e w' ⟨rfl, rfl⟩
  rcases h1 : isW2 nd with _ | _
  · go_wp2_with fail
    refine (word3 _ _ _ (new_at _ (by simp))).mono ?_
    rintro e w' ⟨rfl, rfl⟩
    rcases h2 : isW3 tg with _ | _
    · go_wp2_with fail
      refine (word3 _ _ _ (new_at _ (by simp))).mono ?_
      rintro e w' ⟨rfl, rfl⟩
      rcases h3 : isW3 sv with _ | _
      · have HR : Hid (r = isW3 ce) := HT4.out h1 h2 h3
        go_wp2_with fail
        refine (word3 _ _ _ (new_at _ (by simp))).mono ?_
        rintro e w' ⟨rfl, rfl⟩
        go_wp2_with fail
        go_ret
        refine ⟨ret_bool HR.out.symm, ?_⟩
        repeat (first | exact Below.refl _ _ | refine Below.alloc ?_ (by simp <;> omega) _)
      · have HR : Hid (r = true) := HT3.out h1 h2 h3
        go_wp2_with fail
        go_ret
        refine ⟨ret_bool HR.out.symm, ?_⟩
        repeat (first | exact Below.refl _ _ | refine Below.alloc ?_ (by simp <;> omega) _)
    · have HR : Hid (r = true) := HT2.out h1 h2
      go_wp2_with fail
      go_ret
      refine ⟨ret_bool HR.out.symm, ?_⟩
      repeat (first | exact Below.refl _ _ | refine Below.alloc ?_ (by simp <;> omega) _)
  · have HR : Hid (r = true) := HT.out h1
    go_wp2_with fail
    go_ret
    refine ⟨ret_bool HR.out.symm, ?_⟩
    repeat (first | exact Below.refl _ _ | refine Below.alloc ?_ (by simp <;> omega) _)

end Go.Proofs.YtignmeaeibaejaaGreat

/- query.Check. -/
namespace Go.Proofs.YtignmeaeibaejaaGreat
open Go.RowKit

def frmQ (q : Qu) : Bool := (decide (q.service.size = 0) == decide (q.node.size = 0)) || (decide (q.tag.size ≠ 0) && decide (q.service.size = 0))
/-- What is wrong with a query. -/
def chkQ (q : Qu) : Int :=
  if frmQ q = true then 1 else if [q.service, q.tag, q.node, q.centre].all labE = false then 1 else if wordB q = true then 7 else 0

theorem labels4 (q : Qu) (W : World) (g : Nat) (hq : q.ok) (hg : W.heap[g]? = some (.cells #[.string q.service, .string q.tag, .string q.node, .string q.centre] 9 (0, 0))) :
    Calls Tryz.prog 34 #[.slice (some ⟨g, 0, none⟩) 4 4] W fun e w' => e = .returned (.bool ([q.service, q.tag, q.node, q.centre].all labE)) ∧ w' = W :=
  labelsE_any [q.service, q.tag, q.node, q.centre] g 4 W (fun j hj => by
    rw [cellsAt hg]
    match j, hj with
    | 0, _ => rfl
    | 1, _ => rfl
    | 2, _ => rfl
    | 3, _ => rfl) (fun j => by
    match j with
    | 0 => exact hq.1
    | 1 => exact hq.2.1
    | 2 => exact hq.2.2.1
    | 3 => exact hq.2.2.2
    | _ + 4 => simp [List.getD]) (by simp)

set_option maxHeartbeats 3200000 in
set_option maxRecDepth 100000 in
theorem qCheck_any (q : Qu) (w : World) (hq : q.ok) :
    Calls Tryz.prog 19 #[.agg #[.string q.service, .string q.tag, .string q.node, .string q.centre]] w fun e w' => e = .returned (.int .i64 (chkQ q)) ∧ Below w.heap.size w w' := by
  have HLB : Hid (∀ g W, W.heap[g]? = some (.cells #[.string q.service, .string q.tag, .string q.node, .string q.centre] 9 (0, 0)) → Calls Tryz.prog 34 #[.slice (some ⟨g, 0, none⟩) 4 4] W fun e w' => e = .returned (.bool ([q.service, q.tag, q.node, q.centre].all labE)) ∧ w' = W) := fun g W h => labels4 q W g hq h
  have HWD : Hid (∀ W, Calls Tryz.prog 35 #[.agg #[.string q.service, .string q.tag, .string q.node, .string q.centre]] W fun e w' => e = .returned (.bool (wordB q)) ∧ Below W.heap.size W w') := fun W => hasWord_any q W
  have HR1 : Hid (frmQ q = true → chkQ q = 1) := fun h => by unfold chkQ; rw [if_pos h]
  have HR2 : Hid (frmQ q = false → [q.service, q.tag, q.node, q.centre].all labE = false → chkQ q = 1) := fun h h2 => by unfold chkQ; rw [if_neg (by rw [h]; simp), if_pos h2]
  have HR3 : Hid (frmQ q = false → [q.service, q.tag, q.node, q.centre].all labE = true → chkQ q = if wordB q = true then 7 else 0) := fun h h2 => by unfold chkQ; rw [if_neg (by rw [h]; simp), if_neg (by rw [h2]; simp)]
  have HF : Hid (frmQ q = ((decide (q.service.size = 0) == decide (q.node.size = 0)) || (decide (q.tag.size ≠ 0) && decide (q.service.size = 0)))) := rfl
  generalize [q.service, q.tag, q.node, q.centre].all labE = lb at *
  generalize wordB q = wb at *
  generalize chkQ q = r at *
  generalize frmQ q = fr at *
  obtain ⟨sv, tg, nd, ce⟩ := q
  simp only at HLB HWD HF ⊢
  clear hq
  by_cases hs : sv.size = 0 <;> by_cases hn : nd.size = 0 <;> by_cases ht : tg.size = 0
  all_goals
    have HF2 := HF.out
    simp only [hs, hn, ht, decide_true, decide_false, Bool.or_false, Bool.or_true, beq_self_eq_true, ne_eq, not_true_eq_false, not_false_eq_true, Bool.and_true, Bool.and_false] at HF2
    clear HF
    first | (have es := isempty hs; subst es) | (obtain ⟨s1, s2⟩ := nempty hs)
    first | (have en := isempty hn; subst en) | (obtain ⟨n1, n2⟩ := nempty hn)
    first | (have et := isempty ht; subst et) | (obtain ⟨t1, t2⟩ := nempty ht)
    clear hs hn ht
    go_enter Tryz.func19, Tryz.ntmps19
    go_wp2_with fail
  all_goals first
    | (go_ret
       exact ⟨ret_int (HR1.out HF2).symm, (Below.refl _ _).alloc (Nat.le_refl _) _⟩)
    | (have HF3 : Hid (fr = false) := (show fr = false from HF2)
       clear HF2
       refine (HLB.out _ _ (new_at _ (by simp))).mono ?_
       rintro e w' ⟨rfl, rfl⟩
       rcases hl : lb with _ | _
       · have HR : Hid (r = 1) := HR2.out HF3.out hl
         go_wp2_with fail
         go_ret
         exact ⟨ret_int HR.out.symm, ((Below.refl _ _).alloc (Nat.le_refl _) _).alloc (by simp) _⟩
       · have HR : Hid (r = if wb = true then 7 else 0) := HR3.out HF3.out hl
         go_wp2_with fail
         refine (HWD.out _).mono ?_
         rintro e w1 ⟨rfl, hb1⟩
         have hb2 := hb1.size
         simp at hb2
         rcases hw : wb with _ | _
         · rw [hw] at HR
           go_wp2_with fail
           go_ret
           exact ⟨ret_int HR.out.symm, (((Below.refl _ _).alloc (Nat.le_refl _) _).alloc (by simp) _).trans (hb1.mono (by simp; omega))⟩
         · rw [hw] at HR
           go_wp2_with fail
           go_ret
           exact ⟨ret_int HR.out.symm, (((Below.refl _ _).alloc (Nat.le_refl _) _).alloc (by simp) _).trans (hb1.mono (by simp; omega))⟩)

end Go.Proofs.YtignmeaeibaejaaGreat

/- The document's check of a query. -/
namespace Go.Proofs.YtignmeaeibaejaaGreat
open Go.RowKit

def allQ (q : Qu) : List ByteArray := [q.service, q.tag, q.node, q.centre]
/-- A word where none may be. -/
def wj (q : Qu) (j : Nat) : Bool := if j = 2 then isW2 ((allQ q).getD j ByteArray.empty) else isW3 ((allQ q).getD j ByteArray.empty)
theorem wj_all (q : Qu) (h : ∀ j, j < 4 → wj q j = false) : wordB q = false := by
  have h0 : isW3 q.service = false := h 0 (by omega)
  have h1 : isW3 q.tag = false := h 1 (by omega)
  have h2 : isW2 q.node = false := h 2 (by omega)
  have h3 : isW3 q.centre = false := h 3 (by omega)
  unfold wordB
  rw [h0, h1, h2, h3]; rfl
theorem wj_one (q : Qu) (j : Nat) (hj : j < 4) (h : wj q j = true) : wordB q = true := by
  unfold wordB
  match j, hj, h with
  | 0, _, h => have : isW3 q.service = true := h
               rw [this]; simp
  | 1, _, h => have : isW3 q.tag = true := h
               rw [this]; simp
  | 2, _, h => have : isW2 q.node = true := h
               rw [this]; simp
  | 3, _, h => have : isW3 q.centre = true := h
               rw [this]; simp
theorem isW2_iff (x : ByteArray) : isW2 x = true ↔ x = bServ ∨ x = bNode := by
  unfold isW2; rw [Lib.containsS_iff]; simp
theorem isW3_iff (x : ByteArray) : isW3 x = true ↔ x = bServ ∨ x = bNode ∨ x = bMesh := by
  unfold isW3; rw [Lib.containsS_iff]; simp

theorem ne_lit {s : ByteArray} (l : List UInt8) (h : s ≠ mk l) : (s.toList == l) = false ∧ ¬ s.toList = l := by
  have h2 : ¬ s.toList = l := fun e => h (by rw [← e, Lib.toList_data, mk_data])
  exact ⟨by simpa using h2, h2⟩
abbrev lServ : List UInt8 := [115, 101, 114, 118, 105, 99, 101]
abbrev lNode : List UInt8 := [110, 111, 100, 101]
abbrev lMesh : List UInt8 := [109, 101, 115, 104]
theorem ne_serv {s : ByteArray} (h : s ≠ bServ) : (s.toList == [115, 101, 114, 118, 105, 99, 101]) = false ∧ ¬ s.toList = [115, 101, 114, 118, 105, 99, 101] := ne_lit lServ h
theorem ne_node {s : ByteArray} (h : s ≠ bNode) : (s.toList == [110, 111, 100, 101]) = false ∧ ¬ s.toList = [110, 111, 100, 101] := ne_lit lNode h
theorem ne_mesh {s : ByteArray} (h : s ≠ bMesh) : (s.toList == [109, 101, 115, 104]) = false ∧ ¬ s.toList = [109, 101, 115, 104] := ne_lit lMesh h

set_option maxHeartbeats 3200000 in
set_option maxRecDepth 100000 in
theorem rCheckQ_any (q : Qu) (w : World) (hq : q.ok) :
    Calls Tryz.prog 13 #[.agg #[.string q.service, .string q.tag, .string q.node, .string q.centre]] w fun e w' => e = .returned (.int .i64 (chkQ q)) ∧ Below w.heap.size w w' := by
  have HR1 : Hid (frmQ q = true → chkQ q = 1) := fun h => by unfold chkQ; rw [if_pos h]
  have HR2 : Hid (frmQ q = false → (allQ q).all labE = false → chkQ q = 1) := fun h h2 => by unfold chkQ; rw [if_neg (by rw [h]; simp)]; exact if_pos h2
  have HR3 : Hid (frmQ q = false → (allQ q).all labE = true → chkQ q = if wordB q = true then 7 else 0) := fun h h2 => by unfold chkQ; rw [if_neg (by rw [h]; simp), if_neg (by rw [show [q.service, q.tag, q.node, q.centre] = allQ q from rfl, h2]; simp)]
  have HF : Hid (frmQ q = ((decide (q.service.size = 0) == decide (q.node.size = 0)) || (decide (q.tag.size ≠ 0) && decide (q.service.size = 0)))) := rfl
  have HZ : Hid (∀ j, j < 4 → ((allQ q).getD j ByteArray.empty).size ≤ maxLen) := fun j hj => by
    match j, hj with
    | 0, _ => exact hq.1
    | 1, _ => exact hq.2.1
    | 2, _ => exact hq.2.2.1
    | 3, _ => exact hq.2.2.2
  have HAT : Hid ((∀ j, j < 4 → labE ((allQ q).getD j ByteArray.empty) = true) → (allQ q).all labE = true) := fun h => by
    have h0 := h 0 (by omega)
    have h1 := h 1 (by omega)
    have h2 := h 2 (by omega)
    have h3 := h 3 (by omega)
    simp only [allQ, List.getD, List.getElem?_cons_zero, List.getElem?_cons_succ, Option.getD_some] at h0 h1 h2 h3
    simp [allQ, h0, h1, h2, h3]
  have HAF : Hid (∀ j, j < 4 → labE ((allQ q).getD j ByteArray.empty) = false → (allQ q).all labE = false) := fun j hj h => by
    rw [List.all_eq_false]
    refine ⟨(allQ q).getD j ByteArray.empty, ?_, by rw [h]; simp⟩
    match j, hj with
    | 0, _ => simp [allQ]
    | 1, _ => simp [allQ]
    | 2, _ => simp [allQ]
    | 3, _ => simp [allQ]
  have HWA : Hid ((∀ j, j < 4 → wj q j = false) → wordB q = false) := wj_all q
  have HWO : Hid (∀ j, j < 4 → wj q j = true → wordB q = true) := wj_one q
  have HWJ : Hid (∀ j, wj q j = if j = 2 then isW2 ((allQ q).getD j ByteArray.empty) else isW3 ((allQ q).getD j ByteArray.empty)) := fun j => rfl
  have HC : Hid (∀ (g : Nat) (W : World), W.heap[g]? = some (.cells #[.string q.service, .string q.tag, .string q.node, .string q.centre] 9 (0, 0)) → ∀ j, j < 4 → W.cell? ⟨g, j, none⟩ = some (.string ((allQ q).getD j ByteArray.empty))) := fun g W hg j hj => by
    rw [cellsAt hg]
    match j, hj with
    | 0, _ => rfl
    | 1, _ => rfl
    | 2, _ => rfl
    | 3, _ => rfl
  generalize hwf : wj q = wf at *
  generalize hgf : (fun j => (allQ q).getD j ByteArray.empty) = gf at *
  have hgf2 : ∀ j, (allQ q).getD j ByteArray.empty = gf j := fun j => by rw [← hgf]
  simp only [hgf2] at HZ HAT HAF HWJ HC
  clear hwf hgf hgf2 hq
  generalize (allQ q).all labE = lb at *
  generalize wordB q = wb at *
  generalize chkQ q = r at *
  generalize frmQ q = fr at *
  obtain ⟨sv, tg, nd, ce⟩ := q
  simp only at HC HF ⊢
  by_cases hs : sv.size = 0 <;> by_cases hn : nd.size = 0 <;> by_cases ht : tg.size = 0
  all_goals
    have HF2 := HF.out
    simp only [hs, hn, ht, decide_true, decide_false, Bool.or_false, Bool.or_true, beq_self_eq_true, ne_eq, not_true_eq_false, not_false_eq_true, Bool.and_true, Bool.and_false] at HF2
    clear HF
    first | (have es := isempty hs; subst es) | (obtain ⟨s1, s2⟩ := nempty hs)
    first | (have en := isempty hn; subst en) | (obtain ⟨n1, n2⟩ := nempty hn)
    first | (have et := isempty ht; subst et) | (obtain ⟨t1, t2⟩ := nempty ht)
    clear hs hn ht
    go_enter Tryz.func13, Tryz.ntmps13
    go_wp2_with fail
  all_goals first
    | (go_ret
       exact ⟨ret_int (HR1.out HF2).symm, (Below.refl _ _).alloc (Nat.le_refl _) _⟩)
    | (have HF3 : Hid (fr = false) := (show fr = false from HF2)
       clear HF2
       generalize hWW : World.alloc (World.alloc w _) _ = WW at *
       have HCW := HC.out (w.heap.size + 1) WW (by rw [← hWW]; exact new_at _ (by simp))
       have HCC : Hid (∀ j, j < 4 → WW.cell? ⟨w.heap.size + 1, j, none⟩ = some (.string (gf j))) := HCW
       have HBW : Hid (Below w.heap.size w WW) := (show Below w.heap.size w WW by rw [← hWW]; exact ((Below.refl _ _).alloc (Nat.le_refl _) _).alloc (by simp) _)
       clear HCW HC hWW
       go_loop [4] (fun i => ∃ k : Nat, k ≤ 4 ∧ i = .int .i64 k ∧ Hid (∀ j, j < k → labE (gf j) = true)) (fun i => 4 - (intOf i).toNat)
       case atStart => exact ⟨0, Nat.zero_le _, rfl, fun j h => absurd h (Nat.not_lt_zero _)⟩
       case round =>
         obtain ⟨k, hk, rfl, hz⟩ := hrel
         by_cases hlt : k < 4
         · have hc := HCC.out k hlt
           have hsk := HZ.out k hlt
           have HZ2 : Hid (labE (gf k) = true → ∀ j, j < k + 1 → labE (gf j) = true) := fun h j hj => by
             rcases Nat.lt_succ_iff_lt_or_eq.1 hj with h2 | rfl
             · exact hz.out j h2
             · exact h
           have HFF : Hid (labE (gf k) = false → r = 1) := fun h => HR2.out HF3.out (HAF.out k hlt h)
           generalize gf k = s at *
           by_cases hse : s = ByteArray.empty
           · subst hse
             have HZ3 : Hid (∀ j, j < k + 1 → labE (gf j) = true) := HZ2.out (by simp [labE])
             clear HZ2 HFF
             go_wp2_with fail
             go_round
             case rel => exact ⟨k + 1, by omega, by go_num, HZ3.out⟩
             case measure => simp [intOf]; omega
           · have HE : Hid (labE s = labB s) := (show labE s = labB s by simp [labE, hse])
             obtain ⟨h1, h2⟩ := beq_name hse
             have h3 : ¬ s.toList = [] := fun e => h2 (by rw [e, Lib.toList_data]; rfl)
             have h4 : (s.toList == []) = false := by simpa using h3
             clear hse
             rcases hl : labB s with _ | _
             · have HR : Hid (r = 1) := HFF.out (by rw [HE.out, hl])
               go_wp2_with (go_at_call 28; refine (isLabel_any _ _ hsk).mono ?_; rintro e w' ⟨rfl, rfl⟩; rw [hl])
               go_ret
               exact ⟨ret_int HR.out.symm, HBW.out⟩
             · have HZ3 : Hid (∀ j, j < k + 1 → labE (gf j) = true) := HZ2.out (by rw [HE.out, hl])
               clear HZ2 HFF
               go_wp2_with (go_at_call 28; refine (isLabel_any _ _ hsk).mono ?_; rintro e w' ⟨rfl, rfl⟩; rw [hl])
               go_round
               case rel => exact ⟨k + 1, by omega, by go_num, HZ3.out⟩
               case measure => simp [intOf]; omega
         · have HRW : Hid (r = if wb = true then 7 else 0) := HR3.out HF3.out (HAT.out fun j hj => hz.out j (by omega))
           clear HR1 HR2 HR3 HAT HAF hz
           go_wp2_with fail
           clear hlt hk
           go_loop [5] (fun i => ∃ k : Nat, k ≤ 4 ∧ i = .int .i64 k ∧ Hid (∀ j, j < k → wf j = false)) (fun i => 4 - (intOf i).toNat)
           case atStart => exact ⟨0, Nat.zero_le _, rfl, fun j h => absurd h (Nat.not_lt_zero _)⟩
           case round =>
             obtain ⟨m, hm, rfl, hz⟩ := hrel
             by_cases hlt : m < 4
             · have hc := HCC.out m hlt
               have hw0 := HWJ.out m
               have HZ2 : Hid (wf m = false → ∀ j, j < m + 1 → wf j = false) := fun h j hj => by
                 rcases Nat.lt_succ_iff_lt_or_eq.1 hj with h2 | rfl
                 · exact hz.out j h2
                 · exact h
               have HFF : Hid (wf m = true → r = 7) := fun h => by rw [HRW.out, HWO.out m hlt h]; rfl
               generalize gf m = s at *
               generalize wf m = b at *
               by_cases h2 : m = 2
               · subst h2
                 rw [if_pos rfl] at hw0
                 rcases hb : isW2 s with _ | _
                 · have hne := fun h => (Bool.eq_false_iff.1 hb) ((isW2_iff s).2 h)
                   obtain ⟨a1, a2⟩ := ne_serv (fun e => hne (.inl e))
                   obtain ⟨b1, b2⟩ := ne_node (fun e => hne (.inr e))
                   have HZ3 : Hid (∀ j, j < 2 + 1 → wf j = false) := HZ2.out (by rw [hw0, hb])
                   clear HZ2 HFF hw0 hne hb
                   go_wp2_with fail
                   go_round
                   case rel => exact ⟨2 + 1, by omega, by go_num, HZ3.out⟩
                   case measure => simp [intOf]
                 · have HR : Hid (r = 7) := HFF.out (by rw [hw0, hb])
                   clear HZ2 HFF hw0
                   rcases (isW2_iff s).1 hb with rfl | rfl
                   all_goals
                     clear hb
                     go_wp2_with fail
                     go_ret
                     exact ⟨ret_int HR.out.symm, HBW.out⟩
               · rw [if_neg h2] at hw0
                 have h5 : ((m : Int) == 2) = false := by simp; omega
                 have h6 : ¬ (m : Int) = 2 := by omega
                 rcases hb : isW3 s with _ | _
                 · have hne := fun h => (Bool.eq_false_iff.1 hb) ((isW3_iff s).2 h)
                   obtain ⟨a1, a2⟩ := ne_serv (fun e => hne (.inl e))
                   obtain ⟨b1, b2⟩ := ne_node (fun e => hne (.inr (.inl e)))
                   obtain ⟨c1, c2⟩ := ne_mesh (fun e => hne (.inr (.inr e)))
                   have HZ3 : Hid (∀ j, j < m + 1 → wf j = false) := HZ2.out (by rw [hw0, hb])
                   clear HZ2 HFF hw0 hne hb h2
                   go_wp2_with fail
                   go_round
                   case rel => exact ⟨m + 1, by omega, by go_num, HZ3.out⟩
                   case measure => simp [intOf]; omega
                 · have HR : Hid (r = 7) := HFF.out (by rw [hw0, hb])
                   clear HZ2 HFF hw0 h2
                   rcases (isW3_iff s).1 hb with rfl | rfl | rfl
                   all_goals
                     clear hb
                     go_wp2_with fail
                     go_ret
                     exact ⟨ret_int HR.out.symm, HBW.out⟩
             · have HR : Hid (r = 0) := (show r = 0 by rw [HRW.out, HWA.out fun j hj => hz.out j (by omega)]; rfl)
               go_wp2_with fail
               go_ret
               exact ⟨ret_int HR.out.symm, HBW.out⟩)

end Go.Proofs.YtignmeaeibaejaaGreat

/- The document's labels of a name. -/
namespace Go.Proofs.YtignmeaeibaejaaGreat
open Go.RowKit

/-- A name's labels: none of an empty one. -/
def labs (s : ByteArray) : List ByteArray := if s.size = 0 then [] else (spl s.data.toList).map mk

theorem ext_mid (s : ByteArray) (a b : Nat) : s.extract a b = mk ((s.data.toList.drop a).take (b - a)) := by
  rw [← mk_data (s.extract a b)]
  congr 1
  rw [Lib.extract_data]
theorem free_step {l : List UInt8} {a b : Nat} (hab : a ≤ b) (hb : b < l.length) (h : 46 ∉ (l.drop a).take (b - a)) (hc : l[b] ≠ 46) : 46 ∉ (l.drop a).take (b + 1 - a) := by
  have e : b + 1 - a = (b - a) + 1 := by omega
  have hl : b - a < (l.drop a).length := by rw [List.length_drop]; omega
  rw [e, List.take_succ_eq_append_getElem hl]
  intro hm
  rcases List.mem_append.1 hm with h2 | h2
  · exact h h2
  · simp only [List.mem_singleton, List.getElem_drop] at h2
    have : a + (b - a) = b := by omega
    simp only [this] at h2
    exact hc h2.symm
theorem spl_part {l : List UInt8} {a b : Nat} (hab : a ≤ b) (hb : b < l.length) (h : 46 ∉ (l.drop a).take (b - a)) (hc : l[b] = 46) : spl (l.drop a) = (l.drop a).take (b - a) :: spl (l.drop (b + 1)) := by
  have e : l.drop a = (l.drop a).take (b - a) ++ 46 :: l.drop (b + 1) := by
    have h1 : (l.drop a).drop (b - a) = l.drop b := by rw [List.drop_drop]; congr 1; omega
    have h2 : l.drop b = 46 :: l.drop (b + 1) := by rw [List.drop_eq_getElem_cons hb, hc]
    rw [← h2, ← h1, List.take_append_drop]
  conv => lhs; rw [e]
  exact spl_app _ _ h

theorem spl_le (s : ByteArray) : (spl s.data.toList).length ≤ s.size + 1 := by
  rw [spl_len]
  have h5 : s.data.toList.count 46 ≤ s.data.toList.length := List.count_le_length
  have h6 : s.data.toList.length = s.size := by simp
  omega
theorem byte_is {s : ByteArray} {k : Nat} (h : k < s.size) (hb : s[k] = 46) (hl : k < s.data.toList.length) : s.data.toList[k] = 46 := by
  rw [← hb]; simp [ByteArray.getElem_eq_getElem_data]
theorem byte_ne {s : ByteArray} {k : Nat} (h : k < s.size) (hb : s[k] ≠ 46) (hl : k < s.data.toList.length) : s.data.toList[k] ≠ 46 := fun e => hb (by
  rw [← e]; simp [ByteArray.getElem_eq_getElem_data])
theorem toNat_ne {c : UInt8} (h : c ≠ 46) : ((c.toNat : Int) == 46) = false ∧ ¬ (c.toNat : Int) = 46 := by
  have h2 : ¬ (c.toNat : Int) = 46 := fun e => h (UInt8.toNat_inj.1 (by have : c.toNat = 46 := by omega
                                                                        rw [this]; rfl))
  exact ⟨by simpa using h2, h2⟩

set_option maxHeartbeats 3200000 in
set_option maxRecDepth 100000 in
theorem labelsOf_any (s : ByteArray) (w : World) (hs : s.size ≤ 2000000) :
    Calls Tryz.prog 55 #[.string s] w fun e w' => ∃ v, e = .returned v ∧ OwnS w.heap.size w' v (labs s) ∧ Below w.heap.size w w' := by
  by_cases h0 : s.size = 0
  · have e0 : labs s = [] := by unfold labs; rw [if_pos h0]
    rw [e0]
    have := isempty h0
    subst this
    clear e0 h0 hs
    go_enter Tryz.func55, Tryz.ntmps55
    go_wp2_with fail
    go_ret
    exact ⟨_, rfl, ownS_nil _ _, Below.refl _ _⟩
  · obtain ⟨n1, n2⟩ := nempty h0
    obtain ⟨i0, hi0, hz0, hzs, hzb⟩ := info_parts Tryz.info9
    have HL : Hid (labs s = (spl s.data.toList).map mk) := (show labs s = _ by unfold labs; rw [if_neg h0])
    have HCN : Hid ((spl s.data.toList).length ≤ s.size + 1) := spl_le s
    generalize labs s = LS at *
    clear h0
    go_enter Tryz.func55, Tryz.ntmps55
    go_wp2_with fail
    go_loopw [3, 4, 5] (fun o f i wr => ∃ (a k : Nat) (D : List (List UInt8)), a ≤ k ∧ k ≤ s.size ∧ f = .int .i64 a ∧ i = .int .i64 k ∧ Hid (spl s.data.toList = D ++ spl (s.data.toList.drop a)) ∧ Hid (46 ∉ (s.data.toList.drop a).take (k - a)) ∧ Hid (Below w.heap.size w wr) ∧ Hid (OwnS w.heap.size wr o (D.map mk))) (fun _ _ i _ => s.size - (intOf i).toNat)
    case atStart => exact ⟨0, 0, [], Nat.le_refl _, Nat.zero_le _, rfl, rfl, rfl, (show 46 ∉ _ by simp), Below.refl _ _, ownS_nil _ _⟩
    case round =>
      obtain ⟨a, k, D, hak, hk, rfl, rfl, HS, HFR, HB, HO⟩ := hrel
      have hsz := HB.out.size
      have hDl : D.length ≤ s.size + 1 := by
        have h5 := HCN.out
        rw [HS.out, List.length_append] at h5
        omega
      have ha1 : (0 : Int) ≤ (a : Int) := by omega
      have ha3 : ((a : Int)).toNat = a := by omega
      have hk3 : ((k : Int)).toNat = k := by omega
      by_cases hlt : k < s.size
      · have hak2 : (a : Int) ≤ (k : Int) := by omega
        have hks : (k : Int) ≤ (s.size : Int) := by omega
        by_cases hb : s[k] = 46
        · have hn46 : ((s[k]).toNat : Int) = 46 := by rw [hb]; rfl
          have HS2 : Hid (spl s.data.toList = (D ++ [(s.data.toList.drop a).take (k - a)]) ++ spl (s.data.toList.drop (k + 1))) := (show _ = _ by
            have hlk : k < s.data.toList.length := by simpa using hlt
            rw [HS.out, spl_part hak hlk HFR.out (byte_is hlt hb hlk)]; simp)
          have HX : Hid (mk ((s.data.toList.drop a).take (k - a)) = s.extract a k) := (ext_mid s a k).symm
          clear HS HFR
          go_wp2_with (at_builtin; refine wpList_append_own _ rfl _ _ 57 rfl w.heap.size 9 i0 _ 1 16 Tryz.underlying57 hi0 hz0 hzs hzb rfl (by omega) _ (D.map mk).length ((D.map mk).map Value.string) rfl ?hown ⟨wr.heap.size, 0, none⟩ 1 1 [.string (s.extract a k)] rfl rfl ?hnews (strs_one [_]) ?h63 ?hbytes ?hbase ?_)
          case hown => exact HO.out.below ((Below.refl _ _).alloc (Nat.le_refl _) _)
          case hnews => (intro j u hj; rw [Addr.add_lit]; exact (cell_topL (by simp)).trans (by simpa using hj))
          case h63 => (rw [List.length_map]; unfold maxLen; omega)
          case hbytes => (rw [List.length_map]; omega)
          case hbase => (simp; omega)
          intro v' w2 r1 r2 r3
          have HBX : Hid (Below w.heap.size w w2) := (HB.out.alloc hsz _).grown r2 (by simp; omega) (fun j hj => (HO.out.lt j hj).1)
          have HOX : Hid (OwnS w.heap.size w2 v' ((D ++ [(s.data.toList.drop a).take (k - a)]).map mk)) := (show OwnS _ _ _ _ by
            rw [List.map_append, List.map_cons, List.map_nil, HX.out]; exact ownS_snoc (l := D.map mk) (by rw [List.length_map, List.map_map]; exact r1))
          clear r1 r2 r3 hb hn46
          go_wp2_with fail
          exact ⟨⟨k + 1, k + 1, D ++ [(s.data.toList.drop a).take (k - a)], Nat.le_refl _, by omega, by go_num, by go_num, HS2, (show 46 ∉ _ by simp), HBX, HOX⟩, by simp [intOf]; omega⟩
        · obtain ⟨hn1, hn2⟩ := toNat_ne hb
          have HF2 : Hid (46 ∉ (s.data.toList.drop a).take (k + 1 - a)) := (show 46 ∉ _ by
            have hlk : k < s.data.toList.length := by simpa using hlt
            exact free_step hak hlk HFR.out (byte_ne hlt hb hlk))
          clear hb HFR
          go_wp2_with fail
          exact ⟨⟨a, k + 1, D, by omega, by omega, rfl, by go_num, HS, HF2, HB, HO⟩, by simp [intOf]; omega⟩
      · have hkn : k = s.size := by omega
        have HX : Hid (mk (s.data.toList.drop a) = s.extract a s.size) := (ext_from s a).symm
        have HS2 : Hid (LS = D.map mk ++ [mk (s.data.toList.drop a)]) := (show LS = _ by
          have h46 : 46 ∉ s.data.toList.drop a := by
            have h := HFR.out
            rwa [List.take_of_length_le (by rw [List.length_drop]; simp; omega)] at h
          rw [HL.out, HS.out, spl_none _ h46]; simp)
        have has : (a : Int) ≤ (s.size : Int) := by omega
        clear HS HFR HL
        go_wp2_with (at_builtin; refine wpList_append_own _ rfl _ _ 57 rfl w.heap.size 9 i0 _ 1 16 Tryz.underlying57 hi0 hz0 hzs hzb rfl (by omega) _ (D.map mk).length ((D.map mk).map Value.string) rfl ?hown ⟨wr.heap.size, 0, none⟩ 1 1 [.string (s.extract a s.size)] rfl rfl ?hnews (strs_one [_]) ?h63 ?hbytes ?hbase ?_)
        case hown => exact HO.out.below ((Below.refl _ _).alloc (Nat.le_refl _) _)
        case hnews => (intro j u hj; rw [Addr.add_lit]; exact (cell_topL (by simp)).trans (by simpa using hj))
        case h63 => (rw [List.length_map]; unfold maxLen; omega)
        case hbytes => (rw [List.length_map]; omega)
        case hbase => (simp; omega)
        intro v' w2 r1 r2 r3
        have HBX : Hid (Below w.heap.size w w2) := (HB.out.alloc hsz _).grown r2 (by simp; omega) (fun j hj => (HO.out.lt j hj).1)
        have HOX : Hid (OwnS w.heap.size w2 v' LS) := (show OwnS _ _ _ _ by
          rw [HS2.out, HX.out]; exact ownS_snoc (l := D.map mk) (by rw [List.length_map, List.map_map]; exact r1))
        clear r1 r2 r3
        go_wp2_with fail
        go_ret
        exact ⟨v', rfl, HOX.out, HBX.out⟩

end Go.Proofs.YtignmeaeibaejaaGreat

