/- PS0, PSN, ShelfT, PS6, PS7 -/
import Derived.WalkKit
import Derived.Sort.Statements
import Derived.Test.YtkicpbomjpgjpaaGreatV12
import Derived.Test.YtkicpbomjpgjpaaGreatV2
import Derived.Shelf.SlSortCmp.NoneTotal
import Derived.Test.YtkicpbomjpgjpaaGreatProg
import Derived.Shelf.SlSortFunc.HeapSort
import Derived.Laws.EntriesVeiled
/- Lists that are sorted by a strict order, in one way alone; insertion. -/
namespace Go.Proofs.YtkicpbomjpgjpaaGreat
namespace So
open Go.Sort

section
variable {α : Type}

/-- No later one is less than an earlier one. -/
abbrev Up (lt : α → α → Bool) (l : List α) : Prop := l.Pairwise fun a b => lt b a = false

theorem up_eq {lt : α → α → Bool} (ha : ∀ a b, lt a b = false → lt b a = false → a = b) : ∀ {l m : List α}, l.Perm m → Up lt l → Up lt m → l = m
  | [], m, hp, _, _ => (List.Perm.nil_eq hp)
  | a :: l, [], hp, _, _ => by have := hp.length_eq; simp at this
  | a :: l, b :: m, hp, h1, h2 => by
    have h1' := List.pairwise_cons.1 h1
    have h2' := List.pairwise_cons.1 h2
    have hab : a = b := by
      have m1 : a ∈ b :: m := hp.mem_iff.1 (List.mem_cons_self ..)
      have m2 : b ∈ a :: l := hp.mem_iff.2 (List.mem_cons_self ..)
      rcases List.mem_cons.1 m1 with e | e
      · exact e
      · rcases List.mem_cons.1 m2 with f | f
        · exact f.symm
        · exact ha a b (h2'.1 a e) (h1'.1 b f)
    subst hab
    rw [up_eq ha (List.Perm.cons_inv hp) h1'.2 h2'.2]

/-- How many of the first ones are not behind x. -/
def pos (lt : α → α → Bool) (x : α) : List α → Nat
  | [] => 0
  | y :: r => if lt x y = false then pos lt x r + 1 else 0
theorem pos_le (lt : α → α → Bool) (x : α) : ∀ l : List α, pos lt x l ≤ l.length
  | [] => Nat.le_refl _
  | y :: r => by rw [pos]; split <;> simp [pos_le lt x r]
def ins (lt : α → α → Bool) (x : α) (l : List α) : List α := l.take (pos lt x l) ++ x :: l.drop (pos lt x l)
theorem pos_lt {lt : α → α → Bool} {x d : α} : ∀ {l : List α} {k : Nat}, k < pos lt x l → lt x (l.getD k d) = false
  | [], k, h => by simp [pos] at h
  | y :: r, k, h => by
    rw [pos] at h
    split at h
    · rename_i hy
      cases k with
      | zero => simpa using hy
      | succ k => have := pos_lt (lt := lt) (x := x) (d := d) (l := r) (k := k) (by omega); simpa using this
    · omega
theorem pos_at {lt : α → α → Bool} {x d : α} : ∀ {l : List α}, pos lt x l < l.length → lt x (l.getD (pos lt x l) d) = true
  | [], h => by simp [pos] at h
  | y :: r, h => by
    by_cases hy : lt x y = false
    · have e : pos lt x (y :: r) = pos lt x r + 1 := by rw [pos, if_pos hy]
      rw [e] at h ⊢
      have := pos_at (lt := lt) (x := x) (d := d) (l := r) (by simpa using h)
      simpa using this
    · have e : pos lt x (y :: r) = 0 := by rw [pos, if_neg hy]
      rw [e]
      simpa using hy
/-- The first place where x is less, if those ahead of it are not behind x. -/
theorem pos_is {lt : α → α → Bool} {x d : α} {l : List α} {k : Nat} (hk : k ≤ l.length) (h1 : ∀ j, j < k → lt x (l.getD j d) = false) (h2 : k < l.length → lt x (l.getD k d) = true) : pos lt x l = k := by
  rcases Nat.lt_trichotomy (pos lt x l) k with h | h | h
  · have h3 := pos_at (lt := lt) (x := x) (d := d) (l := l) (by omega)
    rw [h1 _ h] at h3
    cases h3
  · exact h
  · have h3 := pos_lt (lt := lt) (x := x) (d := d) h
    have h4 := h2 (by have := pos_le lt x l; omega)
    rw [h3] at h4
    cases h4
theorem ins_perm (lt : α → α → Bool) (x : α) (l : List α) : (ins lt x l).Perm (x :: l) := by
  unfold ins
  refine List.perm_middle.trans ?_
  rw [List.take_append_drop]
theorem ins_cons (lt : α → α → Bool) (x y : α) (r : List α) : ins lt x (y :: r) = if lt x y = false then y :: ins lt x r else x :: y :: r := by
  unfold ins
  by_cases h : lt x y = false
  · rw [if_pos h, pos, if_pos h]; rfl
  · rw [if_neg h, pos, if_neg h]; rfl
theorem ins_up {lt : α → α → Bool} (hs : SWO lt) (x : α) : ∀ {l : List α}, Up lt l → Up lt (ins lt x l)
  | [], _ => by simp [ins, pos]
  | y :: r, h => by
    have h' := List.pairwise_cons.1 h
    rw [ins_cons]
    split
    · rename_i hy
      refine List.pairwise_cons.2 ⟨fun z hz => ?_, ins_up hs x h'.2⟩
      rcases List.mem_cons.1 ((ins_perm lt x r).mem_iff.1 hz) with rfl | hz
      · exact hy
      · exact h'.1 z hz
    · rename_i hy
      have hy' : lt x y = true := by simpa using hy
      have hyx : lt y x = false := by
        cases h2 : lt y x
        · rfl
        · have := hs.trans x y x hy' h2
          rw [hs.irrefl x] at this
          cases this
      refine List.pairwise_cons.2 ⟨fun z hz => ?_, h⟩
      rcases List.mem_cons.1 hz with rfl | hz
      · exact hyx
      · exact hs.ntrans z y x (h'.1 z hz) hyx
def insAll (lt : α → α → Bool) (l : List α) : List α := l.foldl (fun out x => ins lt x out) []
theorem insAll_snoc (lt : α → α → Bool) (l : List α) (k : Nat) (d : α) (hk : k < l.length) : insAll lt (l.take (k + 1)) = ins lt (l.getD k d) (insAll lt (l.take k)) := by
  rw [List.take_succ_eq_append_getElem hk, insAll, List.foldl_append]
  simp [List.getD, List.getElem?_eq_getElem hk, insAll]
theorem insAll_ok {lt : α → α → Bool} (hs : SWO lt) (l : List α) : ∀ k, Up lt (insAll lt (l.take k)) ∧ (insAll lt (l.take k)).Perm (l.take k)
  | 0 => by simp [insAll]
  | k + 1 => by
    obtain ⟨h1, h2⟩ := insAll_ok hs l k
    by_cases hk : k < l.length
    · rw [insAll_snoc lt l k l[k] hk]
      refine ⟨ins_up hs _ h1, (ins_perm _ _ _).trans ?_⟩
      rw [List.take_succ_eq_append_getElem hk]
      have e : l.getD k l[k] = l[k] := by simp [List.getD, List.getElem?_eq_getElem hk]
      rw [e]
      exact (List.Perm.cons _ h2).trans (List.perm_append_singleton _ _).symm
    · rw [List.take_of_length_le (by omega)]
      rw [List.take_of_length_le (by omega)] at h1 h2
      exact ⟨h1, h2⟩
theorem insAll_len (lt : α → α → Bool) (l : List α) (hs : SWO lt) (k : Nat) (hk : k ≤ l.length) : (insAll lt (l.take k)).length = k := by
  rw [(insAll_ok hs l k).2.length_eq, List.length_take]; omega

/-- What is sorted, whatever way, is sorted by insertion. -/
theorem insAll_eq {lt : α → α → Bool} (hs : SWO lt) (ha : ∀ a b, lt a b = false → lt b a = false → a = b) {l m : List α} (hp : m.Perm l) (hu : Up lt m) : m = insAll lt l := by
  obtain ⟨h1, h2⟩ := insAll_ok hs l l.length
  rw [List.take_length] at h1 h2
  exact up_eq ha (hp.trans h2.symm) hu h1
end

/-- By how far, then by name. -/
def cfD (D : ByteArray → Int) (cmp : ByteArray → ByteArray → Int) (a b : ByteArray) : Int := if D a < D b then -1 else if D b < D a then 1 else cmp a b

end So
end Go.Proofs.YtkicpbomjpgjpaaGreat

/- The order of names: by how far they are, then by name. -/
namespace Go.Proofs.YtkicpbomjpgjpaaGreat
open Go.RowKit Go.Sort Go.Lib Go.WideMaps Go.Maps

def cfN (d : ByteArray → Int) (a b : ByteArray) : Int := orZ (cmpZ (d a) (d b)) (cmpI a b)
theorem cfN_neg (d : ByteArray → Int) (a b : ByteArray) : cfN d a b < 0 ↔ d a < d b ∨ (d a = d b ∧ cmpI a b < 0) := by
  unfold cfN orZ cmpZ
  generalize d a = x
  generalize d b = y
  repeat' split
  all_goals omega
def ltN (d : ByteArray → Int) (a b : ByteArray) : Bool := decide (cfN d a b < 0)
theorem ltN_true (d : ByteArray → Int) (a b : ByteArray) : ltN d a b = true ↔ d a < d b ∨ (d a = d b ∧ cmpI a b < 0) := by
  rw [ltN, decide_eq_true_iff, cfN_neg]
theorem ltN_false (d : ByteArray → Int) (a b : ByteArray) : ltN d a b = false ↔ ¬ (d a < d b ∨ (d a = d b ∧ cmpI a b < 0)) := by
  rw [← ltN_true, Bool.not_eq_true]
theorem cmpI_ge {a b c : ByteArray} (h1 : ¬ cmpI a b < 0) (h2 : ¬ cmpI b c < 0) : ¬ cmpI a c < 0 := fun h => by
  rcases Int.lt_trichotomy (cmpI a b) 0 with h3 | h3 | h3
  · exact h1 h3
  · have e := (cmpI_eq a b).1 h3
    rw [e] at h
    exact h2 h
  · exact h2 (cmpI_trans b a c ((cmpI_flip a b).1 h3) h)
theorem swoN (d : ByteArray → Int) : SWO (ltN d) where
  irrefl x := by rw [ltN_false, cmpI_self]; omega
  trans x y z h1 h2 := by
    rw [ltN_true] at *
    rcases h1 with h1 | ⟨h1, h3⟩
    · rcases h2 with h2 | ⟨h2, _⟩ <;> omega
    · rcases h2 with h2 | ⟨h2, h4⟩
      · omega
      · exact .inr ⟨by omega, cmpI_trans x y z h3 h4⟩
  ntrans x y z h1 h2 := by
    rw [ltN_false] at *
    rintro (h | ⟨h, h3⟩)
    · omega
    · have hd : d x = d y ∧ d y = d z := by omega
      exact cmpI_ge (fun h4 => h1 (.inr ⟨hd.1, h4⟩)) (fun h4 => h2 (.inr ⟨hd.2, h4⟩)) h3
theorem ltN_anti (d : ByteArray → Int) (a b : ByteArray) (h1 : ltN d a b = false) (h2 : ltN d b a = false) : a = b := by
  rw [ltN_false] at *
  have hd : d a = d b := by omega
  have h3 : ¬ cmpI a b < 0 := fun h => h1 (.inr ⟨hd, h⟩)
  have h4 : ¬ cmpI b a < 0 := fun h => h2 (.inr ⟨hd.symm, h⟩)
  have h5 := cmpI_flip a b
  exact (cmpI_eq a b).1 (by omega)

/-- The names as Sort has them. -/
def srt (p : Pl) (ms : List Wh.Whe) (ns : List ByteArray) : List ByteArray := So.insAll (ltN (dV (Dd (farW p) ms ms.length))) ns

end Go.Proofs.YtkicpbomjpgjpaaGreat

/- Contracts of the library, laid at this program. -/
namespace Go.Proofs
open Go.Shelf
def Tryz.sortS_ren : Go.Shelf.Ren := ⟨fun | 6 => 39 | 15 => 73 | 14 => 72 | 28 => 96 | 29 => 97 | 20 => 88 | 21 => 89 | 22 => 90 | 23 => 91 | 24 => 92 | 25 => 93 | 26 => 94 | 27 => 95 | 46 => 104 | 47 => 105 | 48 => 106 | 49 => 107 | 50 => 108 | 57 => 113 | n => n, fun | 22 => 26 | 24 => 9 | 25 => 78 | 3 => 3 | 39 => 107 | 0 => 0 | 53 => 124 | 55 => 126 | 4 => 4 | 46 => 118 | 45 => 117 | 50 => 72 | 5 => 5 | 9 => 9 | 66 => 130 | 70 => 134 | 76 => 137 | 77 => 138 | n => n, fun | n => n⟩
theorem Tryz.sortS : Go.Proofs.SlLaysF.n6 Tryz.prog Tryz.sortS_ren := {
  mixed := by kernel_rfl
  f6 := ⟨Tryz.f39.name, by decide, Tryz.func39.trans (congrArg some (by kernel_rfl))⟩
  f14 := ⟨Tryz.f72.name, by decide, Tryz.func72.trans (congrArg some (by kernel_rfl))⟩
  f15 := Tryz.func73.trans (congrArg some (by kernel_rfl))
  f20 := ⟨Tryz.f88.name, by decide, Tryz.func88.trans (congrArg some (by kernel_rfl))⟩
  f21 := ⟨Tryz.f89.name, by decide, Tryz.func89.trans (congrArg some (by kernel_rfl))⟩
  f22 := ⟨Tryz.f90.name, by decide, Tryz.func90.trans (congrArg some (by kernel_rfl))⟩
  f23 := ⟨Tryz.f91.name, by decide, Tryz.func91.trans (congrArg some (by kernel_rfl))⟩
  f24 := ⟨Tryz.f92.name, by decide, Tryz.func92.trans (congrArg some (by kernel_rfl))⟩
  f25 := ⟨Tryz.f93.name, by decide, Tryz.func93.trans (congrArg some (by kernel_rfl))⟩
  f26 := ⟨Tryz.f94.name, by decide, Tryz.func94.trans (congrArg some (by kernel_rfl))⟩
  f27 := ⟨Tryz.f95.name, by decide, Tryz.func95.trans (congrArg some (by kernel_rfl))⟩
  f28 := Tryz.func96.trans (congrArg some (by kernel_rfl))
  f29 := Tryz.func97.trans (congrArg some (by kernel_rfl))
  f46 := ⟨Tryz.f104.name, by decide, Tryz.func104.trans (congrArg some (by kernel_rfl))⟩
  f47 := Tryz.func105.trans (congrArg some (by kernel_rfl))
  f48 := Tryz.func106.trans (congrArg some (by kernel_rfl))
  f49 := ⟨Tryz.f107.name, by decide, Tryz.func107.trans (congrArg some (by kernel_rfl))⟩
  f50 := ⟨Tryz.f108.name, by decide, Tryz.func108.trans (congrArg some (by kernel_rfl))⟩
  f57 := ⟨Tryz.f113.name, by decide, Tryz.func113.trans (congrArg some (by kernel_rfl))⟩
  t0 := Tryz.underlying0
  a0 := Tryz.isAgg0
  z0 := Tryz.sizeOf0
  v0 := Tryz.zeroValue0
  t3 := Tryz.underlying3
  a3 := Tryz.isAgg3
  z3 := Tryz.sizeOf3
  v3 := Tryz.zeroValue3
  t4 := Tryz.underlying4
  a4 := Tryz.isAgg4
  z4 := Tryz.sizeOf4
  v4 := Tryz.zeroValue4
  t5 := Tryz.underlying5
  a5 := Tryz.isAgg5
  z5 := Tryz.sizeOf5
  v5 := Tryz.zeroValue5
  t9 := Tryz.underlying9
  a9 := Tryz.isAgg9
  z9 := Tryz.sizeOf9
  v9 := Tryz.zeroValue9
  t22 := Tryz.underlying26
  a22 := Tryz.isAgg26
  z22 := Tryz.sizeOf26
  v22 := Tryz.zeroValue26
  a24 := Tryz.isAgg9
  z24 := Tryz.sizeOf9
  t25 := Tryz.underlying78
  a25 := Tryz.isAgg78
  z25 := Tryz.sizeOf78
  v25 := Tryz.zeroValue78
  t39 := Tryz.underlying107
  a39 := Tryz.isAgg107
  z39 := Tryz.sizeOf107
  v39 := Tryz.zeroValue107
  t45 := Tryz.underlying117
  a45 := Tryz.isAgg117
  z45 := Tryz.sizeOf117
  v45 := Tryz.zeroValue117
  t46 := Tryz.underlying118
  a46 := Tryz.isAgg118
  z46 := Tryz.sizeOf118
  v46 := Tryz.zeroValue118
  t50 := Tryz.underlying72
  a50 := Tryz.isAgg72
  z50 := Tryz.sizeOf72
  v50 := Tryz.zeroValue72
  t53 := Tryz.underlying124
  a53 := Tryz.isAgg124
  z53 := Tryz.sizeOf124
  v53 := Tryz.zeroValue124
  t55 := Tryz.underlying126
  a55 := Tryz.isAgg126
  z55 := Tryz.sizeOf126
  v55 := Tryz.zeroValue126
  t66 := Tryz.underlying130
  a66 := Tryz.isAgg130
  z66 := Tryz.sizeOf130
  v66 := Tryz.zeroValue130
  t70 := Tryz.underlying134
  a70 := Tryz.isAgg134
  z70 := Tryz.sizeOf134
  v70 := Tryz.zeroValue134
  t76 := Tryz.underlying137
  a76 := Tryz.isAgg137
  z76 := Tryz.sizeOf137
  v76 := Tryz.zeroValue137
  t77 := Tryz.underlying138
  a77 := Tryz.isAgg138
  z77 := Tryz.sizeOf138
  v77 := Tryz.zeroValue138 }
end Go.Proofs

/- Names, sorted by how far they are, then by name: the order, and the library's sort. -/
namespace Go.Proofs.YtkicpbomjpgjpaaGreat
open Go.RowKit Go.Sort Go.Shelf Go.Lib Go.WideMaps Go.Maps

def nm (ns : List ByteArray) (x : Nat) : ByteArray := ns.getD x ByteArray.empty
def cfF (ns : List ByteArray) (d : ByteArray → Int) (m : Nat) (x y : Fin (m + 1)) : Int := cfN d (nm ns x.val) (nm ns y.val)
theorem ltF_is (ns : List ByteArray) (d : ByteArray → Int) (m : Nat) (x y : Fin (m + 1)) : ltOf (cfF ns d m) x y = ltN d (nm ns x.val) (nm ns y.val) := rfl
theorem swoF (ns : List ByteArray) (d : ByteArray → Int) (m : Nat) : SWO (ltOf (cfF ns d m)) where
  irrefl _ := (swoN d).irrefl _
  trans _ _ _ h1 h2 := (swoN d).trans _ _ _ h1 h2
  ntrans _ _ _ h1 h2 := (swoN d).ntrans _ _ _ h1 h2
def encN (ns : List ByteArray) (m : Nat) (x : Fin (m + 1)) : Value := .string (nm ns x.val)
def allF (m : Nat) : Array (Fin (m + 1)) := Array.ofFn (fun x => x)
theorem allF_size (m : Nat) : (allF m).size = m + 1 := by simp [allF]
theorem allF_get (m j : Nat) (hj : j < m + 1) : (allF m)[j]! = ⟨j, hj⟩ := by
  rw [getElem!_pos _ j (by rw [allF_size]; exact hj)]
  simp [allF]
theorem allF_names (ns : List ByteArray) (m : Nat) (hn : ns.length = m + 1) : (allF m).toList.map (fun x => nm ns x.val) = ns := by
  apply List.ext_getElem
  · simp [allF, hn]
  · intro j h1 h2
    rw [List.getElem_map, Array.getElem_toList]
    simp only [allF, Array.getElem_ofFn, nm]
    simp [List.getD, List.getElem?_eq_getElem h2]
theorem alloc_grow (W : World) (o : Obj) : (W.alloc o).drew = grow (W.drewN 1) #[o] := by
  simp only [grow, World.alloc, World.drew, World.drewN, Array.push_eq_append]

theorem sortWorld_block {α : Type} [Inhabited α] (enc : α → Value) (w : World) (b off q g : Nat) (dk : Array α) (os : Array Obj) (hne : g ≠ b) (hl : g < w.heap.size) : (sortWorld enc w b off q dk os).heap[g]? = w.heap[g]? := by
  unfold sortWorld
  rw [heap_grow_old _ _ (by simp [putRow, mapBlock, Go.Sort.ahead]; omega)]
  have : b ≠ g := fun e => hne e.symm
  simp [putRow, mapBlock, Go.Sort.ahead, Array.getElem?_modify, this]
theorem below_sortW {α : Type} [Inhabited α] (enc : α → Value) {B : Nat} {w : World} {g off n : Nat} {d : Array α} {os : Array Obj} (hg : B ≤ g) (hB : B ≤ w.heap.size) : Below B w (sortWorld enc w g off n d os) :=
  ⟨rfl, rfl, rfl, by simp [sortWorld, putRow, mapBlock, Go.Sort.ahead, grow], fun k hk => sortWorld_block enc w g off n k d os (by omega) (by omega)⟩

theorem cmpN (ns : List ByteArray) (m db kb g n gb : Nat) (D : DataW Unit) (w : World) (hsz : ∀ j, (nm ns j).size ≤ maxLen) (hd : w.cell? ⟨db, 0, none⟩ = some (.func (.func 37) #[] #[.pointer (some ⟨kb, 0, none⟩)])) (hk : w.cell? ⟨kb, 0, none⟩ = some (.map (some g))) (hm : w.ownsMap Tryz.prog 9 (plainElem (H := Unit) Tryz.prog 3) g n D) (h1 : db ≠ gb) (h2 : kb ≠ gb) (h3 : g ≠ gb) :
    CmpLays1 Tryz.prog 40 #[.pointer (some ⟨db, 0, none⟩)] (encN ns m) (cfF ns (dV D) m) gb 0 (allF m).size w := by
  intro q os dk hs x y
  have hl1 : db < w.heap.size := World.block_lt_of_cell? w _ hd
  have hl2 : kb < w.heap.size := World.block_lt_of_cell? w _ hk
  have hl3 : g < w.heap.size := hm.lt
  have c1 := (cell?_sortWorld_other (encN ns m) w gb 0 q dk os ⟨db, 0, none⟩ h1 hl1).trans hd
  have c2 := (cell?_sortWorld_other (encN ns m) w gb 0 q dk os ⟨kb, 0, none⟩ h2 hl2).trans hk
  have m1 : (sortWorld (encN ns m) w gb 0 q dk os).ownsMap Tryz.prog 9 (plainElem (H := Unit) Tryz.prog 3) g n D := by
    obtain ⟨es, cl, e1, e2⟩ := hm
    exact ⟨es, cl, (sortWorld_block (encN ns m) w gb 0 q g dk os h3 hl3).trans e1, e2⟩
  refine (cmp2_any _ _ db kb g n D _ (hsz x.val) (hsz y.val) c1 c2 m1).mono ?_
  rintro e w' ⟨rfl, rfl⟩
  exact ⟨rfl, 1, _, alloc_grow _ _⟩

theorem sorted_of {ns : List ByteArray} {d : ByteArray → Int} {m : Nat} {d' : Array (Fin (m + 1))} (hn : ns.length = m + 1) (hp : PermIn 0 (allF m).size (allF m) d') (hs : SortedIn (ltOf (cfF ns d m)) 0 (allF m).size d') :
    d'.toList.map (fun x => nm ns x.val) = So.insAll (ltN d) ns := by
  obtain ⟨hsz, _, hperm⟩ := hp
  rw [Array.extract_size, show d'.extract 0 (allF m).size = d' by rw [← hsz, Array.extract_size]] at hperm
  refine So.insAll_eq (swoN d) (ltN_anti d) ?_ ?_
  · have h := hperm.map (fun x => nm ns x.val)
    rw [allF_names ns m hn] at h
    exact h
  · have hds : d'.size = m + 1 := by rw [hsz, allF_size]
    refine List.pairwise_iff_getElem.2 fun i j hi hj hij => ?_
    have hj' : j < d'.size := by simpa using hj
    have hi' : i < d'.size := by omega
    have h := hs i j (Nat.zero_le _) hij (by rw [allF_size]; omega)
    rw [getElem!_pos d' j hj', getElem!_pos d' i hi', ltF_is] at h
    simpa using h

/-- SortFunc, of names: what a slice that is one's own holds is sorted in its place. -/
theorem sortF_any (ns : List ByteArray) (m db kb g n gb c : Nat) (D : DataW Unit) (w : World) (hn : ns.length = m + 1) (hsm : m < 1000) (hsz : ∀ j, (nm ns j).size ≤ maxLen) (hd : w.cell? ⟨db, 0, none⟩ = some (.func (.func 37) #[] #[.pointer (some ⟨kb, 0, none⟩)])) (hk : w.cell? ⟨kb, 0, none⟩ = some (.map (some g))) (hm : w.ownsMap Tryz.prog 9 (plainElem (H := Unit) Tryz.prog 3) g n D) (h1 : db ≠ gb) (h2 : kb ≠ gb) (h3 : g ≠ gb)
    (hcell : ∀ j, j < m + 1 → w.cell? ⟨gb, j, none⟩ = some (.string (nm ns j))) (hfz : ∀ j, w.frozen? ⟨gb, j, none⟩ = false) {B : Nat} (hB : B ≤ gb) :
    Calls Tryz.prog 39 #[.slice (some ⟨gb, 0, none⟩) (m + 1) c, .func (.func 40) #[] #[.pointer (some ⟨db, 0, none⟩)]] w fun e w' => e = .returned (.tuple #[]) ∧ TSl w' (.slice (some ⟨gb, 0, none⟩) (m + 1) c) (So.insAll (ltN (dV D)) ns) ∧ Below B w w' ∧ ∀ j, w'.frozen? ⟨gb, j, none⟩ = false := by
  have eg : ∀ args w, (callFunc 40 args).run Tryz.prog w = .ok (.enter 40 args) w := enters_of Tryz.func40 (by kernel_rfl) rfl
  have hgw : gb < w.heap.size := World.block_lt_of_cell? w ⟨gb, 0, none⟩ (hcell 0 (by omega))
  have HHH : Holds (encN ns m) w gb 0 (allF m) := fun j hj => by
    rw [allF_size] at hj
    rw [allF_get m j hj, Nat.zero_add]
    exact ⟨hcell j hj, hfz j⟩
  have hcon := Any.slices_SortFunc Tryz.sortS (encN ns m) (fun _ => rfl) (cfF ns (dV D) m) (swoF ns (dV D) m) 40 #[.pointer (some ⟨db, 0, none⟩)] gb 0 c (allF m) w eg (cmpN ns m db kb g n gb D w hsz hd hk hm h1 h2 h3) HHH hgw (by rw [allF_size]; omega)
  rw [show Value.slice (some ⟨gb, 0, none⟩) (allF m).size c = Value.slice (some ⟨gb, 0, none⟩) (m + 1) c by rw [allF_size]] at hcon
  refine hcon.mono ?_
  rintro e w2 ⟨rfl, d', nd, os, hp, hs, hw2⟩
  have hL := sorted_of hn hp hs
  have hds : d'.size = m + 1 := by rw [hp.1, allF_size]
  have hlen : (So.insAll (ltN (dV D)) ns).length = m + 1 := by rw [← hL]; simp [hds]
  refine ⟨rfl, ⟨some ⟨gb, 0, none⟩, c, by rw [hlen], fun j => ?_, .inr ⟨gb, 0, rfl, ?_, fun j hj => ?_⟩⟩, ?_, fun j => ?_⟩
  · by_cases hj : j < (So.insAll (ltN (dV D)) ns).length
    · have hm2 : (So.insAll (ltN (dV D)) ns).getD j ByteArray.empty ∈ So.insAll (ltN (dV D)) ns := by simp [List.getD, List.getElem?_eq_getElem hj]
      rw [← hL] at hm2
      obtain ⟨x, _, hx⟩ := List.mem_map.1 hm2
      rw [hL] at hx
      rw [← hx]; exact hsz x.val
    · rw [show (So.insAll (ltN (dV D)) ns).getD j ByteArray.empty = ByteArray.empty by simp [List.getD, List.getElem?_eq_none (by omega : (So.insAll (ltN (dV D)) ns).length ≤ j)]]
      decide
  · rw [hw2]
    exact Nat.lt_of_lt_of_le hgw (below_sortW (encN ns m) (B := 0) (Nat.zero_le _) (Nat.zero_le _)).size
  · have hj' : j < m + 1 := by rw [hlen] at hj; exact hj
    have e1 := cell?_putRow (encN ns m) (Go.Sort.ahead w nd) gb 0 (allF m) d' (show Holds (encN ns m) (Go.Sort.ahead w nd) gb 0 (allF m) from HHH) hp.1 j (by omega)
    have e2 : w2.cell? ⟨gb, 0 + j, none⟩ = (putRow (encN ns m) (Go.Sort.ahead w nd) gb 0 d').cell? ⟨gb, 0 + j, none⟩ := by
      rw [hw2]
      exact cell?_grow _ _ _ (World.block_lt_of_cell? (putRow (encN ns m) (Go.Sort.ahead w nd) gb 0 d') ⟨gb, 0 + j, none⟩ e1)
    rw [e2, e1, getElem!_pos d' j (by omega)]
    have e3 : (So.insAll (ltN (dV D)) ns).getD j ByteArray.empty = nm ns (d'[j]'(by omega)).val := by
      rw [← hL]; simp [List.getD, hds, hj']
    rw [e3]; rfl
  · rw [hw2]
    exact below_sortW (encN ns m) hB (by omega)
  · rw [hw2]
    exact (frozen?_grow _ _ ⟨gb, j, none⟩ (by simpa [putRow, mapBlock, Go.Sort.ahead] using hgw)).trans ((frozen?_putRow _ _ _ _ _ _).trans (hfz j))

end Go.Proofs.YtkicpbomjpgjpaaGreat

/- Sort, of what is right. -/
namespace Go.Proofs.YtkicpbomjpgjpaaGreat
open Go.RowKit Go.Shelf Go.Lib Go.WideMaps Go.Maps


/-- A slice's block is new, and not frozen. -/
def FrB (B : Nat) (w : World) (v : Value) : Prop := ∀ g, v.ownBlock = some g → B ≤ g ∧ g < w.heap.size ∧ ∀ j, w.frozen? ⟨g, j, none⟩ = false
theorem FrB.mono {B B' : Nat} {w : World} {v : Value} (h : FrB B w v) (hb : B' ≤ B) : FrB B' w v := fun g hg => ⟨Nat.le_trans hb (h g hg).1, (h g hg).2⟩
theorem sortT_any (ns : List ByteArray) (D : DataW Unit) (n B db kb g : Nat) (vs : Value) (w : World) (ho : OwnS B w vs ns) (hl : ns.length ≤ 100) (hsz : ∀ j, (ns.getD j ByteArray.empty).size ≤ maxLen) (hd : w.cell? ⟨db, 0, none⟩ = some (.func (.func 37) #[] #[.pointer (some ⟨kb, 0, none⟩)])) (hk : w.cell? ⟨kb, 0, none⟩ = some (.map (some g))) (hm : w.ownsMap Tryz.prog 9 (plainElem (H := Unit) Tryz.prog 3) g n D) (h1 : db < B) (h2 : kb < B) (h3 : g < B) :
    Calls Tryz.prog 39 #[vs, .func (.func 40) #[] #[.pointer (some ⟨db, 0, none⟩)]] w fun e w' => e = .returned (.tuple #[]) ∧ TSl w' vs (So.insAll (ltN (dV D)) ns) ∧ FrB B w' vs ∧ Below B w w' := by
  rcases ho.2 with ⟨hv, h0⟩ | ⟨gb, c, cur, hv, hbg, hg, hnc, hcm, hcs, htake⟩
  · subst hv
    have he : ns = [] := List.length_eq_zero_iff.1 h0
    subst he
    refine (show Calls Tryz.prog 39 #[.slice none 0 0, .func (.func 40) #[] #[.pointer (some ⟨db, 0, none⟩)]] w fun e w' => e = .returned (.tuple #[]) ∧ w' = w from AnyF.slices_SortFunc_none (P := Tryz.prog) (ρ := Tryz.sortS_ren) { Tryz.sortS with } none 0 _ w).mono ?_
    rintro e w' ⟨rfl, rfl⟩
    exact ⟨rfl, ⟨none, 0, rfl, fun j => by simp [So.insAll], .inl rfl⟩, (fun g hg => by cases hg), Below.refl _ _⟩
  · subst hv
    by_cases h0 : ns = []
    · subst h0
      refine (show Calls Tryz.prog 39 #[.slice (some ⟨gb, 0, none⟩) 0 c, .func (.func 40) #[] #[.pointer (some ⟨db, 0, none⟩)]] w fun e w' => e = .returned (.tuple #[]) ∧ w' = w from AnyF.slices_SortFunc_none (P := Tryz.prog) (ρ := Tryz.sortS_ren) { Tryz.sortS with } (some ⟨gb, 0, none⟩) c _ w).mono ?_
      rintro e w' ⟨rfl, rfl⟩
      refine ⟨rfl, ⟨some ⟨gb, 0, none⟩, c, rfl, fun j => by simp [So.insAll], .inl rfl⟩, fun g hg2 => ?_, Below.refl _ _⟩
      obtain rfl : gb = g := by simpa [Value.ownBlock] using hg2
      exact ⟨hbg, (Array.getElem?_eq_some_iff.1 hg).1, fun j => World.ownsRow.frozenAt ho j⟩
    · obtain ⟨m, hn⟩ : ∃ m, ns.length = m + 1 := ⟨ns.length - 1, by have := List.length_pos_iff.2 h0; omega⟩
      have hcell : ∀ j, j < m + 1 → w.cell? ⟨gb, j, none⟩ = some (.string (nm ns j)) := fun j hj => by
        rw [World.ownsRow.cellAt ho j (by omega)]
        simp [nm, List.getD, List.getElem?_eq_getElem (show j < ns.length by omega)]
      have hfz : ∀ j, w.frozen? ⟨gb, j, none⟩ = false := fun j => World.ownsRow.frozenAt ho j
      have h := sortF_any ns m db kb g n gb c D w hn (by omega) hsz hd hk hm (by omega) (by omega) (by omega) hcell hfz hbg
      rw [hn]
      refine h.mono ?_
      rintro e w' ⟨h1, h2, h3, h4⟩
      refine ⟨h1, h2, fun g hg2 => ?_, h3⟩
      obtain rfl : gb = g := by simpa [Value.ownBlock] using hg2
      exact ⟨hbg, Nat.lt_of_lt_of_le (Array.getElem?_eq_some_iff.1 hg).1 h3.size, h4⟩

set_option maxHeartbeats 12800000 in
set_option maxRecDepth 100000 in
theorem sort_good (p : Pl) (ms : List Wh.Whe) (v vn : Value) (ns : List ByteArray) (w : World) (hv : Wh.Sl w v ms) (ht : TSl w vn ns) (hn : ms.length ≤ 100) (hm : ns.length ≤ 100) (hb : chkPs (p :: (plcs ms).map toPl) = 0) :
    Calls Tryz.prog 11 #[.agg #[.int .i64 p.x, .int .i64 p.y, .int .i64 p.z, .int .i64 p.h, .int .i64 p.s], v, vn] w fun e w' => ∃ v', e = .returned (.tuple #[v', .int .i64 0]) ∧ TSl w' v' (srt p ms ns) ∧ FrB w.heap.size w' v' ∧ Below w.heap.size w w' := by
  obtain ⟨i0, hi0, hz0, hzs, hzb⟩ := info_parts Tryz.infoPl
  have hpl : (plcs ms).length = ms.length := plcs_len ms
  have hz := (chkPs_zero _).1 hb
  have hok : OkP p := (okP_iff p).1 (by have := hz 0 (by simp); simpa using this)
  have hoks : ∀ j, j < ms.length → OkP (toPl (plc (ms.getD j Wh.dm))) := fun j hj => by
    have := hz (j + 1) (by simp [hpl]; exact hj)
    refine (okP_iff _).1 ?_
    simpa [List.getD, plcs, List.getElem?_eq_getElem hj] using this
  have HV : Hid (Wh.Sl w v ms) := hv
  have HTN : Hid (TSl w vn ns) := ht
  have HSZ : Hid (∀ j, (ns.getD j ByteArray.empty).size ≤ maxLen) := by obtain ⟨_, _, _, h, _⟩ := ht; exact h
  have HDI : Hid (∀ W, Wh.Sl W v ms → Calls Tryz.prog 36 #[.agg #[.int .i64 p.x, .int .i64 p.y, .int .i64 p.z, .int .i64 p.h, .int .i64 p.s], v] W fun e w' => ∃ g, e = .returned (.map (some g)) ∧ Hid (w'.ownsMap Tryz.prog 9 (plainElem (H := Unit) Tryz.prog 3) g ms.length (Dd (farW p) ms ms.length)) ∧ W.heap.size ≤ g ∧ g < w'.heap.size ∧ Below W.heap.size W w') := fun W h => distances_any p ms v W h hn hok hoks
  have HCL : Hid (∀ W, TSl W vn ns → Calls Tryz.prog 38 #[vn] W fun e w' => ∃ v', e = .returned v' ∧ Hid (OwnS W.heap.size w' v' ns) ∧ Below W.heap.size W w') := fun W h => tclone_any ns vn W h (by omega)
  have HSO : Hid (∀ (B db kb g : Nat) (vs : Value) (W : World), OwnS B W vs ns → W.cell? ⟨db, 0, none⟩ = some (.func (.func 37) #[] #[.pointer (some ⟨kb, 0, none⟩)]) → W.cell? ⟨kb, 0, none⟩ = some (.map (some g)) → W.ownsMap Tryz.prog 9 (plainElem (H := Unit) Tryz.prog 3) g ms.length (Dd (farW p) ms ms.length) → db < B → kb < B → g < B →
      Calls Tryz.prog 39 #[vs, .func (.func 40) #[] #[.pointer (some ⟨db, 0, none⟩)]] W fun e w' => e = .returned (.tuple #[]) ∧ Hid (TSl w' vs (srt p ms ns)) ∧ Hid (FrB B w' vs) ∧ Below B W w') := fun B db kb g vs W h1 h2 h3 h4 h5 h6 h7 => sortT_any ns _ ms.length B db kb g vs W h1 hm HSZ.out h2 h3 h4 h5 h6 h7
  obtain ⟨pa, ca, hvv, _, _⟩ := hv
  obtain ⟨pn, cn, hvn, _, _⟩ := ht
  subst hvv hvn
  have h1 : decide (100 < (ms.length : Int)) = false := by simp; omega
  have h2 : decide (100 < (ns.length : Int)) = false := by simp; omega
  have HPL : Hid ((plcs ms).length = ms.length) := hpl
  have HP0 : Hid (ms.length = 0 → ∀ W, Calls Tryz.prog 35 #[.slice pa ms.length ca] W fun e w' => e = .returned (.slice none 0 0) ∧ Below W.heap.size W w') := fun h0 W => by
    rw [h0]
    refine (places_none pa ca W).mono ?_
    rintro e w' ⟨rfl, rfl⟩
    exact ⟨rfl, Below.refl _ _⟩
  have HP1 : Hid (0 < ms.length → ∀ W, Wh.Sl W (.slice pa ms.length ca) ms → Calls Tryz.prog 35 #[.slice pa ms.length ca] W fun e w' => ∃ g c, e = .returned (.slice (some ⟨g, 0, none⟩) ms.length c) ∧ Pc.Own W.heap.size w' (.slice (some ⟨g, 0, none⟩) ms.length c) (plcs ms) ∧ Below W.heap.size W w') := fun hpos W h => by
    refine (places_any ms _ W h hn).mono ?_
    rintro e w' ⟨v', rfl, ho, hbl⟩
    obtain ⟨g, c, hvv⟩ := Pc.own_form ho 0 (by rw [HPL.out]; exact hpos)
    subst hvv
    rw [HPL.out] at ho
    exact ⟨g, c, by rw [HPL.out], ho, hbl⟩
  have HK0 : Hid (ms.length = 0 → ∀ g W, PRow W g 0 [p] → Calls Tryz.prog 34 #[.slice (some ⟨g, 0, none⟩) 1 1] W fun e w' => e = .returned (.int .i64 0) ∧ Below W.heap.size W w') := fun h0 g W h => by
    have h2 := checkAllP_any [p] g 0 1 1 W rfl h (by omega)
    have e : (plcs ms).map toPl = [] := by rw [List.length_eq_zero_iff.1 h0]; rfl
    rw [e] at hb
    rw [hb] at h2
    exact h2
  have HK1 : Hid (∀ g c W, PRow W g 0 (p :: (plcs ms).map toPl) → Calls Tryz.prog 34 #[.slice (some ⟨g, 0, none⟩) (1 + ms.length) c] W fun e w' => e = .returned (.int .i64 0) ∧ Below W.heap.size W w') := fun g c W h => by
    have h2 := checkAllP_any (p :: (plcs ms).map toPl) g 0 (1 + ms.length) c W (by simp [HPL.out]; omega) h (by omega)
    rw [hb] at h2
    exact h2
  clear hb hz hok hoks hpl
  generalize srt p ms ns = SL at *
  generalize Dd (farW p) ms ms.length = DD at *
  generalize hna : ms.length = n at *
  generalize hnb : ns.length = nl at *
  clear hna hnb
  go_enter Tryz.func11, Tryz.ntmps11
  go_wp2_with fail
  obtain ⟨W, hW⟩ : ∃ W, W = w.alloc (.cells #[.int .i64 p.x, .int .i64 p.y, .int .i64 p.z, .int .i64 p.h, .int .i64 p.s] 40) := ⟨_, rfl⟩
  rw [← hW]
  have hbW : Below w.heap.size w W := by rw [hW]; exact (Below.refl _ _).alloc (Nat.le_refl _) _
  have hga : W.heap[w.heap.size]? = some (.cells #[.int .i64 p.x, .int .i64 p.y, .int .i64 p.z, .int .i64 p.h, .int .i64 p.s] 40 (0, 0)) := by rw [hW]; exact heap_alloc_new w _
  have hsW : W.heap.size = w.heap.size + 1 := by rw [hW]; simp
  have n0 : W.cell? ⟨w.heap.size, 0, none⟩ = some (.int .i64 p.x) := cellsAt hga 0
  have n1 : W.cell? ⟨w.heap.size, 1, none⟩ = some (.int .i64 p.y) := cellsAt hga 1
  have n2 : W.cell? ⟨w.heap.size, 2, none⟩ = some (.int .i64 p.z) := cellsAt hga 2
  have n3 : W.cell? ⟨w.heap.size, 3, none⟩ = some (.int .i64 p.h) := cellsAt hga 3
  have n4 : W.cell? ⟨w.heap.size, 4, none⟩ = some (.int .i64 p.s) := cellsAt hga 4
  have HVW : Hid (∀ W', Below W.heap.size W W' → Wh.Sl W' (.slice pa n ca) ms) := fun W' h => (HV.out.below hbW).below h
  have HBW : Hid (Below w.heap.size w W) := hbW
  have e0 := World.new_ne W _ n0
  have e1 := World.new_ne W _ n1
  have e2 := World.new_ne W _ n2
  have e3 := World.new_ne W _ n3
  have e4 := World.new_ne W _ n4
  clear hga hW hbW
  have h63 : 1 + n ≤ maxLen := by unfold maxLen; omega
  have hbt : (1 + n) * 40 ≤ 140737488355328 := by omega
  have hfl : (Pc.fl (plcs ms)).length = n * 5 := by rw [Pc.fl_len, HPL.out]
  have hav : (Value.slice (some ⟨w.heap.size + 1, 0, none⟩) 1 1).ownBlock ≠ some w.heap.size := fun h => by simp [Value.ownBlock] at h
  rcases Nat.eq_zero_or_pos n with hpos | hpos
  · subst hpos
    have HP : Hid (∀ W, Calls Tryz.prog 35 #[.slice pa 0 ca] W fun e w' => e = .returned (.slice none 0 0) ∧ Below W.heap.size W w') := HP0.out rfl
    have HK : Hid (∀ g W, PRow W g 0 [p] → Calls Tryz.prog 34 #[.slice (some ⟨g, 0, none⟩) 1 1] W fun e w' => e = .returned (.int .i64 0) ∧ Below W.heap.size W w') := HK0.out rfl
    go_region_held3 (fun w' => w'.cell? ⟨w.heap.size, 0, none⟩ = some (.int .i64 p.x) ∧ w'.cell? ⟨w.heap.size, 1, none⟩ = some (.int .i64 p.y) ∧ w'.cell? ⟨w.heap.size, 2, none⟩ = some (.int .i64 p.z) ∧ w'.cell? ⟨w.heap.size, 3, none⟩ = some (.int .i64 p.h) ∧ w'.cell? ⟨w.heap.size, 4, none⟩ = some (.int .i64 p.s))
      (first
        | go_keep
        | (go_split_ands
           refine ⟨?_, ?_, ?_, ?_, ?_⟩
           all_goals ((rw [hb6.cell (by show w.heap.size < _; have h9 := hb3.size; simp at h9 ⊢; omega)]; first | assumption | simp [*])))
        | (go_split_ands
           refine ⟨?_, ?_, ?_, ?_, ?_⟩
           all_goals ((rw [hb3.cell (by simp; omega)]; first | assumption | simp [*])))
        )
      (first
        | (go_at_call 35; refine (HP.out _).mono ?_; rintro e w3 ⟨rfl, hb3⟩)
        | (go_at_call 34; refine (HK.out _ _ (prow_from (from_way1 hsW hb3))).mono ?_; rintro e w6 ⟨rfl, hb6⟩)
        | (go_at_call 34; refine (HK.out _ _ (prow_from (heap_alloc_new w3 _))).mono ?_; rintro e w6 ⟨rfl, hb6⟩))
    all_goals
      have HB6 : Hid (Below w.heap.size w w6) := by
        first
          | exact ((HBW.out.alloc (by omega) _).drew.trans (hb3.mono (by simp; omega))).trans (hb6.mono (by have h9 := hb3.size; simp at h9; omega))
          | exact ((HBW.out.drew.trans (hb3.mono (by simp; omega))).alloc (by have := hb3.size; simp at this; omega) _).trans (hb6.mono (by have h9 := hb3.size; simp at h9 ⊢; omega))
      rename_i hHeld
      clear hb6 hb3 hav
      obtain ⟨f0, f1, f2, f3, f4⟩ := hHeld
      have hz6 := HB6.out.size
      go_wp2_with fail
      refine (HDI.out _ (HV.out.below HB6.out)).mono ?_
      rintro e w7 ⟨g, rfl, HM7, hg1, hg2, hb7⟩
      have HB7 : Hid (Below w.heap.size w w7) := HB6.out.trans (hb7.mono hz6)
      have hz7 := HB7.out.size
      clear hb7 f0 f1 f2 f3 f4
      go_wp2_with fail
      obtain ⟨W9, hW9⟩ : ∃ W9, W9 = (w7.alloc (.cells #[.map (some g)] 70)).alloc (.cells #[.func (.func 37) #[] #[.pointer (some ⟨w7.heap.size, 0, none⟩)]] 73) := ⟨_, rfl⟩
      rw [← hW9]
      have hb9 : Below w7.heap.size w7 W9 := by rw [hW9]; exact ((Below.refl _ _).alloc (Nat.le_refl _) _).alloc (by simp) _
      have hs9 : W9.heap.size = w7.heap.size + 2 := by rw [hW9]; simp
      have k9 : W9.cell? ⟨w7.heap.size, 0, none⟩ = some (.map (some g)) := by
        rw [hW9]
        have h := ((Below.refl (w7.heap.size + 1) (w7.alloc (.cells #[.map (some g)] 70))).alloc (by simp) (.cells #[.func (.func 37) #[] #[.pointer (some ⟨w7.heap.size, 0, none⟩)]] 73)).cell (p := ⟨w7.heap.size, 0, none⟩) (by show w7.heap.size < w7.heap.size + 1; omega)
        exact h.trans (cell_topL rfl)
      have d9 : W9.cell? ⟨w7.heap.size + 1, 0, none⟩ = some (.func (.func 37) #[] #[.pointer (some ⟨w7.heap.size, 0, none⟩)]) := by
        rw [hW9]; exact cell_topL (by simp)
      have HM9 : Hid (W9.ownsMap Tryz.prog 9 (plainElem (H := Unit) Tryz.prog 3) g _ DD) := map_below HM7.out hb9
      have HB9 : Hid (Below w.heap.size w W9) := HB7.out.trans (hb9.mono hz7)
      clear hW9 hb9
      refine (HCL.out _ (HTN.out.below HB9.out)).mono ?_
      rintro e w10 ⟨vs, rfl, HO10, hb10⟩
      have k10 := (hb10.cell (p := ⟨w7.heap.size, 0, none⟩) (by show w7.heap.size < _; omega)).trans k9
      have d10 := (hb10.cell (p := ⟨w7.heap.size + 1, 0, none⟩) (by show w7.heap.size + 1 < _; omega)).trans d9
      have HM10 : Hid (w10.ownsMap Tryz.prog 9 (plainElem (H := Unit) Tryz.prog 3) g _ DD) := map_below HM9.out hb10
      have HB10 : Hid (Below w.heap.size w w10) := HB9.out.trans (hb10.mono HB9.out.size)
      clear hb10 k9 d9
      go_wp2_with fail
      refine (HSO.out W9.heap.size (w7.heap.size + 1) w7.heap.size g vs _ HO10.out d10 k10 HM10.out (by omega) (by omega) (by omega)).mono ?_
      rintro e w11 ⟨rfl, HTS, HFR, hb11⟩
      have HFW : Hid (FrB w.heap.size w11 vs) := HFR.out.mono HB9.out.size
      have HB11 : Hid (Below w.heap.size w w11) := HB10.out.trans (hb11.mono HB9.out.size)
      clear hb11 d10 k10 HFR
      go_wp2_with fail
      go_ret2
      exact ⟨vs, rfl, HTS.out, HFW.out, HB11.out⟩
  · have HP : Hid (∀ W, Wh.Sl W (.slice pa n ca) ms → Calls Tryz.prog 35 #[.slice pa n ca] W fun e w' => ∃ g c, e = .returned (.slice (some ⟨g, 0, none⟩) n c) ∧ Pc.Own W.heap.size w' (.slice (some ⟨g, 0, none⟩) n c) (plcs ms) ∧ Below W.heap.size W w') := HP1.out hpos
    have HK := HK1
    go_region_held3 (fun w' => w'.cell? ⟨w.heap.size, 0, none⟩ = some (.int .i64 p.x) ∧ w'.cell? ⟨w.heap.size, 1, none⟩ = some (.int .i64 p.y) ∧ w'.cell? ⟨w.heap.size, 2, none⟩ = some (.int .i64 p.z) ∧ w'.cell? ⟨w.heap.size, 3, none⟩ = some (.int .i64 p.h) ∧ w'.cell? ⟨w.heap.size, 4, none⟩ = some (.int .i64 p.s))
      (first
        | go_keep
        | (go_split_ands
           refine ⟨?_, ?_, ?_, ?_, ?_⟩
           all_goals ((rw [hb6.cell (by show w.heap.size < _; have h8 := hgrow.size; have h9 := hb3.size; simp at h8 h9; omega)]; assumption)))
        | (go_split_ands
           refine ⟨?_, ?_, ?_, ?_, ?_⟩
           all_goals ((rw [hgrow.cell_far _ (by show w.heap.size < _; have := hb3.size; simp at this ⊢; omega) (Ne.symm hav)]; assumption)))
        | (go_split_ands
           refine ⟨?_, ?_, ?_, ?_, ?_⟩
           all_goals ((rw [hgrow.cell_far _ (by show w.heap.size < _; have := hb3.size; simp at this ⊢; omega) (by simp [Value.ownBlock]; have := hb3.size; simp at this; omega)]; assumption)))
        | (go_split_ands
           refine ⟨?_, ?_, ?_, ?_, ?_⟩
           all_goals ((rw [hb3.cell (by simp; omega)]; first | assumption | simp [*])))
        )
      (first
        | (go_at_call 35; refine (HP.out _ (HVW.out _ ?_)).mono ?_; (focus (repeat (first | exact Below.refl _ _ | refine Below.drew ?_ | refine Below.alloc ?_ (by simp) _))); rintro e w3 ⟨g, c, rfl, ho3, hb3⟩)
        | (go_at_call 34; refine (HK.out _ _ _ (own_prow HPL.out hown1)).mono ?_; rintro e w6 ⟨rfl, hb6⟩)
        | (refine step_append_lies _ (by rfl) _ _ _ (by rfl) w.heap.size 40 i0 _ 5 40 Tryz.underlying68 hi0 hz0 hzs hzb rfl (by omega) (.slice (some ⟨w.heap.size + 1, 0, none⟩) 1 1) 1 p.v5 (by rfl) (own_from (from_way1 hsW hb3) (by omega)) ⟨g, 0, none⟩ n c (Pc.fl (plcs ms)) (by rfl) hfl (own_news ho3) (Pc.fl_one _) hpos h63 hbt (by have := hb3.size; simp at this; omega) _ rfl ?_
           intro gg cap w5 hown1 hgrow hat hlt)
        | (refine step_append_lies _ (by rfl) _ _ _ (by rfl) w.heap.size 40 i0 _ 5 40 Tryz.underlying68 hi0 hz0 hzs hzb rfl (by omega) (.slice (some ⟨w3.heap.size, 0, none⟩) 1 1) 1 p.v5 (by rfl) (own_from (heap_alloc_new w3 _) (by have := hb3.size; simp at this; omega)) ⟨g, 0, none⟩ n c (Pc.fl (plcs ms)) (by rfl) hfl (own_news (ho3.below ((Below.refl _ _).alloc (Nat.le_refl _) _))) (Pc.fl_one _) hpos h63 hbt (by have := hb3.size; simp at this ⊢; omega) _ rfl ?_
           intro gg cap w5 hown1 hgrow hat hlt))
    all_goals
      have HB6 : Hid (Below w.heap.size w w6) := by
        first
          | exact ((((HBW.out.alloc (by omega) _).drew.trans (hb3.mono (by simp; omega))).grown hgrow (by have := hb3.size; simp at this; omega) (fun j hj => by simp [Value.ownBlock] at hj; omega))).trans (hb6.mono (by have h8 := hgrow.size; have h9 := hb3.size; simp at h8 h9; omega))
          | exact (((HBW.out.drew.trans (hb3.mono (by simp; omega))).alloc (by have := hb3.size; simp at this; omega) _).grown hgrow (by have := hb3.size; simp at this ⊢; omega) (fun j hj => by simp [Value.ownBlock] at hj; have := hb3.size; simp at this; omega)).trans (hb6.mono (by have h8 := hgrow.size; have h9 := hb3.size; simp at h8 h9; omega))
      rename_i hHeld
      clear hb6 hgrow hown1 hat hlt hb3 ho3 hav
      obtain ⟨f0, f1, f2, f3, f4⟩ := hHeld
      have hz6 := HB6.out.size
      go_wp2_with fail
      refine (HDI.out _ (HV.out.below HB6.out)).mono ?_
      rintro e w7 ⟨g, rfl, HM7, hg1, hg2, hb7⟩
      have HB7 : Hid (Below w.heap.size w w7) := HB6.out.trans (hb7.mono hz6)
      have hz7 := HB7.out.size
      clear hb7 f0 f1 f2 f3 f4
      go_wp2_with fail
      obtain ⟨W9, hW9⟩ : ∃ W9, W9 = (w7.alloc (.cells #[.map (some g)] 70)).alloc (.cells #[.func (.func 37) #[] #[.pointer (some ⟨w7.heap.size, 0, none⟩)]] 73) := ⟨_, rfl⟩
      rw [← hW9]
      have hb9 : Below w7.heap.size w7 W9 := by rw [hW9]; exact ((Below.refl _ _).alloc (Nat.le_refl _) _).alloc (by simp) _
      have hs9 : W9.heap.size = w7.heap.size + 2 := by rw [hW9]; simp
      have k9 : W9.cell? ⟨w7.heap.size, 0, none⟩ = some (.map (some g)) := by
        rw [hW9]
        have h := ((Below.refl (w7.heap.size + 1) (w7.alloc (.cells #[.map (some g)] 70))).alloc (by simp) (.cells #[.func (.func 37) #[] #[.pointer (some ⟨w7.heap.size, 0, none⟩)]] 73)).cell (p := ⟨w7.heap.size, 0, none⟩) (by show w7.heap.size < w7.heap.size + 1; omega)
        exact h.trans (cell_topL rfl)
      have d9 : W9.cell? ⟨w7.heap.size + 1, 0, none⟩ = some (.func (.func 37) #[] #[.pointer (some ⟨w7.heap.size, 0, none⟩)]) := by
        rw [hW9]; exact cell_topL (by simp)
      have HM9 : Hid (W9.ownsMap Tryz.prog 9 (plainElem (H := Unit) Tryz.prog 3) g _ DD) := map_below HM7.out hb9
      have HB9 : Hid (Below w.heap.size w W9) := HB7.out.trans (hb9.mono hz7)
      clear hW9 hb9
      refine (HCL.out _ (HTN.out.below HB9.out)).mono ?_
      rintro e w10 ⟨vs, rfl, HO10, hb10⟩
      have k10 := (hb10.cell (p := ⟨w7.heap.size, 0, none⟩) (by show w7.heap.size < _; omega)).trans k9
      have d10 := (hb10.cell (p := ⟨w7.heap.size + 1, 0, none⟩) (by show w7.heap.size + 1 < _; omega)).trans d9
      have HM10 : Hid (w10.ownsMap Tryz.prog 9 (plainElem (H := Unit) Tryz.prog 3) g _ DD) := map_below HM9.out hb10
      have HB10 : Hid (Below w.heap.size w w10) := HB9.out.trans (hb10.mono HB9.out.size)
      clear hb10 k9 d9
      go_wp2_with fail
      refine (HSO.out W9.heap.size (w7.heap.size + 1) w7.heap.size g vs _ HO10.out d10 k10 HM10.out (by omega) (by omega) (by omega)).mono ?_
      rintro e w11 ⟨rfl, HTS, HFR, hb11⟩
      have HFW : Hid (FrB w.heap.size w11 vs) := HFR.out.mono HB9.out.size
      have HB11 : Hid (Below w.heap.size w w11) := HB10.out.trans (hb11.mono HB9.out.size)
      clear hb11 d10 k10 HFR
      go_wp2_with fail
      go_ret2
      exact ⟨vs, rfl, HTS.out, HFW.out, HB11.out⟩

end Go.Proofs.YtkicpbomjpgjpaaGreat

