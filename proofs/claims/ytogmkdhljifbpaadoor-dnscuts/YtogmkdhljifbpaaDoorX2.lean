/- FH, LB, Q0, ShelfC, SP, FI, ShelfB, F3 -/
import Derived.Test.YtogmkdhljifbpaaDoorX1
import Derived.Shelf.Strings.Builder1
import Derived.Shelf.Strings.Builder2
import Derived.Shelf.Strings.OnBuilder
import Derived.Shelf.LaysM
import Derived.Shelf.Strconv.Clone
import Derived.Shelf.Strings.Search1
import Derived.Shelf.Strings.Search2
import Derived.Shelf.Strings.Search3
import Derived.Shelf.Strings.Cut
import Derived.Shelf.Strings.Count
import Derived.Shelf.Strings.Shaped
import Derived.Shelf.Strings.Split
import Derived.Shelf.Strings.SplitShaped
import Derived.Shelf.Unicode.DecodeSlow
import Derived.Test.YtogmkdhljifbpaaDoorProg
import Derived.Lib.SplitLaws
import Derived.Lib.IndexBytes
import Derived.Below
import Derived.OwnWalk
import Derived.Lib.Builder
import Derived.Lib.OthersKept
import Derived.Maps.AppendAt
/- The reader's moves, and what stays beside it (Rd). -/
namespace Go.Proofs.YtogmkdhljifbpaaDoor
open Go.RowKit

/-- All that was there stays, the reader at g aside. -/
structure Rd (g : Nat) (w w' : World) : Prop where
  os : w'.os = w.os
  tape : w'.tape = w.tape
  output : w'.output = w.output
  size : w.heap.size ≤ w'.heap.size
  block : ∀ k : Nat, k < w.heap.size → k ≠ g → w'.heap[k]? = w.heap[k]?

theorem Rd.refl (g : Nat) (w : World) : Rd g w w := ⟨rfl, rfl, rfl, Nat.le_refl _, fun _ _ _ => rfl⟩
theorem Rd.trans {g : Nat} {w w1 w2 : World} (h : Rd g w w1) (h2 : Rd g w1 w2) : Rd g w w2 :=
  ⟨h2.os.trans h.os, h2.tape.trans h.tape, h2.output.trans h.output, Nat.le_trans h.size h2.size, fun k hk hg => (h2.block k (Nat.lt_of_lt_of_le hk h.size) hg).trans (h.block k hk hg)⟩
theorem Rd.ext {g : Nat} {w w' : World} (h : w.Extends w') : Rd g w w' := ⟨h.os, h.tape, h.output, h.size, fun k hk _ => h.block k hk⟩
theorem Rd.moved {g : Nat} {v : Value} {w w' : World} (h : (w.setCell ⟨g, 1, none⟩ v).Extends w') : Rd g w w' :=
  ⟨h.os, h.tape, h.output, by have := h.size; simpa using this, fun k hk hg => (h.block k (by simpa using hk)).trans (Below.heap_setCell w _ _ k hg)⟩
theorem Rd.below {g B : Nat} {w w' : World} (h : Rd g w w') (hb : B ≤ g) (hB : B ≤ w.heap.size) : Below B w w' :=
  ⟨h.os, h.tape, h.output, h.size, fun k hk => h.block k (by omega) (by omega)⟩
theorem Rd.of_below {g B : Nat} {w w' : World} (h : Below B w w') (hb : w.heap.size ≤ B) : Rd g w w' :=
  ⟨h.os, h.tape, h.output, h.size, fun k hk _ => h.block k (by omega)⟩
theorem Rd.own {g base : Nat} {w w' : World} {v : Value} {l : List ByteArray} (h : Rd g w w') (ho : OwnS base w v l) (hg : g < base) : OwnS base w' v l := by
  rcases ho.2 with ⟨rfl, h0⟩ | ⟨k, c, cur, rfl, hbg, hk, hnc, hcm, hcs, htake⟩
  · exact ⟨ho.1, .inl ⟨rfl, h0⟩⟩
  · have hlt : k < w.heap.size := (Array.getElem?_eq_some_iff.1 hk).1
    exact ⟨ho.1, .inr ⟨k, c, cur, rfl, hbg, (h.block k hlt (by omega)).trans hk, hnc, hcm, hcs, htake⟩⟩
theorem IsR.ext {g a : Nat} {t : ByteArray} {w w' : World} (h : IsR g t a w) (hx : w.Extends w') : IsR g t a w' where
  c0 := hx.cell_of h.c0
  c1 := hx.cell_of h.c1
  hz := by rw [hx.frozen _ h.hg]; exact h.hz
  hg := Nat.lt_of_lt_of_le h.hg hx.size
theorem IsR.below {g a B : Nat} {t : ByteArray} {w w' : World} (h : IsR g t a w) (hx : Below B w w') (hB : g < B) : IsR g t a w' where
  c0 := by have := h.c0; simp only [World.cell?, hx.block g hB] at this ⊢; exact this
  c1 := by have := h.c1; simp only [World.cell?, hx.block g hB] at this ⊢; exact this
  hz := by have := h.hz; simp only [World.frozen?, hx.block g hB] at this ⊢; exact this
  hg := Nat.lt_of_lt_of_le h.hg hx.size

theorem rnum1 {t : ByteArray} {a : Nat} (h : a < t.size) : rnum t a 1 = t[a].toNat := by
  have h2 : t.data[a]? = some t[a] := by
    have : a < t.data.size := h
    rw [Array.getElem?_eq_getElem this]; rfl
  simp [rnum, h2]

/-- A number is read. -/
theorem number_r (g a n : Nat) (t : ByteArray) (w : World) (h : IsR g t a w) (hs : t.size ≤ 1000) (han : a + n ≤ t.size) (hn : n ≤ 4) :
    Calls Tryd.prog 56 #[.pointer (some ⟨g, 0, none⟩), .int .i64 n] w fun e w' => e = .returned (.int .i64 (rnum t a n)) ∧ Hid (IsR g t (a + n) w') ∧ Hid (Rd g w w') := by
  refine (rnumber_ok g a n t w h.c0 h.c1 h.hz hs han hn).mono ?_
  rintro e w' ⟨rfl, hx⟩
  rw [← Int.natCast_add] at hx
  exact ⟨rfl, h.move hx, Rd.moved hx⟩
theorem expect_r (g a n x : Nat) (t : ByteArray) (w : World) (h : IsR g t a w) (hs : t.size ≤ 1000) (han : a + n ≤ t.size) (hn : n ≤ 4) (hx : rnum t a n = x) :
    Calls Tryd.prog 58 #[.pointer (some ⟨g, 0, none⟩), .int .i64 n, .int .i64 x] w fun e w' => e = .returned (.tuple #[]) ∧ Hid (IsR g t (a + n) w') ∧ Hid (Rd g w w') := by
  subst hx
  refine (expect_ok g a n t w h hs han hn).mono ?_
  rintro e w' ⟨rfl, hx⟩
  exact ⟨rfl, h.move hx, Rd.moved hx⟩
theorem counted_r (g a k : Nat) (t l : ByteArray) (w : World) (h : IsR g t a w) (hs : t.size ≤ 1000) (hk : rnum t a 1 = k) (han : a + 1 + k ≤ t.size) (hl : t.extract (a + 1) (a + 1 + k) = l) :
    Calls Tryd.prog 73 #[.pointer (some ⟨g, 0, none⟩)] w fun e w' => e = .returned (.string l) ∧ Hid (IsR g t (a + 1 + k) w') ∧ Hid (Rd g w w') := by
  subst hk
  subst hl
  refine (counted_ok g a t w h hs han).mono ?_
  rintro e w' ⟨rfl, w1, hx, hy⟩
  exact ⟨rfl, (h.move hx).move hy, (Rd.moved hx).trans (Rd.moved hy)⟩
theorem peek_r (g a : Nat) (t : ByteArray) (w : World) (h : IsR g t a w) (ha : a < t.size) :
    Calls Tryd.prog 70 #[.pointer (some ⟨g, 0, none⟩)] w fun e w' => e = .returned (.int .u8 (rnum t a 1 : Nat)) ∧ Hid (IsR g t a w') ∧ Hid (Rd g w w') := by
  refine (peek_ok g a t w h.c0 h.c1 ha).mono ?_
  rintro e w' ⟨rfl, m, rfl⟩
  rw [rnum1 ha]
  have hx : w.Extends (w.drew.drewN m) := ⟨rfl, rfl, rfl, Nat.le_refl _, fun _ _ => rfl, fun _ _ => rfl, fun _ _ => rfl⟩
  exact ⟨rfl, h.ext hx, Rd.ext hx⟩

end Go.Proofs.YtogmkdhljifbpaaDoor

/- Is each of some texts a label? -/
namespace Go.Proofs.YtogmkdhljifbpaaDoor
open Go.RowKit

def labE (t : ByteArray) : Bool := decide (t = ByteArray.empty) || labB t

theorem heap_new1 (W : World) (c : Value) : (W.alloc (.cells #[c] 9)).heap[W.heap.size]? = some (.cells #[c] 9 (0, 0)) := by
  have h := heap_alloc_new W (.cells #[c] 9)
  simpa using h

end Go.Proofs.YtogmkdhljifbpaaDoor

/- Names and their labels: texts cut at their dots. -/
namespace Go.Proofs.YtogmkdhljifbpaaDoor
open Go.RowKit

/-- A text's parts between its dots. -/
def spl : List UInt8 → List (List UInt8)
  | [] => [[]]
  | c :: r => if c = 46 then [] :: spl r else match spl r with
    | [] => [[c]]
    | x :: xs => (c :: x) :: xs
/-- Parts with dots between them. -/
def jn : List (List UInt8) → List UInt8
  | [] => []
  | [x] => x
  | x :: y :: r => x ++ 46 :: jn (y :: r)

theorem spl_ne : ∀ l, spl l ≠ []
  | [] => by simp [spl]
  | c :: r => by
    unfold spl
    split
    · simp
    · split <;> simp
theorem spl_dot (r : List UInt8) : spl (46 :: r) = [] :: spl r := by rw [spl, if_pos rfl]
theorem spl_cons {c : UInt8} (h : c ≠ 46) {r x : List UInt8} {xs : List (List UInt8)} (hr : spl r = x :: xs) : spl (c :: r) = (c :: x) :: xs := by
  rw [spl, if_neg h, hr]
theorem spl_app : ∀ (a b : List UInt8), 46 ∉ a → spl (a ++ 46 :: b) = a :: spl b
  | [], b, _ => spl_dot b
  | c :: a, b, h => by
    have h1 : c ≠ 46 := fun e => h (by rw [e]; exact List.mem_cons_self)
    have h2 : 46 ∉ a := fun e => h (List.mem_cons_of_mem _ e)
    rw [List.cons_append]
    exact spl_cons h1 (spl_app a b h2)
theorem spl_none : ∀ (a : List UInt8), 46 ∉ a → spl a = [a]
  | [], _ => rfl
  | c :: a, h => by
    have h1 : c ≠ 46 := fun e => h (by rw [e]; exact List.mem_cons_self)
    have h2 : 46 ∉ a := fun e => h (List.mem_cons_of_mem _ e)
    exact spl_cons h1 (spl_none a h2)
theorem spl_len : ∀ (l : List UInt8), (spl l).length = l.count 46 + 1
  | [] => rfl
  | c :: r => by
    have ih := spl_len r
    by_cases h : c = 46
    · subst h
      rw [spl_dot, List.length_cons, ih, List.count_cons_self]
    · obtain ⟨x, xs, hr⟩ := List.exists_cons_of_ne_nil (spl_ne r)
      rw [spl_cons h hr, List.length_cons, List.count_cons_of_ne h]
      rw [hr, List.length_cons] at ih
      exact ih
theorem spl_free : ∀ (l : List UInt8), ∀ x ∈ spl l, 46 ∉ x
  | [], x, hx => by simp [spl] at hx; subst hx; simp
  | c :: r, x, hx => by
    have ih := spl_free r
    by_cases h : c = 46
    · subst h
      rw [spl_dot] at hx
      rcases List.mem_cons.1 hx with rfl | h2
      · simp
      · exact ih x h2
    · obtain ⟨y, ys, hr⟩ := List.exists_cons_of_ne_nil (spl_ne r)
      rw [spl_cons h hr] at hx
      rcases List.mem_cons.1 hx with rfl | h2
      · have := ih y (by rw [hr]; exact List.mem_cons_self)
        intro hm
        rcases List.mem_cons.1 hm with e | e
        · exact h e.symm
        · exact this e
      · exact ih x (by rw [hr]; exact List.mem_cons_of_mem _ h2)
theorem jn_cons (c : UInt8) (x : List UInt8) (xs : List (List UInt8)) : jn ((c :: x) :: xs) = c :: jn (x :: xs) := by
  cases xs <;> rfl
theorem jn_spl : ∀ (l : List UInt8), jn (spl l) = l
  | [] => rfl
  | c :: r => by
    have ih := jn_spl r
    obtain ⟨y, ys, hr⟩ := List.exists_cons_of_ne_nil (spl_ne r)
    by_cases h : c = 46
    · subst h
      rw [spl_dot, hr]
      rw [hr] at ih
      show [] ++ 46 :: jn (y :: ys) = _
      rw [ih]; rfl
    · rw [spl_cons h hr, jn_cons, ← hr, ih]
theorem spl_jn : ∀ (xs : List (List UInt8)), xs ≠ [] → (∀ x ∈ xs, 46 ∉ x) → spl (jn xs) = xs
  | [], h, _ => absurd rfl h
  | [x], _, h => spl_none x (h x List.mem_cons_self)
  | x :: y :: r, _, h => by
    show spl (x ++ 46 :: jn (y :: r)) = _
    rw [spl_app _ _ (h x List.mem_cons_self), spl_jn (y :: r) (by simp) (fun z hz => h z (List.mem_cons_of_mem _ hz))]

theorem ix_none : ∀ {l : List UInt8}, Lib.indexByte l 46 = -1 → 46 ∉ l
  | [], _ => by simp
  | c :: r, h => by
    unfold Lib.indexByte at h
    split at h
    · omega
    · rename_i hc
      split at h
      · rename_i h2
        intro hm
        rcases List.mem_cons.1 hm with e | e
        · subst e; simp at hc
        · exact ix_none (by simpa using h2) e
      · have := Lib.indexByte_ge r 46; omega
theorem ix_some : ∀ {l : List UInt8} {i : Nat}, Lib.indexByte l 46 = (i : Int) → i < l.length ∧ l = l.take i ++ 46 :: l.drop (i + 1) ∧ 46 ∉ l.take i
  | [], i, h => by unfold Lib.indexByte at h; omega
  | c :: r, i, h => by
    unfold Lib.indexByte at h
    split at h
    · rename_i hc
      have : i = 0 := by omega
      subst this
      have : c = 46 := by simpa using hc
      subst this
      simp
    · rename_i hc
      split at h
      · omega
      · rename_i h2
        have hg := Lib.indexByte_ge r 46
        obtain ⟨j, rfl⟩ : ∃ j, i = j + 1 := ⟨i - 1, by have : Lib.indexByte r 46 ≠ -1 := by simpa using h2
                                                       omega⟩
        obtain ⟨h3, h4, h5⟩ := ix_some (l := r) (i := j) (by omega)
        refine ⟨by simpa using h3, ?_, ?_⟩
        · simp only [List.take_succ_cons, List.drop_succ_cons, List.cons_append]
          rw [← h4]
        · simp only [List.take_succ_cons]
          intro hm
          rcases List.mem_cons.1 hm with e | e
          · subst e; simp at hc
          · exact h5 e

/-- A list of bytes as a text. -/
def mk (l : List UInt8) : ByteArray := ⟨l.toArray⟩
theorem mk_data (s : ByteArray) : mk s.data.toList = s := by cases s; simp [mk]
theorem data_mk (l : List UInt8) : (mk l).data.toList = l := by simp [mk]
theorem mk_size (l : List UInt8) : (mk l).size = l.length := by simp [mk, ByteArray.size]
def labL (l : List UInt8) : Bool := labB (mk l)
theorem labL_free {l : List UInt8} (h : labL l = true) : 46 ∉ l := fun hm => by
  unfold labL labB at h
  simp only [Bool.and_eq_true, List.all_eq_true, data_mk] at h
  have := h.2 46 hm
  revert this; decide
theorem labL_size {l : List UInt8} (h : labL l = true) : 1 ≤ l.length ∧ l.length ≤ 30 := by
  unfold labL labB at h
  simp only [Bool.and_eq_true, decide_eq_true_eq, mk_size] at h
  exact h.1

/-- What is wrong with a name. -/
def chkN (s : ByteArray) : Int :=
  if s.size = 0 then 0 else if (spl s.data.toList).all labL = false then 1 else if 8 < (spl s.data.toList).length ∨ 120 < s.size then 2 else 0

end Go.Proofs.YtogmkdhljifbpaaDoor

/- Contracts of the library, laid at this program. -/
namespace Go.Proofs
open Go.Shelf
def Tryd.lays156_ren : Go.Shelf.Ren := ⟨fun | 156 => 71 | 165 => 85 | 166 => 84 | 169 => 54 | 240 => 89 | 241 => 91 | 276 => 93 | 277 => 95 | n => n, fun | 31 => 46 | 9 => 9 | 3 => 3 | 4 => 4 | 0 => 0 | 20 => 20 | 72 => 79 | 76 => 101 | 70 => 76 | 37 => 77 | 75 => 97 | 127 => 89 | 164 => 108 | 5 => 5 | 80 => 64 | n => n, fun | n => n⟩
theorem Tryd.lays156 : Go.Proofs.Lays.n156 Tryd.prog Tryd.lays156_ren := {
  mixed := by kernel_rfl
  f156 := Tryd.func71.trans (congrArg some (by kernel_rfl))
  f165 := Tryd.func85.trans (congrArg some (by kernel_rfl))
  f166 := Tryd.func84.trans (congrArg some (by kernel_rfl))
  f169 := Tryd.func54.trans (congrArg some (by kernel_rfl))
  f240 := Tryd.func89.trans (congrArg some (by kernel_rfl))
  f241 := Tryd.func91.trans (congrArg some (by kernel_rfl))
  f276 := Tryd.func93.trans (congrArg some (by kernel_rfl))
  f277 := Tryd.func95.trans (congrArg some (by kernel_rfl))
  t0 := Tryd.underlying0
  a0 := Tryd.isAgg0
  z0 := Tryd.sizeOf0
  v0 := Tryd.zeroValue0
  t3 := Tryd.underlying3
  a3 := Tryd.isAgg3
  z3 := Tryd.sizeOf3
  v3 := Tryd.zeroValue3
  t4 := Tryd.underlying4
  a4 := Tryd.isAgg4
  z4 := Tryd.sizeOf4
  v4 := Tryd.zeroValue4
  t9 := Tryd.underlying9
  a9 := Tryd.isAgg9
  z9 := Tryd.sizeOf9
  v9 := Tryd.zeroValue9
  t20 := Tryd.underlying20
  a20 := Tryd.isAgg20
  z20 := Tryd.sizeOf20
  v20 := Tryd.zeroValue20
  t31 := Tryd.underlying46
  a31 := Tryd.isAgg46
  z31 := Tryd.sizeOf46
  v31 := Tryd.zeroValue46
  t37 := Tryd.underlying77
  a37 := Tryd.isAgg77
  z37 := Tryd.sizeOf77
  v37 := Tryd.zeroValue77
  t70 := Tryd.underlying76
  a70 := Tryd.isAgg76
  z70 := Tryd.sizeOf76
  v70 := Tryd.zeroValue76
  t72 := Tryd.underlying79
  a72 := Tryd.isAgg79
  z72 := Tryd.sizeOf79
  v72 := Tryd.zeroValue79
  t75 := Tryd.underlying97
  a75 := Tryd.isAgg97
  z75 := Tryd.sizeOf97
  v75 := Tryd.zeroValue97
  t76 := Tryd.underlying101
  a76 := Tryd.isAgg101
  z76 := Tryd.sizeOf101
  v76 := Tryd.zeroValue101
  t127 := Tryd.underlying89
  a127 := Tryd.isAgg89
  z127 := Tryd.sizeOf89
  v127 := Tryd.zeroValue89
  t164 := Tryd.underlying108
  a164 := Tryd.isAgg108
  z164 := Tryd.sizeOf108
  v164 := Tryd.zeroValue108 }
theorem Tryd.Builder_Extra_156 : Builder.Extra Tryd.prog Tryd.lays156_ren := {
  sizeBuilder := by kernel_rfl
  liesBuilder := by kernel_rfl
  t5 := Tryd.underlying5
  a5 := Tryd.isAgg5
  z5 := Tryd.sizeOf5
  v5 := Tryd.zeroValue5
  infoByte := by kernel_rfl
  cellsByte := by kernel_rfl
  sizeByte := by kernel_rfl
  neB5 := by decide }
open Go.RowKit in
theorem Tryd.strings_Join (bk o c : Nat) (xs : List ByteArray) (sep : ByteArray) (w : World) (hcells : ∀ (j : Nat) x, xs[j]? = some x → w.cell? ⟨bk, o + j, none⟩ = some (.string x)) (hbk : bk < w.heap.size) (hN : xs.length ≤ 140737488355328) (hcap : xs.length ≤ c) (hlen : (Lib.join (xs.map (·.data.toList)) sep.data.toList).length ≤ 140737488355328) :
    Calls Tryd.prog 71 #[.slice (some ⟨bk, o, none⟩) xs.length c, .string sep] w fun e w' => e = .returned (.string ⟨(Lib.join (xs.map (·.data.toList)) sep.data.toList).toArray⟩) ∧ Below w.heap.size w w' := Any.strings_Join Tryd.lays156 Tryd.Builder_Extra_156 bk o c xs sep w hcells hbk hN hcap hlen
def Tryd.lays146_ren : Go.Shelf.Ren := ⟨fun | 146 => 80 | 221 => 90 | 268 => 94 | 138 => 25 | 143 => 47 | 195 => 45 | 197 => 96 | 218 => 46 | 219 => 63 | 260 => 97 | 217 => 75 | 225 => 76 | 224 => 77 | 267 => 78 | 266 => 87 | 314 => 88 | n => n, fun | 9 => 9 | 31 => 46 | 3 => 3 | 4 => 4 | 0 => 0 | 105 => 112 | 21 => 21 | 5 => 5 | 46 => 91 | 119 => 114 | 139 => 117 | 138 => 116 | 146 => 105 | 51 => 104 | n => n, fun | 1 => 0 | 3 => 1 | 4 => 2 | n => n⟩
theorem Tryd.lays146 : Go.Proofs.Lays.n146 Tryd.prog Tryd.lays146_ren := {
  mixed := by kernel_rfl
  f138 := Tryd.func25.trans (congrArg some (by kernel_rfl))
  f143 := Tryd.func47.trans (congrArg some (by kernel_rfl))
  f146 := Tryd.func80.trans (congrArg some (by kernel_rfl))
  f195 := Tryd.func45.trans (congrArg some (by kernel_rfl))
  f197 := Tryd.func96.trans (congrArg some (by kernel_rfl))
  f217 := Tryd.func75.trans (congrArg some (by kernel_rfl))
  f218 := Tryd.func46.trans (congrArg some (by kernel_rfl))
  f219 := Tryd.func63.trans (congrArg some (by kernel_rfl))
  f221 := Tryd.func90.trans (congrArg some (by kernel_rfl))
  f224 := Tryd.func77.trans (congrArg some (by kernel_rfl))
  f225 := Tryd.func76.trans (congrArg some (by kernel_rfl))
  f260 := Tryd.func97.trans (congrArg some (by kernel_rfl))
  f266 := Tryd.func87.trans (congrArg some (by kernel_rfl))
  f267 := Tryd.func78.trans (congrArg some (by kernel_rfl))
  f268 := Tryd.func94.trans (congrArg some (by kernel_rfl))
  f314 := Tryd.func88.trans (congrArg some (by kernel_rfl))
  t0 := Tryd.underlying0
  a0 := Tryd.isAgg0
  z0 := Tryd.sizeOf0
  v0 := Tryd.zeroValue0
  t3 := Tryd.underlying3
  a3 := Tryd.isAgg3
  z3 := Tryd.sizeOf3
  v3 := Tryd.zeroValue3
  t4 := Tryd.underlying4
  a4 := Tryd.isAgg4
  z4 := Tryd.sizeOf4
  v4 := Tryd.zeroValue4
  t5 := Tryd.underlying5
  a5 := Tryd.isAgg5
  z5 := Tryd.sizeOf5
  v5 := Tryd.zeroValue5
  t9 := Tryd.underlying9
  a9 := Tryd.isAgg9
  z9 := Tryd.sizeOf9
  v9 := Tryd.zeroValue9
  t21 := Tryd.underlying21
  a21 := Tryd.isAgg21
  z21 := Tryd.sizeOf21
  v21 := Tryd.zeroValue21
  t31 := Tryd.underlying46
  a31 := Tryd.isAgg46
  z31 := Tryd.sizeOf46
  v31 := Tryd.zeroValue46
  t46 := Tryd.underlying91
  a46 := Tryd.isAgg91
  z46 := Tryd.sizeOf91
  v46 := Tryd.zeroValue91
  t51 := Tryd.underlying104
  a51 := Tryd.isAgg104
  z51 := Tryd.sizeOf104
  v51 := Tryd.zeroValue104
  t105 := Tryd.underlying112
  a105 := Tryd.isAgg112
  z105 := Tryd.sizeOf112
  v105 := Tryd.zeroValue112
  t119 := Tryd.underlying114
  a119 := Tryd.isAgg114
  z119 := Tryd.sizeOf114
  t138 := Tryd.underlying116
  a138 := Tryd.isAgg116
  z138 := Tryd.sizeOf116
  v138 := Tryd.zeroValue116
  t139 := Tryd.underlying117
  a139 := Tryd.isAgg117
  z139 := Tryd.sizeOf117
  v139 := Tryd.zeroValue117
  t146 := Tryd.underlying105
  a146 := Tryd.isAgg105
  z146 := Tryd.sizeOf105
  v146 := Tryd.zeroValue105
  g1 := by kernel_rfl
  g3 := by kernel_rfl
  g4 := by kernel_rfl }
open Go.RowKit Go.Lib in
theorem Tryd.strings_Split (s sep : ByteArray) (m : Int) (w : World) (hs : s.size < 4294967281) (hm : w.cell? ⟨0, 0, none⟩ = some (.int .i64 m)) (h1 : 1 ≤ sep.size) :
    Calls Tryd.prog 80 #[.string s, .string sep] w fun e w' =>
      e = .returned (.slice (some ⟨w.heap.size, 0, none⟩) (Lib.countB s sep + 1) (Lib.countB s sep + 1)) ∧ w' = w.alloc (.cells ((Lib.splitB sep 0 (Lib.countB s sep) s).map Value.string).toArray 9) := Any.strings_Split Tryd.lays146 (by kernel_rfl) s sep m w hs hm h1
end Go.Proofs

/- strings.Split at dots. -/
namespace Go.Proofs.YtogmkdhljifbpaaDoor
open Go.RowKit Go.Shelf Go.Lib

theorem splitK_spl : ∀ (k : Nat) (l : List UInt8), l.count 46 ≤ k → Lib.splitK [46] 0 k l = spl l
  | 0, l, h => by
    have : 46 ∉ l := fun hm => by have := List.count_pos_iff.2 hm; omega
    rw [spl_none l this]; rfl
  | k + 1, l, h => by
    have hge := Lib.indexByte_ge l 46
    unfold Lib.splitK
    rw [Lib.index_one]
    by_cases hi : Lib.indexByte l 46 = -1
    · rw [if_pos (by rw [hi]; rfl), spl_none l (ix_none hi)]
    · obtain ⟨i, hi2⟩ : ∃ i : Nat, Lib.indexByte l 46 = (i : Int) := ⟨(Lib.indexByte l 46).toNat, by omega⟩
      obtain ⟨h1, h2, h3⟩ := ix_some hi2
      rw [if_neg (by rw [hi2]; simp), hi2]
      have e : ((i : Int)).toNat = i := by omega
      rw [e]
      have hc : (l.drop (i + 1)).count 46 ≤ k := by
        have h4 := congrArg (List.count 46) h2
        rw [List.count_append, List.count_cons_self] at h4
        omega
      show l.take (i + 0) :: Lib.splitK [46] 0 k (l.drop (i + 1)) = spl l
      rw [splitK_spl k _ hc, Nat.add_zero]
      conv => rhs; rw [h2]
      rw [spl_app _ _ h3]
theorem splitB_spl (s : ByteArray) : Lib.splitB ⟨#[46]⟩ 0 (Lib.countB s ⟨#[46]⟩) s = (spl s.data.toList).map mk := by
  have h := Lib.splitB_data ⟨#[46]⟩ 0 (Lib.countB s ⟨#[46]⟩) s
  have hc : Lib.countB s ⟨#[46]⟩ = s.data.toList.count 46 := Lib.count_one 46 s.data.toList
  rw [show (ByteArray.mk #[46]).data.toList = [46] from rfl, splitK_spl _ _ (by rw [hc]; exact Nat.le_refl _)] at h
  rw [← h, List.map_map]
  have e : (mk ∘ fun x : ByteArray => x.data.toList) = id := by funext x; exact mk_data x
  rw [e, List.map_id]

/-- The cell of a variable of the library's, of which nothing but its kind is known. -/
def ML (w : World) : Prop := 0 < w.heap.size ∧ ∃ m, w.cell? ⟨0, 0, none⟩ = some (.int .i64 m)
theorem ML.below {w w' : World} (h : ML w) (hb : RowKit.Below w.heap.size w w') : ML w' := by
  obtain ⟨h1, m, h2⟩ := h
  exact ⟨Nat.lt_of_lt_of_le h1 hb.size, m, (hb.cell (p := ⟨0, 0, none⟩) h1).trans h2⟩
theorem split_any (s : ByteArray) (w : World) (hm : ML w) (hs : s.size ≤ 1000) :
    Calls Tryd.prog 80 #[.string s, .string ⟨#[46]⟩] w fun e w' => e = .returned (.slice (some ⟨w.heap.size, 0, none⟩) (spl s.data.toList).length (spl s.data.toList).length) ∧ w' = w.alloc (.cells (((spl s.data.toList).map mk).map Value.string).toArray 9) := by
  obtain ⟨_, m, h2⟩ := hm
  have h := Tryd.strings_Split s ⟨#[46]⟩ m w (by omega) h2 (by decide)
  rw [splitB_spl] at h
  have hc : Lib.countB s ⟨#[46]⟩ + 1 = (spl s.data.toList).length := by
    rw [spl_len]
    show Lib.count s.data.toList [46] + 1 = _
    rw [Lib.count_one]
  rw [hc] at h
  exact h

end Go.Proofs.YtogmkdhljifbpaaDoor

/- A name whose labels stand one behind another is read. -/
namespace Go.Proofs.YtogmkdhljifbpaaDoor
open Go.RowKit Go.Lib

/-- These labels stand in t from a on, and a nought behind them. -/
def Stand (t : ByteArray) : Nat → List ByteArray → Prop
  | a, [] => a + 1 ≤ t.size ∧ rnum t a 1 = 0
  | a, l :: r => rnum t a 1 = l.size ∧ a + 1 + l.size ≤ t.size ∧ t.extract (a + 1) (a + 1 + l.size) = l ∧ Stand t (a + 1 + l.size) r
/-- Where the nought stands. -/
def behind : Nat → List ByteArray → Nat
  | a, [] => a
  | a, l :: r => behind (a + 1 + l.size) r
abbrev bts (x : ByteArray) : List UInt8 := x.data.toList
def lenOf : Value → Nat
  | .slice _ n _ => n
  | _ => 0

theorem lab_low {l : ByteArray} (h : labB l = true) : ∀ j, j < l.size → 90 < (l.data.toList.getD j 0).toNat ∨ (l.data.toList.getD j 0).toNat < 65 := by
  intro j hj
  unfold labB at h
  simp only [Bool.and_eq_true, List.all_eq_true] at h
  have hj2 : j < l.data.toList.length := by simpa using hj
  have h2 := h.2 (l.data.toList[j]) (List.getElem_mem hj2)
  rw [List.getD_eq_getElem?_getD, List.getElem?_eq_getElem hj2]
  revert h2
  generalize l.data.toList[j] = c
  intro h2
  simp [lbB] at h2
  simp
  omega
theorem lab_size {l : ByteArray} (h : labB l = true) : 1 ≤ l.size ∧ l.size ≤ 30 := by
  unfold labB at h
  simp only [Bool.and_eq_true, decide_eq_true_eq] at h
  exact h.1
theorem join_jn2 : ∀ (xs : List (List UInt8)), Lib.join xs [46] = jn xs
  | [] => rfl
  | [x] => by simp [Lib.join, jn]
  | x :: y :: r => by
    have ih := join_jn2 (y :: r)
    simp [Lib.join, jn] at ih ⊢
    first | exact ih | simp [ih]

theorem own_len {base : Nat} {w : World} {v : Value} {l : List ByteArray} (h : OwnS base w v l) : lenOf v = l.length := by
  rcases h.form with ⟨rfl, rfl⟩ | ⟨g, c, rfl, _⟩
  · rfl
  · rfl

theorem own_shape {base : Nat} {w : World} {v : Value} {l : List ByteArray} (h : OwnS base w v l) : ∃ p c, v = .slice p l.length c := by
  rcases h.form with ⟨rfl, rfl⟩ | ⟨g, c, rfl, _⟩
  · exact ⟨none, 0, rfl⟩
  · exact ⟨_, c, rfl⟩

theorem Rd.belowed {g : Nat} {w w1 w2 : World} (h : Rd g w w1) (hb : Below w.heap.size w1 w2) : Rd g w w2 :=
  ⟨hb.os.trans h.os, hb.tape.trans h.tape, hb.output.trans h.output, Nat.le_trans h.size hb.size, fun k hk hg => (hb.block k hk).trans (h.block k hk hg)⟩

set_option maxHeartbeats 400000 in
theorem join_nil (W : World) : Calls Tryd.prog 71 #[.slice none 0 0, .string ⟨#[46]⟩] W fun e w' => e = .returned (.string ⟨#[]⟩) ∧ Below W.heap.size W w' := by
  go_enter Tryd.func71, Tryd.ntmps71
  go_wp2_with fail
  go_ret
  exact ⟨rfl, Below.refl _ _⟩

/-- Some texts joined. -/
theorem join_own (base : Nat) (ls : List ByteArray) (W : World) (v : Value) (ho : OwnS base W v ls) (hn : ls.length ≤ 1000) (hz : (jn (ls.map bts)).length ≤ 100000) :
    Calls Tryd.prog 71 #[v, .string ⟨#[46]⟩] W fun e w' => e = .returned (.string (mk (jn (ls.map bts)))) ∧ Below W.heap.size W w' := by
  rcases ho.form with ⟨rfl, rfl⟩ | ⟨g, c, rfl, hc, _, hg, hcell⟩
  · exact join_nil W
  · have h3 := Tryd.strings_Join g 0 c ls ⟨#[46]⟩ W (fun j x hj => by
      obtain ⟨hj1, hj2⟩ := List.getElem?_eq_some_iff.1 hj
      rw [Nat.zero_add, hcell j hj1]
      simp [List.getD, hj1, hj2]) hg (by omega) hc (by
      rw [show (ByteArray.mk #[46]).data.toList = [46] from rfl, join_jn2]
      exact Nat.le_trans hz (by omega))
    rw [show (ByteArray.mk #[46]).data.toList = [46] from rfl, join_jn2] at h3
    exact h3

theorem ext_drewN (w : World) (m : Nat) : w.Extends (w.drewN m) := ⟨rfl, rfl, rfl, Nat.le_refl _, fun _ _ => rfl, fun _ _ => rfl, fun _ _ => rfl⟩
theorem own_fin {g base : Nat} {wr w2 : World} {lv : Value} {D ls : List ByteArray} (h : Hid (Rd g wr w2)) (ho : Hid (OwnS base wr lv D)) (he : Hid (ls = D ++ [])) (hg : g < base) : Hid (OwnS base w2 lv ls) := (show OwnS base w2 lv ls by
  have h := h.out.own ho.out hg
  rw [he.out, List.append_nil]
  exact h)

theorem own_step {g base : Nat} {wr w2 : World} {lv : Value} {D : List ByteArray} (h : Hid (Rd g wr w2)) (ho : Hid (OwnS base wr lv D)) (hg : g < base) : Hid (OwnS base w2 lv D) := h.out.own ho.out hg

set_option maxHeartbeats 1600000 in
set_option maxRecDepth 100000 in
theorem name_ok (g a : Nat) (ls : List ByteArray) (t : ByteArray) (w : World) (h : IsR g t a w) (hs : t.size ≤ 1000) (hst : Stand t a ls) (hlab : ∀ l ∈ ls, labB l = true) (hn : ls.length ≤ 8) (hz : (jn (ls.map bts)).length ≤ 100000) :
    Calls Tryd.prog 59 #[.pointer (some ⟨g, 0, none⟩)] w fun e w' => e = .returned (.string (mk (jn (ls.map bts)))) ∧ Hid (IsR g t (behind a ls + 1) w') ∧ Hid (Rd g w w') := by
  obtain ⟨i0, hi0, hz0, hzs, hzb⟩ := info_parts Tryd.info9
  have c1 := h.c1
  have hgw := h.hg
  have HI : Hid (IsR g t a w) := h
  have HST : Hid (Stand t a ls) := hst
  have HLB : Hid (∀ l ∈ ls, labB l = true) := hlab
  have HJ : Hid (∀ W v, OwnS w.heap.size W v ls → Calls Tryd.prog 71 #[v, .string ⟨#[46]⟩] W fun e w' => e = .returned (.string (mk (jn (ls.map bts)))) ∧ Below W.heap.size W w') := fun W v ho => join_own _ ls W v ho (by omega) hz
  have HN : Hid (ls.length ≤ 8) := hn
  clear h hst hlab hz hn
  generalize mk (jn (ls.map bts)) = R at *
  go_enter Tryd.func59, Tryd.ntmps59
  go_wp2_with fail
  go_quiet (fail)
  go_wp2_with fail
  go_loopw [3, 4, 5] (fun lv pv bv wr => pv = .pointer (some ⟨g, 0, none⟩) ∧ bv = .int .i64 a ∧ ∃ (D r : List ByteArray) (b : Nat), Hid (ls = D ++ r) ∧ Hid (Stand t b r) ∧ Hid (behind b r = behind a ls) ∧ Hid (IsR g t b wr) ∧ Hid (Rd g w wr) ∧ Hid (OwnS w.heap.size wr lv D)) (fun lv _ _ _ => ls.length - lenOf lv)
  case atStart => exact ⟨rfl, rfl, [], ls, a, rfl, HST, rfl, HI.out.ext (ext_drewN _ _), (Rd.ext (ext_drewN _ _) : Rd g w _), ownS_nil _ _⟩
  case round =>
    obtain ⟨rfl, rfl, D, r, b, HE, HS, HH, HR, HD, HO⟩ := hrel
    have hsz := HD.out.size
    rcases r with _ | ⟨l, r⟩
    · have HP : Hid (Calls Tryd.prog 70 #[.pointer (some ⟨g, 0, none⟩)] wr fun e w' => e = .returned (.int .u8 0) ∧ Hid (IsR g t b w') ∧ Hid (Rd g wr w')) := (show Calls _ _ _ _ _ by
        have h := peek_r g b t wr HR.out HS.out.1
        rw [HS.out.2] at h
        exact h)
      go_wp2_with fail
      refine HP.out.mono ?_
      rintro e w1 ⟨rfl, HR1, HD1⟩
      go_wp2_with fail
      refine (expect_r g b 1 0 t w1 HR1.out hs HS.out.1 (by omega) HS.out.2).mono ?_
      rintro e w2 ⟨rfl, HR2, HD2⟩
      have HX : Hid (Rd g wr w2) := HD1.out.trans HD2.out
      have HO2 := own_fin HX HO HE hgw
      go_wp2_with fail
      refine (HJ.out _ _ HO2.out).mono ?_
      rintro e w3 ⟨rfl, hb3⟩
      have HB3 : Hid (Below w2.heap.size w2 w3) := hb3
      clear hb3
      go_wp2_with fail
      go_ret
      refine ⟨rfl, ?_, ?_⟩
      · rw [← HH.out]
        exact HR2.out.below HB3.out HR2.out.hg
      · exact (HD.out.trans HX.out).trans (Rd.of_below HB3.out (Nat.le_refl _))
    · have hl : labB l = true := HLB.out l (by rw [HE.out]; simp)
      have hl30 := lab_size hl
      have HS1 : Hid (rnum t b 1 = l.size) := HS.out.1
      have HS2 : Hid (b + 1 + l.size ≤ t.size) := HS.out.2.1
      have HS3 : Hid (t.extract (b + 1) (b + 1 + l.size) = l) := HS.out.2.2.1
      have HS4 : Hid (Stand t (b + 1 + l.size) r) := HS.out.2.2.2
      have hDn : D.length + 1 ≤ ls.length := by rw [HE.out]; simp
      have hD8 : D.length < 8 := by have := HN.out; omega
      have HP : Hid (Calls Tryd.prog 70 #[.pointer (some ⟨g, 0, none⟩)] wr fun e w' => e = .returned (.int .u8 (l.size : Nat)) ∧ Hid (IsR g t b w') ∧ Hid (Rd g wr w')) := (show Calls _ _ _ _ _ by
        have h := peek_r g b t wr HR.out (by have := HS2.out; omega)
        rw [HS1.out] at h
        exact h)
      have hm0 : ((l.size : Int) == 0) = false := beq_eq_false_iff_ne.2 (by omega)
      have hm1 : ¬ (l.size : Int) = 0 := by omega
      have hm2 : decide ((192 : Int) ≤ (l.size : Int)) = false := by simp; omega
      have HLL : Hid (labB l = true) := hl
      have hls : l.size ≤ maxLen := by unfold maxLen; omega
      clear HS hl
      go_wp2_with fail
      refine HP.out.mono ?_
      rintro e w1 ⟨rfl, HR1, HD1⟩
      go_wp2_with fail
      refine (counted_r g b l.size t l w1 HR1.out hs HS1.out HS2.out HS3.out).mono ?_
      rintro e w2 ⟨rfl, HR2, HD2⟩
      go_wp2_with fail
      refine (small_same l w2 (by omega) (lab_low HLL.out)).mono ?_
      rintro e w3 ⟨rfl, hx3⟩
      have HR3 : Hid (IsR g t (b + 1 + l.size) w3) := HR2.out.ext hx3
      have HD3 : Hid (Rd g wr w3) := (HD1.out.trans HD2.out).trans (Rd.ext hx3)
      have HO3 := own_step HD3 HO hgw
      have HD4 : Hid (Rd g w w3) := HD.out.trans HD3.out
      have hsz3 := HD4.out.size
      clear hx3 HD3 HD1 HD2 HR1 HR2 HO HD HR HP
      obtain ⟨p, c, hv⟩ := own_shape HO3.out
      subst hv
      have hd8 : decide ((D.length : Int) < 8) = true := by simp; omega
      go_wp2_with fail
      refine (label_any l w3 hls).mono ?_
      rintro e w4 ⟨rfl, hw4⟩
      subst hw4
      rw [HLL.out]
      go_wp2_with fail
      refine (need_ok _ _).mono ?_
      rintro e w5 ⟨rfl, hw5⟩
      subst hw5
      go_wp2_with (at_builtin; refine wpList_append_own _ rfl _ _ 46 rfl w.heap.size 9 i0 _ 1 16 Tryd.underlying46 hi0 hz0 hzs hzb rfl (by omega) _ D.length (D.map Value.string) rfl ?hown ⟨w5.heap.size, 0, none⟩ 1 1 [.string l] rfl rfl ?hnews (strs_one [_]) ?h63 ?hbytes ?hbase ?_)
      case hown => exact HO3.out.below ((Below.refl _ _).alloc (Nat.le_refl _) _)
      case hnews => (intro j u hj; rw [Addr.add_lit]; exact (cell_topL (by simp)).trans (by simpa using hj))
      case h63 => (unfold maxLen; omega)
      case hbytes => omega
      case hbase => (simp; omega)
      intro v' w6 r1 r2 r3
      have hB6 : Below w.heap.size w5 w6 := ((Below.refl _ _).alloc hsz3 _).grown r2 (by simp; omega) (fun j hj => (HO3.out.lt j hj).1)
      have HDX : Hid (Rd g w w6) := HD4.out.belowed hB6
      have HRX : Hid (IsR g t (b + 1 + l.size) w6) := HR3.out.below hB6 hgw
      have HOX : Hid (OwnS w.heap.size w6 v' (D ++ [l])) := ownS_snoc (l := D) r1
      have HEX : Hid (ls = (D ++ [l]) ++ r) := (show ls = _ by rw [HE.out]; simp)
      have HHX : Hid (behind (b + 1 + l.size) r = behind a ls) := HH
      clear r1 r2 r3 hB6 HO3 HD4 HR3 HE HH
      go_wp2_with fail
      refine ⟨⟨rfl, rfl, D ++ [l], r, b + 1 + l.size, HEX, HS4, HHX, HRX, HDX, HOX⟩, ?_⟩
      rw [own_len HOX.out, show lenOf (Value.slice p D.length c) = D.length from rfl, List.length_append, List.length_singleton]
      omega

end Go.Proofs.YtogmkdhljifbpaaDoor

/- Contracts of the library, laid at this program. -/
namespace Go.Proofs
open Go.Shelf
end Go.Proofs

/- The writer's builder: copyCheck, WriteByte. -/
namespace Go.Proofs.YtogmkdhljifbpaaDoor
open Go.RowKit

theorem Tryd.infoByte : (Tryd.prog.info? 5).map (fun i => (i.zero, i.size, i.bytes)) = some (some (.int .u8 0), 1, 1) := by kernel_rfl
theorem Tryd.sizeBuilder : (Tryd.prog.info? 79).map (·.size) = some 2 := by kernel_rfl
theorem Tryd.liesWriter : liesAt Tryd.prog Tryd.prog.depth 81 (2 / Tryd.prog.cellsOf 81) 0 79 1 = true := by kernel_rfl

abbrev WAt (B b : Nat) (p : Value) (bs : List Value) (w : World) : Prop := Lib.BuilderAt 81 5 B b p bs w
def IsW (B b : Nat) (bs : List Value) (w : World) : Prop := WAt B b (.pointer none) bs w ∨ WAt B b (.pointer (some ⟨b, 0, none⟩)) bs w

/-- The block in which the builder at b has its bytes. -/
def bufOf (w : World) (b : Nat) : Option Nat := (w.cell? ⟨b, 1, none⟩).bind Value.ownBlock
/-- All that was there stays, the builder at b and its bytes aside; these lie where they lay, or anew. -/
def Kq (b : Nat) (w w' : World) : Prop := b < w.heap.size → (∀ k, k < w.heap.size → k ≠ b → some k ≠ bufOf w b → w'.heap[k]? = w.heap[k]?) ∧ (bufOf w' b = bufOf w b ∨ ∀ k, bufOf w' b = some k → w.heap.size ≤ k)
/-- What lay below, lies; and so does what is no row of bytes, the builder's own block aside. -/
structure Kp (B b : Nat) (w w' : World) : Prop where
  bel : Below B w w'
  oth : Lib.OthersKept 5 (some b) w w'
  kq : Kq b w w'
theorem Kq.refl (b : Nat) (w : World) : Kq b w w := fun _ => ⟨fun _ _ _ _ => rfl, .inl rfl⟩
theorem Kq.trans {b : Nat} {w w1 w2 : World} (h : Kq b w w1) (k : Kq b w1 w2) (hs : w.heap.size ≤ w1.heap.size) : Kq b w w2 := fun hb => by
  obtain ⟨h1, h2⟩ := h hb
  obtain ⟨k1, k2⟩ := k (Nat.lt_of_lt_of_le hb hs)
  refine ⟨fun j hj hjb hjn => ?_, ?_⟩
  · refine (k1 j (Nat.lt_of_lt_of_le hj hs) hjb fun e => ?_).trans (h1 j hj hjb hjn)
    rcases h2 with h2 | h2
    · exact hjn (e.trans h2)
    · have := h2 j e.symm; omega
  · rcases k2 with k2 | k2
    · rcases h2 with h2 | h2
      · exact .inl (k2.trans h2)
      · exact .inr fun j hj => h2 j (k2 ▸ hj)
    · exact .inr fun j hj => Nat.le_trans hs (k2 j hj)
theorem Kp.refl (B b : Nat) (w : World) : Kp B b w w := ⟨Below.refl _ _, Lib.OthersKept.refl _ _ _, Kq.refl b w⟩
theorem Kp.trans {B b : Nat} {w w1 w2 : World} (h : Kp B b w w1) (k : Kp B b w1 w2) : Kp B b w w2 := ⟨h.bel.trans k.bel, h.oth.trans k.oth, h.kq.trans k.kq h.bel.size⟩
theorem Kp.drew {B b : Nat} {w w1 : World} (h : Kp B b w w1) : Kp B b w w1.drew := ⟨h.bel.drew, h.oth.drew, h.kq⟩
theorem Kp.size {B b : Nat} {w w1 : World} (h : Kp B b w w1) : w.heap.size ≤ w1.heap.size := h.bel.size
theorem Kq.step {b : Nat} {w1 w2 : World} {p v v' : Value} {T : TypeId} (hb1 : w1.heap[b]? = some (.cells #[p, v] T (0, 0))) (hb2 : w2.heap[b]? = some (.cells #[p, v] T (0, 0))) (hg : ∀ k, k < w1.heap.size → some k ≠ v.ownBlock → w2.heap[k]? = w1.heap[k]?) (hat : v'.ownBlock = v.ownBlock ∨ ∀ k, v'.ownBlock = some k → w1.heap.size ≤ k) : Kq b w1 (w2.setCell ⟨b, 1, none⟩ v') := fun _ => by
  have e1 : bufOf w1 b = v.ownBlock := by unfold bufOf; rw [cellsAt hb1 1]; rfl
  have e2 : bufOf (w2.setCell ⟨b, 1, none⟩ v') b = v'.ownBlock := by unfold bufOf; rw [World.cell?_setCell_same _ _ _ (cellsAt hb2 1 : w2.cell? ⟨b, 1, none⟩ = some v)]; rfl
  rw [e1, e2]
  exact ⟨fun k hk hkb hkn => (Below.heap_setCell w2 _ v' k hkb).trans (hg k hk hkn), hat⟩
theorem own_kind {B n : Nat} {w : World} {v : Value} {xs : List Value} (h : w.ownsRow B 5 1 v n xs) : ∀ g, v.ownBlock = some g → ∃ c fz, w.heap[g]? = some (.cells c 5 fz) := by
  intro g hg
  rcases h.2 with ⟨rfl, _⟩ | ⟨g', cap, cur, rfl, _, hgg, _⟩
  · simp [Value.ownBlock] at hg
  · simp [Value.ownBlock] at hg
    subst hg
    exact ⟨cur, _, hgg⟩

set_option maxHeartbeats 1000000 in
set_option maxRecDepth 100000 in
theorem copy_fresh (b : Nat) (w : World) (h0 : w.cell? ⟨b, 0, none⟩ = some (.pointer none)) (hsh : w.shape? b = some (81, 2)) (hfz : w.frozen? ⟨b, 0, none⟩ = false) :
    Calls Tryd.prog 89 #[.pointer (some ⟨b, 0, none⟩)] w fun e w' => e = .returned (.tuple #[]) ∧ w' = w.setCell ⟨b, 0, none⟩ (.pointer (some ⟨b, 0, none⟩)) := by
  obtain ⟨j, hj, hjs⟩ := Option.map_eq_some_iff.1 Tryd.sizeBuilder
  go_enter Tryd.func89, Tryd.ntmps89
  go_wp2_with fail
  rw [Lib.run_to_unsafe w ⟨b, 0, none⟩ Tryd.underlying76 Tryd.underlying108 hj (by rw [hjs]; decide) hsh (Nat.zero_lt_succ 1)]
  simp only [Result.andThen]
  rw [Oper.upon_value]
  go_wp2_with fail
  rw [run_callFunc_extern Tryd.func93 (by kernel_rfl) (by kernel_rfl) (by kernel_rfl) (e := Extern.AbiNoEscape.same) (by kernel_rfl)]
  rw [Lib.run_noEscape]
  simp only [Result.andThen]
  rw [Oper.upon_value]
  go_wp2_with fail
  rw [Lib.run_from_unsafe w ⟨b, 0, none⟩ Tryd.underlying108 Tryd.underlying76 hj hsh Tryd.liesWriter]
  simp only [Result.andThen]
  rw [Oper.upon_value]
  go_wp2_with fail
  simp [bodyPost, results, Tryd.results89]

set_option maxHeartbeats 1000000 in
set_option maxRecDepth 100000 in
theorem copy_used (b : Nat) (w : World) (h0 : w.cell? ⟨b, 0, none⟩ = some (.pointer (some ⟨b, 0, none⟩))) :
    Calls Tryd.prog 89 #[.pointer (some ⟨b, 0, none⟩)] w fun e w' => e = .returned (.tuple #[]) ∧ w' = w := by
  obtain ⟨j, hj, _⟩ := Option.map_eq_some_iff.1 Tryd.sizeBuilder
  go_enter Tryd.func89, Tryd.ntmps89
  go_wp2_with fail
  rw [Lib.run_neq_ptr_same w _ Tryd.underlying76 hj]
  go_wp2_with fail
  simp [bodyPost, results, Tryd.results89]

theorem copy_any (B b : Nat) (bs : List Value) (w : World) (h : IsW B b bs w) :
    Calls Tryd.prog 89 #[.pointer (some ⟨b, 0, none⟩)] w fun e w' => e = .returned (.tuple #[]) ∧ WAt B b (.pointer (some ⟨b, 0, none⟩)) bs w' ∧ Kp B b w w' := by
  rcases h with h | h
  · refine (copy_fresh b w h.cell0 h.shape h.frozen0).mono ?_
    rintro e w' ⟨rfl, rfl⟩
    exact ⟨rfl, h.used _, (Below.refl B w).setCell (p := ⟨b, 0, none⟩) h.1 _, (Lib.OthersKept.refl _ _ w).setCell ⟨b, 0, none⟩ rfl _, fun _ => ⟨fun k _ hkb _ => Below.heap_setCell w _ _ k hkb, .inl (by unfold bufOf; rw [World.cell?_setCell_other _ _ _ _ (by simp)])⟩⟩
  · refine (copy_used b w h.cell0).mono ?_
    rintro e w' ⟨rfl, rfl⟩
    exact ⟨rfl, h, Kp.refl B b _⟩

set_option maxHeartbeats 2000000 in
set_option maxRecDepth 100000 in
/-- A byte more. -/
theorem writeByte_any (B b : Nat) (bs : List Value) (c : Int) (w : World) (h : IsW B b bs w) (hlen : bs.length + 1 ≤ 1000000) (hBw : B ≤ w.heap.size) :
    Calls Tryd.prog 79 #[.pointer (some ⟨b, 0, none⟩), .int .u8 c] w fun e w' => e = .returned .nilIface ∧ WAt B b (.pointer (some ⟨b, 0, none⟩)) (bs ++ [.int .u8 c]) w' ∧ Kp B b w w' := by
  obtain ⟨i0, hi, hz0, hz1, hz2⟩ := info_parts Tryd.infoByte
  have HC : Hid (Calls Tryd.prog 89 #[.pointer (some ⟨b, 0, none⟩)] w fun e w' => e = .returned (.tuple #[]) ∧ WAt B b (.pointer (some ⟨b, 0, none⟩)) bs w' ∧ Kp B b w w') := copy_any B b bs w h
  clear h
  go_enter Tryd.func79, Tryd.ntmps79
  go_wp2_with fail
  refine HC.out.mono ?_
  rintro e w1 ⟨rfl, h1, hb1⟩
  obtain ⟨hB, v, hbk, hown, hne⟩ := h1
  have c0 : w1.cell? ⟨b, 0, none⟩ = some (.pointer (some ⟨b, 0, none⟩)) := cellsAt hbk 0
  have c1 : w1.cell? ⟨b, 1, none⟩ = some v := cellsAt hbk 1
  have hsz1 := hb1.size
  have HO : Hid (w1.ownsRow B 5 1 v bs.length bs) := hown
  have HK : Hid (w1.heap[b]? = some (.cells #[.pointer (some ⟨b, 0, none⟩), v] 81 (0, 0))) := hbk
  clear hown hbk
  go_wp2_with (at_builtin; refine wpList_append_own_at _ rfl _ _ 77 rfl B 5 i0 (.int .u8 0) 1 1 Tryd.underlying77 hi hz0 hz1 hz2 rfl (by decide) _ bs.length bs rfl (HO.out.alloc _) ⟨w1.heap.size, 0, none⟩ 1 1 [.int .u8 c] rfl rfl ?c1 ?c2 ?c3 ?c4 ?c5 ?_)
  case c1 => (intro j u hj; rw [Addr.add_lit]; exact (cell_topL (by simp)).trans (by simpa using hj))
  case c2 => (intro u hu; simp at hu; subst hu; rfl)
  case c3 => (unfold maxLen; omega)
  case c4 => omega
  case c5 => (simp; omega)
  intro v' w2 hown' hgrow _ hat
  have hlt : b < w1.heap.size := (Array.getElem?_eq_some_iff.1 HK.out).1
  have hb2 : w2.heap[b]? = some (.cells #[.pointer (some ⟨b, 0, none⟩), v] 81 (0, 0)) := by
    rw [hgrow.block b (by simp; omega) (fun e => hne e.symm), Lib.alloc_old w1 _ b hlt]
    exact HK.out
  have d0 : w2.cell? ⟨b, 0, none⟩ = some (.pointer (some ⟨b, 0, none⟩)) := cellsAt hb2 0
  have d1 : w2.cell? ⟨b, 1, none⟩ = some v := cellsAt hb2 1
  have f1 : w2.frozen? ⟨b, 1, none⟩ = false := Lib.frozen_of_heap hb2 1
  have HB2 : Hid (Below B w w2 ∧ Lib.OthersKept 5 (some b) w w2) := (show _ ∧ _ from ⟨(hb1.bel.alloc (by omega) _).grown hgrow (by simp; omega) (fun k hk => (HO.out.lt k hk).1), (hb1.oth.alloc _).grown hgrow (own_kind (HO.out.alloc _))⟩)
  have HKQ : Hid (Kq b w (w2.setCell ⟨b, 1, none⟩ v')) := hb1.kq.trans (Kq.step HK.out hb2 (fun k hk hkn => (hgrow.block k (by simp; omega) hkn).trans (Lib.alloc_old w1 _ k hk)) (hat.imp id (fun e k hk => by rw [e] at hk; simp at hk; omega))) hsz1
  have HK2 : Hid (w2.heap[b]? = some (.cells #[.pointer (some ⟨b, 0, none⟩), v] 81 (0, 0))) := hb2
  have HO2 : Hid (w2.ownsRow B 5 1 v' (bs.length + 1) (bs ++ [.int .u8 c])) := hown'
  obtain ⟨g, cap, hv⟩ : ∃ g cap, v' = .slice (some ⟨g, 0, none⟩) (bs.length + 1) cap := by
    rcases hown'.2 with ⟨_, h0⟩ | ⟨g, cap, cur, hv, _⟩
    · omega
    · exact ⟨g, cap, hv⟩
  subst hv
  clear hown' hgrow hb2 c0 c1 hb1 hat
  go_wp2_with fail
  go_ret
  refine ⟨rfl, ?_, ?_⟩
  · exact Lib.BuilderAt.put (T := 81) (e := 5) hB HK2.out (bs' := bs ++ [.int .u8 c]) (by simpa using HO2.out) (by decide)
  · exact ⟨HB2.out.1.setCell (p := ⟨b, 1, none⟩) hB _, HB2.out.2.setCell ⟨b, 1, none⟩ rfl _, HKQ.out⟩

end Go.Proofs.YtogmkdhljifbpaaDoor

