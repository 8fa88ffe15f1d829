/- Q0, Shelf, Q1, Q2, F2, RL -/
import Derived.Test.YtogmkdhljifbpaaDoorY1
import Derived.Shelf.Strings.Builder1
import Derived.Shelf.Strings.Builder2
import Derived.Shelf.Strings.OnBuilder
import Derived.Shelf.LaysM
import Derived.Shelf.Strconv.Clone
import Derived.Shelf.Strings.Search1
import Derived.Shelf.Strings.Search2
import Derived.Shelf.Strings.Search3
import Derived.Shelf.Strings.Cut
import Derived.Shelf.Strings.Count
import Derived.Shelf.Strings.Split
import Derived.Shelf.Strings.SplitShaped
import Derived.Test.YtogmkdhljifbpaaDoorProg
import Derived.Lib.Split
import Derived.OwnWalk
import Derived.WalkKit
/- Names and their labels: texts cut at their dots. -/
namespace Go.Proofs.YtogmkdhljifbpaaDoor
open Go.RowKit

/-- A text's parts between its dots. -/
def spl : List UInt8 → List (List UInt8)
  | [] => [[]]
  | c :: r => if c = 46 then [] :: spl r else match spl r with
    | [] => [[c]]
    | x :: xs => (c :: x) :: xs
/-- Parts with dots between them. -/
def jn : List (List UInt8) → List UInt8
  | [] => []
  | [x] => x
  | x :: y :: r => x ++ 46 :: jn (y :: r)

theorem spl_ne : ∀ l, spl l ≠ []
  | [] => by simp [spl]
  | c :: r => by
    unfold spl
    split
    · simp
    · split <;> simp
theorem spl_dot (r : List UInt8) : spl (46 :: r) = [] :: spl r := by rw [spl, if_pos rfl]
theorem spl_cons {c : UInt8} (h : c ≠ 46) {r x : List UInt8} {xs : List (List UInt8)} (hr : spl r = x :: xs) : spl (c :: r) = (c :: x) :: xs := by
  rw [spl, if_neg h, hr]
theorem spl_app : ∀ (a b : List UInt8), 46 ∉ a → spl (a ++ 46 :: b) = a :: spl b
  | [], b, _ => spl_dot b
  | c :: a, b, h => by
    have h1 : c ≠ 46 := fun e => h (by rw [e]; exact List.mem_cons_self)
    have h2 : 46 ∉ a := fun e => h (List.mem_cons_of_mem _ e)
    rw [List.cons_append]
    exact spl_cons h1 (spl_app a b h2)
theorem spl_none : ∀ (a : List UInt8), 46 ∉ a → spl a = [a]
  | [], _ => rfl
  | c :: a, h => by
    have h1 : c ≠ 46 := fun e => h (by rw [e]; exact List.mem_cons_self)
    have h2 : 46 ∉ a := fun e => h (List.mem_cons_of_mem _ e)
    exact spl_cons h1 (spl_none a h2)
theorem spl_len : ∀ (l : List UInt8), (spl l).length = l.count 46 + 1
  | [] => rfl
  | c :: r => by
    have ih := spl_len r
    by_cases h : c = 46
    · subst h
      rw [spl_dot, List.length_cons, ih, List.count_cons_self]
    · obtain ⟨x, xs, hr⟩ := List.exists_cons_of_ne_nil (spl_ne r)
      rw [spl_cons h hr, List.length_cons, List.count_cons_of_ne h]
      rw [hr, List.length_cons] at ih
      exact ih
theorem spl_free : ∀ (l : List UInt8), ∀ x ∈ spl l, 46 ∉ x
  | [], x, hx => by simp [spl] at hx; subst hx; simp
  | c :: r, x, hx => by
    have ih := spl_free r
    by_cases h : c = 46
    · subst h
      rw [spl_dot] at hx
      rcases List.mem_cons.1 hx with rfl | h2
      · simp
      · exact ih x h2
    · obtain ⟨y, ys, hr⟩ := List.exists_cons_of_ne_nil (spl_ne r)
      rw [spl_cons h hr] at hx
      rcases List.mem_cons.1 hx with rfl | h2
      · have := ih y (by rw [hr]; exact List.mem_cons_self)
        intro hm
        rcases List.mem_cons.1 hm with e | e
        · exact h e.symm
        · exact this e
      · exact ih x (by rw [hr]; exact List.mem_cons_of_mem _ h2)
theorem jn_cons (c : UInt8) (x : List UInt8) (xs : List (List UInt8)) : jn ((c :: x) :: xs) = c :: jn (x :: xs) := by
  cases xs <;> rfl
theorem jn_spl : ∀ (l : List UInt8), jn (spl l) = l
  | [] => rfl
  | c :: r => by
    have ih := jn_spl r
    obtain ⟨y, ys, hr⟩ := List.exists_cons_of_ne_nil (spl_ne r)
    by_cases h : c = 46
    · subst h
      rw [spl_dot, hr]
      rw [hr] at ih
      show [] ++ 46 :: jn (y :: ys) = _
      rw [ih]; rfl
    · rw [spl_cons h hr, jn_cons, ← hr, ih]
theorem spl_jn : ∀ (xs : List (List UInt8)), xs ≠ [] → (∀ x ∈ xs, 46 ∉ x) → spl (jn xs) = xs
  | [], h, _ => absurd rfl h
  | [x], _, h => spl_none x (h x List.mem_cons_self)
  | x :: y :: r, _, h => by
    show spl (x ++ 46 :: jn (y :: r)) = _
    rw [spl_app _ _ (h x List.mem_cons_self), spl_jn (y :: r) (by simp) (fun z hz => h z (List.mem_cons_of_mem _ hz))]

theorem ix_none : ∀ {l : List UInt8}, Lib.indexByte l 46 = -1 → 46 ∉ l
  | [], _ => by simp
  | c :: r, h => by
    unfold Lib.indexByte at h
    split at h
    · omega
    · rename_i hc
      split at h
      · rename_i h2
        intro hm
        rcases List.mem_cons.1 hm with e | e
        · subst e; simp at hc
        · exact ix_none (by simpa using h2) e
      · have := Lib.indexByte_ge r 46; omega
theorem ix_some : ∀ {l : List UInt8} {i : Nat}, Lib.indexByte l 46 = (i : Int) → i < l.length ∧ l = l.take i ++ 46 :: l.drop (i + 1) ∧ 46 ∉ l.take i
  | [], i, h => by unfold Lib.indexByte at h; omega
  | c :: r, i, h => by
    unfold Lib.indexByte at h
    split at h
    · rename_i hc
      have : i = 0 := by omega
      subst this
      have : c = 46 := by simpa using hc
      subst this
      simp
    · rename_i hc
      split at h
      · omega
      · rename_i h2
        have hg := Lib.indexByte_ge r 46
        obtain ⟨j, rfl⟩ : ∃ j, i = j + 1 := ⟨i - 1, by have : Lib.indexByte r 46 ≠ -1 := by simpa using h2
                                                       omega⟩
        obtain ⟨h3, h4, h5⟩ := ix_some (l := r) (i := j) (by omega)
        refine ⟨by simpa using h3, ?_, ?_⟩
        · simp only [List.take_succ_cons, List.drop_succ_cons, List.cons_append]
          rw [← h4]
        · simp only [List.take_succ_cons]
          intro hm
          rcases List.mem_cons.1 hm with e | e
          · subst e; simp at hc
          · exact h5 e

/-- A list of bytes as a text. -/
def mk (l : List UInt8) : ByteArray := ⟨l.toArray⟩
theorem mk_data (s : ByteArray) : mk s.data.toList = s := by cases s; simp [mk]
theorem data_mk (l : List UInt8) : (mk l).data.toList = l := by simp [mk]
theorem mk_size (l : List UInt8) : (mk l).size = l.length := by simp [mk, ByteArray.size]
def labL (l : List UInt8) : Bool := labB (mk l)
theorem labL_free {l : List UInt8} (h : labL l = true) : 46 ∉ l := fun hm => by
  unfold labL labB at h
  simp only [Bool.and_eq_true, List.all_eq_true, data_mk] at h
  have := h.2 46 hm
  revert this; decide
theorem labL_size {l : List UInt8} (h : labL l = true) : 1 ≤ l.length ∧ l.length ≤ 30 := by
  unfold labL labB at h
  simp only [Bool.and_eq_true, decide_eq_true_eq, mk_size] at h
  exact h.1

/-- What is wrong with a name. -/
def chkN (s : ByteArray) : Int :=
  if s.size = 0 then 0 else if (spl s.data.toList).all labL = false then 1 else if 8 < (spl s.data.toList).length ∨ 120 < s.size then 2 else 0

end Go.Proofs.YtogmkdhljifbpaaDoor

/- Contracts of the library, laid at this program. -/
namespace Go.Proofs
open Go.Shelf
def Tryd.lays219_ren : Go.Shelf.Ren := ⟨fun | 219 => 63 | 217 => 75 | 225 => 76 | 224 => 77 | 267 => 78 | 266 => 87 | 314 => 88 | n => n, fun | 9 => 9 | 3 => 3 | 4 => 4 | 5 => 5 | 46 => 91 | 146 => 105 | 51 => 104 | n => n, fun | 1 => 0 | n => n⟩
theorem Tryd.lays219 : Go.Proofs.Lays.n219 Tryd.prog Tryd.lays219_ren := {
  mixed := by kernel_rfl
  f217 := Tryd.func75.trans (congrArg some (by kernel_rfl))
  f219 := Tryd.func63.trans (congrArg some (by kernel_rfl))
  f224 := Tryd.func77.trans (congrArg some (by kernel_rfl))
  f225 := Tryd.func76.trans (congrArg some (by kernel_rfl))
  f266 := Tryd.func87.trans (congrArg some (by kernel_rfl))
  f267 := Tryd.func78.trans (congrArg some (by kernel_rfl))
  f314 := Tryd.func88.trans (congrArg some (by kernel_rfl))
  t3 := Tryd.underlying3
  a3 := Tryd.isAgg3
  z3 := Tryd.sizeOf3
  v3 := Tryd.zeroValue3
  t4 := Tryd.underlying4
  a4 := Tryd.isAgg4
  z4 := Tryd.sizeOf4
  v4 := Tryd.zeroValue4
  t5 := Tryd.underlying5
  a5 := Tryd.isAgg5
  z5 := Tryd.sizeOf5
  v5 := Tryd.zeroValue5
  t9 := Tryd.underlying9
  a9 := Tryd.isAgg9
  z9 := Tryd.sizeOf9
  v9 := Tryd.zeroValue9
  t46 := Tryd.underlying91
  a46 := Tryd.isAgg91
  z46 := Tryd.sizeOf91
  v46 := Tryd.zeroValue91
  t51 := Tryd.underlying104
  a51 := Tryd.isAgg104
  z51 := Tryd.sizeOf104
  v51 := Tryd.zeroValue104
  t146 := Tryd.underlying105
  a146 := Tryd.isAgg105
  z146 := Tryd.sizeOf105
  v146 := Tryd.zeroValue105
  g1 := by kernel_rfl }
open Go.RowKit Go.Lib in
theorem Tryd.stringslite_Index_one (s : ByteArray) (c : UInt8) (w : World) :
    Calls Tryd.prog 63 #[.string s, .string ⟨#[c]⟩] w fun e w' => e = .returned (.int .i64 (Lib.indexByte s.data.toList c)) ∧ w' = w := Any.stringslite_Index_one Tryd.lays219 s c w
def Tryd.lays138_ren : Go.Shelf.Ren := ⟨fun | 138 => 25 | 195 => 45 | 218 => 46 | 143 => 47 | 219 => 63 | 217 => 75 | 225 => 76 | 224 => 77 | 267 => 78 | 266 => 87 | 314 => 88 | n => n, fun | 9 => 9 | 3 => 3 | 4 => 4 | 5 => 5 | 0 => 0 | 46 => 91 | 146 => 105 | 51 => 104 | n => n, fun | 1 => 0 | n => n⟩
theorem Tryd.lays138 : Go.Proofs.Lays.n138 Tryd.prog Tryd.lays138_ren := {
  mixed := by kernel_rfl
  f138 := Tryd.func25.trans (congrArg some (by kernel_rfl))
  f143 := Tryd.func47.trans (congrArg some (by kernel_rfl))
  f195 := Tryd.func45.trans (congrArg some (by kernel_rfl))
  f217 := Tryd.func75.trans (congrArg some (by kernel_rfl))
  f218 := Tryd.func46.trans (congrArg some (by kernel_rfl))
  f219 := Tryd.func63.trans (congrArg some (by kernel_rfl))
  f224 := Tryd.func77.trans (congrArg some (by kernel_rfl))
  f225 := Tryd.func76.trans (congrArg some (by kernel_rfl))
  f266 := Tryd.func87.trans (congrArg some (by kernel_rfl))
  f267 := Tryd.func78.trans (congrArg some (by kernel_rfl))
  f314 := Tryd.func88.trans (congrArg some (by kernel_rfl))
  t0 := Tryd.underlying0
  a0 := Tryd.isAgg0
  z0 := Tryd.sizeOf0
  v0 := Tryd.zeroValue0
  t3 := Tryd.underlying3
  a3 := Tryd.isAgg3
  z3 := Tryd.sizeOf3
  v3 := Tryd.zeroValue3
  t4 := Tryd.underlying4
  a4 := Tryd.isAgg4
  z4 := Tryd.sizeOf4
  v4 := Tryd.zeroValue4
  t5 := Tryd.underlying5
  a5 := Tryd.isAgg5
  z5 := Tryd.sizeOf5
  v5 := Tryd.zeroValue5
  t9 := Tryd.underlying9
  a9 := Tryd.isAgg9
  z9 := Tryd.sizeOf9
  v9 := Tryd.zeroValue9
  t46 := Tryd.underlying91
  a46 := Tryd.isAgg91
  z46 := Tryd.sizeOf91
  v46 := Tryd.zeroValue91
  t51 := Tryd.underlying104
  a51 := Tryd.isAgg104
  z51 := Tryd.sizeOf104
  v51 := Tryd.zeroValue104
  t146 := Tryd.underlying105
  a146 := Tryd.isAgg105
  z146 := Tryd.sizeOf105
  v146 := Tryd.zeroValue105
  g1 := by kernel_rfl }
open Go.RowKit Go.Lib in
theorem Tryd.strings_Count_one (s : ByteArray) (c : UInt8) (w : World) :
    Calls Tryd.prog 25 #[.string s, .string ⟨#[c]⟩] w fun e w' => e = .returned (.int .i64 (Lib.countByte s.data.toList c)) ∧ w' = w := Any.strings_Count_one Tryd.lays138 s c w
end Go.Proofs

/- strings.Cut at a dot; whether a name has a label of some kind; what is wrong with a name. -/
namespace Go.Proofs.YtogmkdhljifbpaaDoor
open Go.RowKit

theorem belowN {B : Nat} {w w1 : World} (h : Below B w w1) (m : Nat) : Below B w (w1.drewN m) := ⟨h.os, h.tape, h.output, h.size, h.block⟩
theorem ext_to (s : ByteArray) (i : Nat) : s.extract 0 i = mk (s.data.toList.take i) := by
  rw [← mk_data (s.extract 0 i), Lib.extract_from_zero]
theorem ext_from (s : ByteArray) (i : Nat) : s.extract i s.size = mk (s.data.toList.drop i) := by
  rw [← mk_data (s.extract i s.size), Lib.extract_to_end]

set_option maxHeartbeats 800000 in
theorem scut_none (s : ByteArray) (w : World) (h : Lib.indexByte s.data.toList 46 = -1) :
    Calls Tryd.prog 62 #[.string s, .string ⟨#[46]⟩] w fun e w' => e = .returned (.tuple #[.string s, .string ⟨#[]⟩, .bool false]) ∧ w' = w := by
  go_enter Tryd.func62, Tryd.ntmps62
  go_wp2_with (go_at_call 63; refine (Tryd.stringslite_Index_one s 46 _).mono ?_; rintro e w' ⟨rfl, rfl⟩; rw [h])
  go_ret3
  exact ⟨rfl, rfl⟩

set_option maxHeartbeats 1600000 in
theorem scut_some (s : ByteArray) (i : Nat) (w : World) (h : Lib.indexByte s.data.toList 46 = (i : Int)) (hs : s.size ≤ maxLen) :
    Calls Tryd.prog 62 #[.string s, .string ⟨#[46]⟩] w fun e w' => e = .returned (.tuple #[.string (s.extract 0 i), .string (s.extract (i + 1) s.size), .bool true]) ∧ ∃ n, w' = w.drewN n := by
  have hi : i < s.size := by have := (ix_some h).1; simpa using this
  unfold maxLen at hs
  have h0 : ((i : Int)).toNat = i := by omega
  have h1 : IntKind.i64.wrap ((i : Int) + 1) = ((i + 1 : Nat) : Int) := by rw [IntKind.wrap_i64]; omega
  have h2 : (((i + 1 : Nat) : Int)).toNat = i + 1 := by omega
  have h3 : ((s.size : Int)).toNat = s.size := by omega
  go_enter Tryd.func62, Tryd.ntmps62
  go_wp2_with (go_at_call 63; refine (Tryd.stringslite_Index_one s 46 _).mono ?_; rintro e w' ⟨rfl, rfl⟩; rw [h])
  go_quiet (fail)
  go_wp2_with fail
  go_ret3
  exact ⟨rfl, ⟨_, rfl⟩⟩

set_option maxHeartbeats 800000 in
theorem cut_none (s : ByteArray) (w : World) (h : Lib.indexByte s.data.toList 46 = -1) :
    Calls Tryd.prog 44 #[.string s, .string ⟨#[46]⟩] w fun e w' => e = .returned (.tuple #[.string s, .string ⟨#[]⟩, .bool false]) ∧ Below w.heap.size w w' := by
  go_enter Tryd.func44, Tryd.ntmps44
  go_wp2_with (go_at_call 62; refine (scut_none s _ h).mono ?_; rintro e w' ⟨rfl, rfl⟩)
  go_ret3
  exact ⟨rfl, Below.refl _ _⟩

set_option maxHeartbeats 800000 in
theorem cut_some (s : ByteArray) (i : Nat) (w : World) (h : Lib.indexByte s.data.toList 46 = (i : Int)) (hs : s.size ≤ maxLen) :
    Calls Tryd.prog 44 #[.string s, .string ⟨#[46]⟩] w fun e w' => e = .returned (.tuple #[.string (s.extract 0 i), .string (s.extract (i + 1) s.size), .bool true]) ∧ Below w.heap.size w w' := by
  go_enter Tryd.func44, Tryd.ntmps44
  go_wp2_with (go_at_call 62; refine (scut_some s i _ h hs).mono ?_; rintro e w' ⟨rfl, n, rfl⟩)
  go_ret3
  exact ⟨rfl, belowN (Below.refl _ _) _⟩

set_option maxHeartbeats 400000 in
theorem isNone_any (s : ByteArray) (w : World) (hs : s.size ≤ maxLen) :
    Calls Tryd.prog 22 #[.string s] w fun e w' => e = .returned (.bool (!labB s)) ∧ w' = w := by
  go_enter Tryd.func22, Tryd.ntmps22
  go_wp2_with (go_at_call 23; refine (label_any _ _ hs).mono ?_; rintro e w' ⟨rfl, rfl⟩)
  go_ret
  exact ⟨rfl, rfl⟩

def szOf : Value → Nat
  | .string r => r.size
  | _ => 0
def tOf : Value → Nat
  | .bool true => 1
  | _ => 0

theorem sz_end (r : ByteArray) : szOf (.string ⟨#[]⟩) + tOf (.bool false) < szOf (.string r) + tOf (.bool true) := by
  show 0 + 0 < r.size + 1
  omega

set_option maxHeartbeats 1600000 in
theorem hasLabel_any (s : ByteArray) (w : World) (hs : s.size ≤ maxLen) :
    Calls Tryd.prog 24 #[.string s, .func (.func 22) #[] #[]] w fun e w' => e = .returned (.bool (!(spl s.data.toList).all labL)) ∧ Below w.heap.size w w' := by
  have H0 : Hid ((spl s.data.toList).all labL = (spl s.data.toList).all labL) := rfl
  have HS : Hid (∀ r : ByteArray, r = s → r.size ≤ maxLen) := fun r h => by rw [h]; exact hs
  have HS0 := HS.out s rfl
  generalize hres : (spl s.data.toList).all labL = res at *
  have H1 : Hid (res = (spl s.data.toList).all labL) := hres.symm
  clear hres H0 HS hs
  go_enter Tryd.func24, Tryd.ntmps24
  go_wp2_with fail
  go_loopw [0, 5] (fun nm mo wr => ∃ r : ByteArray, nm = .string r ∧ r.size ≤ maxLen ∧ ((mo = .bool true ∧ Hid (res = (spl r.data.toList).all labL)) ∨ (mo = .bool false ∧ Hid (res = true))) ∧ Below w.heap.size w wr) (fun nm mo _ => szOf nm + tOf mo)
  case atStart => exact ⟨s, rfl, HS0, .inl ⟨rfl, H1⟩, Below.refl _ _⟩
  case round =>
    obtain ⟨r, rfl, hr, hmo, hbl⟩ := hrel
    have HB : Hid (Below w.heap.size w wr) := hbl
    clear hbl
    rcases hmo with ⟨rfl, hres⟩ | ⟨rfl, hres⟩
    · have hge := Lib.indexByte_ge r.data.toList 46
      by_cases hi : Lib.indexByte r.data.toList 46 = -1
      · have hL : res = labB r := by rw [hres.out, spl_none _ (ix_none hi)]; simp [labL, mk_data]
        have HC : Hid (∀ W, Calls Tryd.prog 44 #[.string r, .string ⟨#[46]⟩] W fun e w' => e = .returned (.tuple #[.string r, .string ⟨#[]⟩, .bool false]) ∧ Below W.heap.size W w') := fun W => cut_none r W hi
        clear hi hge hres
        rcases hb : labB r with _ | _
        · rw [hb] at hL
          have HL : Hid (res = false) := hL
          clear hL
          go_wp2_with (first | (go_at_call 44; refine (HC.out _).mono ?_; rintro e w1 ⟨rfl, hb1⟩) | (go_at_call 22; refine (isNone_any r _ hr).mono ?_; rintro e w2 ⟨rfl, rfl⟩; rw [hb]))
          go_ret
          exact ⟨ret_bool (by rw [HL.out]; rfl), HB.out.trans (hb1.mono HB.out.size)⟩
        · rw [hb] at hL
          have HL : Hid (res = true) := hL
          clear hL
          go_wp2_with (first | (go_at_call 44; refine (HC.out _).mono ?_; rintro e w1 ⟨rfl, hb1⟩) | (go_at_call 22; refine (isNone_any r _ hr).mono ?_; rintro e w2 ⟨rfl, rfl⟩; rw [hb]))
          exact ⟨⟨⟨#[]⟩, rfl, by decide, .inr ⟨rfl, HL⟩, HB.out.trans (hb1.mono HB.out.size)⟩, sz_end r⟩
      · obtain ⟨i, hi2⟩ : ∃ i : Nat, Lib.indexByte r.data.toList 46 = (i : Int) := ⟨(Lib.indexByte r.data.toList 46).toNat, by omega⟩
        obtain ⟨h1, h2, h3⟩ := ix_some hi2
        have hlt : i < r.size := by simpa using h1
        have hL : res = (labB (r.extract 0 i) && (spl (r.extract (i + 1) r.size).data.toList).all labL) := by
          rw [hres.out, ext_to, ext_from, data_mk]
          conv => lhs; rw [h2]
          rw [spl_app _ _ h3, List.all_cons]; rfl
        have hz1 : (r.extract 0 i).size ≤ maxLen := by rw [ext_to, mk_size, List.length_take]; simp; unfold maxLen at *; omega
        have hz2 : (r.extract (i + 1) r.size).size ≤ maxLen := by rw [ext_from, mk_size, List.length_drop]; simp; unfold maxLen at *; omega
        have hz3 : (r.extract (i + 1) r.size).size < r.size := by rw [ext_from, mk_size, List.length_drop]; simp; omega
        have HC : Hid (∀ W, Calls Tryd.prog 44 #[.string r, .string ⟨#[46]⟩] W fun e w' => e = .returned (.tuple #[.string (r.extract 0 i), .string (r.extract (i + 1) r.size), .bool true]) ∧ Below W.heap.size W w') := fun W => cut_some r i W hi2 hr
        clear hi hi2 hge hres h1 h2 h3
        generalize r.extract 0 i = la at *
        generalize r.extract (i + 1) r.size = re at *
        rcases hb : labB la with _ | _
        · rw [hb] at hL
          have HL : Hid (res = false) := hL
          clear hL
          go_wp2_with (first | (go_at_call 44; refine (HC.out _).mono ?_; rintro e w1 ⟨rfl, hb1⟩) | (go_at_call 22; refine (isNone_any la _ hz1).mono ?_; rintro e w2 ⟨rfl, rfl⟩; rw [hb]))
          go_ret
          exact ⟨ret_bool (by rw [HL.out]; rfl), HB.out.trans (hb1.mono HB.out.size)⟩
        · rw [hb, Bool.true_and] at hL
          have HL : Hid (res = (spl re.data.toList).all labL) := hL
          clear hL
          go_wp2_with (first | (go_at_call 44; refine (HC.out _).mono ?_; rintro e w1 ⟨rfl, hb1⟩) | (go_at_call 22; refine (isNone_any la _ hz1).mono ?_; rintro e w2 ⟨rfl, rfl⟩; rw [hb]))
          exact ⟨⟨re, rfl, hz2, .inl ⟨rfl, HL⟩, HB.out.trans (hb1.mono HB.out.size)⟩, by simp [szOf, tOf]; omega⟩
    · go_wp2_with fail
      go_ret
      exact ⟨ret_bool (by rw [hres.out]; rfl), HB.out⟩

end Go.Proofs.YtogmkdhljifbpaaDoor

/- dns.Check. -/
namespace Go.Proofs.YtogmkdhljifbpaaDoor
open Go.RowKit

theorem nempty {s : ByteArray} (h : s.size ≠ 0) : (s.toList == []) = false ∧ ¬ s.toList = [] := by
  have h3 : ¬ s.toList = [] := fun e => h (by
    rw [Lib.toList_data] at e
    have : s.data.toList.length = 0 := by rw [e]; rfl
    simpa using this)
  exact ⟨by simpa using h3, h3⟩
theorem isempty {s : ByteArray} (h : s.size = 0) : s = ⟨#[]⟩ := by
  cases s with
  | mk a => simp [ByteArray.size] at h; subst h; rfl

set_option maxHeartbeats 1600000 in
theorem dnsCheck_any (s : ByteArray) (w : World) (hs : s.size ≤ maxLen) :
    Calls Tryd.prog 10 #[.string s] w fun e w' => e = .returned (.int .i64 (chkN s)) ∧ Below w.heap.size w w' := by
  by_cases h0 : s.size = 0
  · have e0 : chkN s = 0 := by unfold chkN; rw [if_pos h0]
    rw [e0]
    have := isempty h0
    subst this
    clear e0 h0 hs
    go_enter Tryd.func10, Tryd.ntmps10
    go_wp2_with fail
    go_ret
    exact ⟨rfl, Below.refl _ _⟩
  · obtain ⟨n1, n2⟩ := nempty h0
    have HL : Hid (∀ W, Calls Tryd.prog 24 #[.string s, .func (.func 22) #[] #[]] W fun e w' => e = .returned (.bool (!(spl s.data.toList).all labL)) ∧ Below W.heap.size W w') := fun W => hasLabel_any s W hs
    have HE : Hid (chkN s = if (spl s.data.toList).all labL = false then 1 else if 8 < (spl s.data.toList).length ∨ 120 < s.size then 2 else 0) := (show chkN s = _ by unfold chkN; rw [if_neg h0])
    have hlen := spl_len s.data.toList
    unfold maxLen at hs
    clear h0
    generalize chkN s = r at *
    cases hall : (spl s.data.toList).all labL with
    | false =>
      have HR : Hid (r = 1) := (show r = 1 by rw [HE.out, if_pos hall])
      rw [hall] at HL
      clear HE
      go_enter Tryd.func10, Tryd.ntmps10
      go_wp2_with (go_at_call 24; refine (HL.out _).mono ?_; rintro e w1 ⟨rfl, hb1⟩)
      go_ret
      exact ⟨ret_int HR.out.symm, hb1⟩
    | true =>
      rw [hall] at HL
      have HE2 : Hid (r = if 8 < s.data.toList.count 46 + 1 ∨ 120 < s.size then 2 else 0) := (show r = _ by rw [HE.out, hall, hlen]; rfl)
      have hcl : s.data.toList.count 46 ≤ s.size := by have := List.count_le_length (a := (46 : UInt8)) (l := s.data.toList); simpa using this
      clear HE hlen hall
      have HCT : Hid (∀ W, Calls Tryd.prog 25 #[.string s, .string ⟨#[46]⟩] W fun e w' => e = .returned (.int .i64 ((s.data.toList.count 46 : Nat) : Int)) ∧ w' = W) := fun W => Tryd.strings_Count_one s 46 W
      generalize s.data.toList.count 46 = cn at *
      by_cases h1 : 8 ≤ cn
      · have HR : Hid (r = 2) := (show r = 2 by rw [HE2.out, if_pos (.inl (by omega))])
        clear HE2
        have h2 : decide (8 ≤ (cn : Int)) = true := by simp; omega
        go_enter Tryd.func10, Tryd.ntmps10
        go_wp2_with (first | (go_at_call 24; refine (HL.out _).mono ?_; rintro e w1 ⟨rfl, hb1⟩) | (go_at_call 25; refine (HCT.out _).mono ?_; rintro e w2 ⟨rfl, rfl⟩))
        go_ret
        exact ⟨ret_int HR.out.symm, hb1⟩
      · have h2 : decide (8 ≤ (cn : Int)) = false := by simp; omega
        by_cases h3 : 120 < s.size
        · have HR : Hid (r = 2) := (show r = 2 by rw [HE2.out, if_pos (.inr h3)])
          clear HE2
          have h4 : decide (120 < (s.size : Int)) = true := by simp; omega
          go_enter Tryd.func10, Tryd.ntmps10
          go_wp2_with (first | (go_at_call 24; refine (HL.out _).mono ?_; rintro e w1 ⟨rfl, hb1⟩) | (go_at_call 25; refine (HCT.out _).mono ?_; rintro e w2 ⟨rfl, rfl⟩))
          go_ret
          exact ⟨ret_int HR.out.symm, hb1⟩
        · have HR : Hid (r = 0) := (show r = 0 by rw [HE2.out, if_neg (by omega)])
          clear HE2
          have h4 : decide (120 < (s.size : Int)) = false := by simp; omega
          go_enter Tryd.func10, Tryd.ntmps10
          go_wp2_with (first | (go_at_call 24; refine (HL.out _).mono ?_; rintro e w1 ⟨rfl, hb1⟩) | (go_at_call 25; refine (HCT.out _).mono ?_; rintro e w2 ⟨rfl, rfl⟩))
          go_ret
          exact ⟨ret_int HR.out.symm, hb1⟩

end Go.Proofs.YtogmkdhljifbpaaDoor

/- dns.check of a message with no records. -/
namespace Go.Proofs.YtogmkdhljifbpaaDoor
open Go.RowKit

set_option maxHeartbeats 800000 in
theorem checkName_ok (s : ByteArray) (w : World) (hs : s.size ≤ maxLen) (h : chkN s = 0) :
    Calls Tryd.prog 50 #[.string s] w fun r w' => r = .returned (.tuple #[]) ∧ Below w.heap.size w w' := by
  have HC : Hid (Calls Tryd.prog 10 #[.string s] w fun e w' => e = .returned (.int .i64 0) ∧ Below w.heap.size w w') := (show Calls _ _ _ _ _ by have h2 := dnsCheck_any s w hs; rwa [h] at h2)
  go_enter Tryd.func50, Tryd.ntmps50
  go_wp2_with fail
  refine HC.out.mono ?_
  rintro e w1 ⟨rfl, hb1⟩
  go_wp2_with (go_at_call 49; refine (need_ok _ _).mono ?_; rintro e w2 ⟨rfl, rfl⟩)
  simp [bodyPost, results, Tryd.results50]
  exact hb1

set_option maxHeartbeats 800000 in
theorem rtype_any (n : Int) (w : World) :
    Calls Tryd.prog 51 #[.int .i64 n] w fun e w' => e = .returned (.bool (decide (n = 1) || decide (n = 16) || decide (n = 33))) ∧ w' = w := by
  go_enter Tryd.func51, Tryd.ntmps51
  go_wp2
  all_goals
    go_ret
    exact ⟨ret_bool (by rw [Bool.eq_iff_iff]; simp; try omega), rfl⟩

set_option maxHeartbeats 1600000 in
set_option maxRecDepth 100000 in
theorem dcheck_none (id code typ : Int) (ans cut : Bool) (name : ByteArray) (w : World) (h1 : within id 0 65535 = true) (h2 : within code 0 15 = true) (hs : name.size ≤ maxLen) (hn : chkN name = 0) (ht : (decide (typ = 1) || decide (typ = 16) || decide (typ = 33)) = true) :
    Calls Tryd.prog 30 #[.agg #[.int .i64 id, .bool ans, .bool cut, .int .i64 code, .string name, .int .i64 typ, .slice none 0 0]] w fun r w' => r = .returned (.tuple #[]) ∧ Below w.heap.size w w' := by
  go_enter Tryd.func30, Tryd.ntmps30
  go_wp2_with fail
  refine (within_any _ _ _ _).mono ?_
  rintro e w' ⟨rfl, rfl⟩
  rw [h1]
  go_wp2_with fail
  refine (within_any _ _ _ _).mono ?_
  rintro e w' ⟨rfl, rfl⟩
  rw [h2]
  go_wp2_with fail
  refine (need_ok _ _).mono ?_
  rintro e w' ⟨rfl, rfl⟩
  go_wp2_with fail
  refine (need_ok _ _).mono ?_
  rintro e w' ⟨rfl, rfl⟩
  go_wp2_with fail
  refine (checkName_ok name _ hs hn).mono ?_
  rintro e w1 ⟨rfl, hb1⟩
  have hg : w1.heap[w.heap.size]? = some (.cells #[.int .i64 id, .bool ans, .bool cut, .int .i64 code, .string name, .int .i64 typ, .slice none 0 0] 30 (0, 0)) := (hb1.block _ (by simp)).trans (heap_alloc_new w _)
  have f5 : w1.cell? ⟨w.heap.size, 5, none⟩ = some (.int .i64 typ) := cellsAt hg 5
  have f6 : w1.cell? ⟨w.heap.size, 6, none⟩ = some (.slice none 0 0) := cellsAt hg 6
  have HB1 : Hid (Below w.heap.size w w1) := ((Below.refl _ _).alloc (Nat.le_refl _) _).trans (hb1.mono (by simp))
  clear hb1 hg
  go_wp2_with fail
  refine (rtype_any _ _).mono ?_
  rintro e w' ⟨rfl, rfl⟩
  rw [ht]
  go_wp2_with fail
  refine (need_ok _ _).mono ?_
  rintro e w' ⟨rfl, rfl⟩
  go_wp2_with fail
  go_loopw [30] (fun i wr => i = .int .i64 0 ∧ Hid (Below w.heap.size w wr)) (fun _ _ => 0)
  case atStart => exact ⟨rfl, HB1⟩
  case round =>
    obtain ⟨rfl, HBR⟩ := hrel
    go_wp2_with fail
    simp [bodyPost, results, Tryd.results30]
    exact HBR.out

end Go.Proofs.YtogmkdhljifbpaaDoor

/- Lists that rise by a key, one of each key, and of which the newer ones stay when they are joined: plain lists of whatever elements. -/
namespace Go.Proofs.YtogmkdhljifbpaaDoor
namespace RL

section
variable {α : Type}

/-- An order that compares keys alone. -/
structure Keyed (o : α → α → Int) : Prop where
  refl : ∀ a, o a a = 0
  gt : ∀ a b, 0 < o a b ↔ o b a < 0
  trans : ∀ a b c, o a b < 0 → o b c < 0 → o a c < 0
  left : ∀ a b c, o a b = 0 → o a c = o b c
  right : ∀ a b c, o a b = 0 → o c a = o c b

/-- Which of two of one key is newer. -/
structure Newest (o : α → α → Int) (nw : α → α → Bool) : Prop where
  irrefl : ∀ a, nw a a = false
  trans : ∀ a b c, nw a b = true → nw b c = true → nw a c = true
  total : ∀ a b, o a b = 0 → nw a b = false → nw b a = false → a = b

theorem Keyed.symm {o : α → α → Int} (h : Keyed o) {a b : α} (e : o a b = 0) : o b a = 0 := by
  have h1 := h.gt a b
  have h2 := h.gt b a
  rcases Int.lt_trichotomy (o b a) 0 with hl | he | hg
  · have := h1.2 hl; omega
  · exact he
  · have := h2.1 hg; omega
theorem Keyed.eqt {o : α → α → Int} (h : Keyed o) {a b c : α} (e : o a b = 0) (f : o b c = 0) : o a c = 0 := by rw [h.left a b c e]; exact f

variable (o : α → α → Int) (nw : α → α → Bool) (d : α)

/-- Each one is less than those behind it. -/
abbrev Rise (ms : List α) : Prop := ms.Pairwise fun a b => o a b < 0

def risesB : List α → Bool
  | [] => true
  | [_] => true
  | a :: b :: r => decide (o a b < 0) && risesB (b :: r)

theorem rise_of (hk : Keyed o) : ∀ ms : List α, risesB o ms = true → Rise o ms
  | [], _ => .nil
  | [x], _ => by simp [Rise]
  | a :: b :: r, h => by
    rw [risesB, Bool.and_eq_true, decide_eq_true_eq] at h
    have ih := rise_of hk (b :: r) h.2
    refine List.pairwise_cons.2 ⟨fun c hc => ?_, ih⟩
    rcases List.mem_cons.1 hc with rfl | hc
    · exact h.1
    · exact hk.trans _ _ _ h.1 (List.rel_of_pairwise_cons ih hc)

theorem rises_of : ∀ ms : List α, Rise o ms → risesB o ms = true
  | [], _ => rfl
  | [x], _ => rfl
  | a :: b :: r, h => by
    rw [risesB, Bool.and_eq_true, decide_eq_true_eq]
    exact ⟨List.rel_of_pairwise_cons h (by simp), rises_of (b :: r) (List.Pairwise.of_cons h)⟩

theorem rises_all : ∀ ms : List α, (∀ j, j + 1 < ms.length → o (ms.getD j d) (ms.getD (j + 1) d) < 0) → risesB o ms = true
  | [], _ => rfl
  | [x], _ => rfl
  | a :: b :: r, h => by
    rw [risesB, Bool.and_eq_true, decide_eq_true_eq]
    refine ⟨by have := h 0 (by simp); simpa using this, rises_all (b :: r) fun j hj => ?_⟩
    have := h (j + 1) (by simpa using hj)
    simpa using this

theorem rises_get : ∀ ms : List α, risesB o ms = true → ∀ j, j + 1 < ms.length → o (ms.getD j d) (ms.getD (j + 1) d) < 0
  | [], _, j, hj => by simp at hj
  | [x], _, j, hj => by simp at hj
  | a :: b :: r, h, 0, _ => by
    rw [risesB, Bool.and_eq_true, decide_eq_true_eq] at h
    simpa using h.1
  | a :: b :: r, h, j + 1, hj => by
    rw [risesB, Bool.and_eq_true, decide_eq_true_eq] at h
    have := rises_get (b :: r) h.2 j (by simpa using hj)
    simpa using this

theorem getD_el {ms : List α} {i : Nat} (h : i < ms.length) : ms.getD i d = ms[i] := by simp [List.getD, List.getElem?_eq_getElem h]

theorem rise_lt {ms : List α} (h : Rise o ms) {i j : Nat} (hij : i < j) (hj : j < ms.length) : o (ms.getD i d) (ms.getD j d) < 0 := by
  rw [getD_el d (show i < ms.length by omega), getD_el d hj]
  exact List.pairwise_iff_getElem.1 h i j (by omega) hj hij

theorem rise_mono (hk : Keyed o) {ms : List α} (h : Rise o ms) (t : α) : ∀ i j, i ≤ j → j < ms.length → o (ms.getD j d) t < 0 → o (ms.getD i d) t < 0 := by
  intro i j hij hj hlt
  rcases Nat.lt_or_eq_of_le hij with hlt' | rfl
  · exact hk.trans _ _ _ (rise_lt o d h hlt' hj) hlt
  · exact hlt

/-- Where the one with the key of t is, or would be. -/
structure At (ms : List α) (t : α) (p : Nat) (f : Bool) : Prop where
  le : p ≤ ms.length
  lo : ∀ j, j < p → o (ms.getD j d) t < 0
  hi : ∀ j, p ≤ j → j < ms.length → 0 ≤ o (ms.getD j d) t
  is : f = true ↔ p < ms.length ∧ o (ms.getD p d) t = 0

theorem at_any (hk : Keyed o) (ms : List α) (hr : Rise o ms) (t : α) : ∃ p f, At o d ms t p f := by
  induction ms with
  | nil => exact ⟨0, false, by simp, fun j h => by omega, fun j h h2 => by simp at h2, by simp⟩
  | cons x r ih =>
    have hx := List.pairwise_cons.1 hr
    by_cases hlt : o x t < 0
    · obtain ⟨p, f, h⟩ := ih hx.2
      refine ⟨p + 1, f, by have := h.le; simpa using this, fun j hj => ?_, fun j hj hl => ?_, by have := h.is; simpa using this⟩
      · cases j with
        | zero => simpa using hlt
        | succ j => have := h.lo j (by omega); simpa using this
      · cases j with
        | zero => omega
        | succ j => have := h.hi j (by omega) (by simpa using hl); simpa using this
    · refine ⟨0, decide (o x t = 0), by simp, fun j hj => by omega, fun j _ hl => ?_, by simp⟩
      apply Int.not_lt.1
      intro hq
      have := rise_mono o d hk hr t 0 j (by omega) hl hq
      simp at this
      omega

theorem at_uniq {ms : List α} {t : α} {p q : Nat} {f e : Bool} (h : At o d ms t p f) (k : At o d ms t q e) : p = q ∧ f = e := by
  have hpq : p = q := by
    rcases Nat.lt_trichotomy p q with hlt | rfl | hlt
    · have h1 := k.lo p hlt
      have h2 := h.hi p (Nat.le_refl _) (by have := k.le; omega)
      omega
    · rfl
    · have h1 := h.lo q hlt
      have h2 := k.hi q (Nat.le_refl _) (by have := h.le; omega)
      omega
  subst hpq
  refine ⟨rfl, ?_⟩
  rw [Bool.eq_iff_iff, h.is, k.is]

theorem at_of {ms : List α} (hk : Keyed o) (hr : Rise o ms) {t : α} {k : Nat} (hl : k < ms.length) (he : o (ms.getD k d) t = 0) : At o d ms t k true := by
  refine ⟨by omega, fun j hj => ?_, fun j hj hjl => ?_, ⟨fun _ => ⟨hl, he⟩, fun _ => rfl⟩⟩
  · rw [← hk.right _ _ (ms.getD j d) he]
    exact rise_lt o d hr hj hl
  · rcases Nat.lt_or_eq_of_le hj with h | rfl
    · rw [← hk.right _ _ (ms.getD j d) he]
      have := (hk.gt (ms.getD j d) (ms.getD k d)).2 (rise_lt o d hr h hjl)
      omega
    · omega

theorem at_hi_ne {ms : List α} (hk : Keyed o) {t : α} {p : Nat} {f : Bool} (ha : At o d ms t p f) (hr : Rise o ms) (k : Nat) (hpk : p < k) (hl : k < ms.length) : 0 < o (ms.getD k d) t := by
  have h1 := rise_lt o d hr hpk hl
  have h2 := ha.hi p (Nat.le_refl _) (by omega)
  have h3 := ha.hi k (by omega) hl
  rcases Int.lt_or_eq_of_le h3 with h | h
  · exact h
  · have : o (ms.getD p d) t < 0 := by rw [← hk.right _ _ _ h.symm]; exact h1
    omega

/-- What is there behind one more. -/
def hear : List α → α → List α
  | [], m => [m]
  | x :: r, m => if o x m < 0 then x :: hear r m else if o x m = 0 then (if nw m x = true then m :: r else x :: r) else m :: x :: r

theorem hear_at : ∀ (ms : List α) (m : α) (p : Nat) (f : Bool), At o d ms m p f →
    hear o nw ms m = if f = true then (if nw m (ms.getD p d) = true then ms.set p m else ms) else ms.take p ++ m :: ms.drop p
  | [], m, p, f, h => by
    have hp : p = 0 := by have := h.le; simpa using this
    subst hp
    have hf : f = false := by
      cases f
      · rfl
      · have := h.is.1 rfl; simp at this
    subst hf
    simp [hear]
  | x :: r, m, 0, f, h => by
    have h0 := h.hi 0 (Nat.le_refl _) (by simp)
    simp only [List.getD_cons_zero] at h0
    rw [hear, if_neg (by omega)]
    cases f
    · have hne : ¬ o x m = 0 := fun e => by have := h.is.2 ⟨by simp, by simpa using e⟩; cases this
      rw [if_neg hne]; simp
    · have he := (h.is.1 rfl).2
      simp only [List.getD_cons_zero] at he
      rw [if_pos he]
      simp only [List.getD_cons_zero, List.set_cons_zero, if_pos]
  | x :: r, m, p + 1, f, h => by
    have h0 := h.lo 0 (by omega)
    simp only [List.getD_cons_zero] at h0
    have hr : At o d r m p f := ⟨by have := h.le; simpa using this, fun j hj => by have := h.lo (j + 1) (by omega); simpa using this,
      fun j hj hl => by have := h.hi (j + 1) (by omega) (by simpa using hl); simpa using this, by have := h.is; simpa using this⟩
    rw [hear, if_pos h0, hear_at r m p f hr]
    cases f
    · simp
    · simp only [if_pos, List.getD_cons_succ, List.set_cons_succ]
      split <;> rfl

theorem hear_mem : ∀ (ms : List α) (m x : α), x ∈ hear o nw ms m → x = m ∨ x ∈ ms
  | [], m, x, h => by simp [hear] at h; exact .inl h
  | y :: r, m, x, h => by
    rw [hear] at h
    split at h
    · rcases List.mem_cons.1 h with rfl | h
      · exact .inr (by simp)
      · rcases hear_mem r m x h with h | h
        · exact .inl h
        · exact .inr (by simp [h])
    · split at h
      · split at h
        · rcases List.mem_cons.1 h with h | h
          · exact .inl h
          · exact .inr (by simp [h])
        · exact .inr h
      · rcases List.mem_cons.1 h with h | h
        · exact .inl h
        · exact .inr h

theorem hear_rise (hk : Keyed o) : ∀ (ms : List α) (m : α), Rise o ms → Rise o (hear o nw ms m)
  | [], m, _ => by simp [hear]
  | x :: r, m, h => by
    have hx := List.pairwise_cons.1 h
    rw [hear]
    split
    · rename_i hlt
      refine List.pairwise_cons.2 ⟨fun y hy => ?_, hear_rise hk r m hx.2⟩
      rcases hear_mem o nw r m y hy with rfl | hy
      · exact hlt
      · exact hx.1 y hy
    · rename_i hlt
      split
      · rename_i he
        split
        · exact List.pairwise_cons.2 ⟨fun y hy => by rw [← hk.left x m y he]; exact hx.1 y hy, hx.2⟩
        · exact h
      · rename_i he
        have hg : o m x < 0 := (hk.gt x m).1 (by omega)
        refine List.pairwise_cons.2 ⟨fun y hy => ?_, h⟩
        rcases List.mem_cons.1 hy with rfl | hy
        · exact hg
        · exact hk.trans _ _ _ hg (hx.1 y hy)

theorem hear_len : ∀ (ms : List α) (m : α), ms.length ≤ (hear o nw ms m).length ∧ (hear o nw ms m).length ≤ ms.length + 1
  | [], m => by simp [hear]
  | x :: r, m => by
    have := hear_len r m
    rw [hear]
    split
    · simp; omega
    · split
      · split <;> simp
      · simp

/-- All of a second list, one by one. -/
def join (a b : List α) : List α := b.foldl (hear o nw) a

theorem join_rise (hk : Keyed o) : ∀ (b a : List α), Rise o a → Rise o (join o nw a b)
  | [], _, h => h
  | m :: r, a, h => join_rise hk r (hear o nw a m) (hear_rise o nw hk a m h)
theorem join_len : ∀ (b a : List α), (join o nw a b).length ≤ a.length + b.length
  | [], _ => by simp [join]
  | m :: r, a => by
    have h1 := join_len r (hear o nw a m)
    have h2 := hear_len o nw a m
    simp only [join, List.foldl_cons, List.length_cons] at *
    omega
theorem join_mem : ∀ (b a : List α) (x : α), x ∈ join o nw a b → x ∈ a ∨ x ∈ b
  | [], _, _, h => .inl h
  | m :: r, a, x, h => by
    rcases join_mem r (hear o nw a m) x h with h | h
    · rcases hear_mem o nw a m x h with rfl | h
      · exact .inr (by simp)
      · exact .inl h
    · exact .inr (by simp [h])
theorem join_take (a b : List α) (j : Nat) (hj : j < b.length) : join o nw a (b.take (j + 1)) = hear o nw (join o nw a (b.take j)) (b.getD j d) := by
  rw [getD_el d hj, List.take_succ_eq_append_getElem hj, join, List.foldl_append, join]
  rfl
theorem hear_last : ∀ (a : List α) (m : α), (∀ x ∈ a, o x m < 0) → hear o nw a m = a ++ [m]
  | [], _, _ => rfl
  | x :: r, m, h => by
    rw [hear, if_pos (h x (by simp)), hear_last r m (fun y hy => h y (by simp [hy]))]
    rfl
theorem join_app : ∀ (b a : List α), Rise o (a ++ b) → join o nw a b = a ++ b
  | [], a, _ => by simp [join]
  | m :: r, a, h => by
    have h1 : hear o nw a m = a ++ [m] := hear_last o nw a m fun x hx => (List.pairwise_append.1 h).2.2 x hx m (by simp)
    have h2 := join_app r (a ++ [m]) (by simpa using h)
    simp only [join, List.foldl_cons, h1] at h2 ⊢
    rw [h2]; simp
theorem join_nil (b : List α) (h : Rise o b) : join o nw [] b = b := join_app o nw b [] h

/-- The newer one of two of one key. -/
def mx (x y : α) : α := if nw y x = true then y else x

theorem mx_comm (hn : Newest o nw) {x y : α} (he : o x y = 0) : mx nw x y = mx nw y x := by
  unfold mx
  cases h1 : nw y x <;> cases h2 : nw x y
  · simp [hn.total x y he h2 h1]
  · simp
  · simp
  · exfalso
    have := hn.trans _ _ _ h1 h2
    rw [hn.irrefl] at this
    cases this
theorem mx_assoc (hn : Newest o nw) {x y z : α} (h12 : o x y = 0) (h23 : o y z = 0) : mx nw (mx nw x y) z = mx nw x (mx nw y z) := by
  unfold mx
  cases h1 : nw y x <;> cases h2 : nw z y <;> cases h3 : nw z x <;> simp [h1, h2, h3]
  · exfalso
    cases h4 : nw x y
    · have := hn.total x y h12 h4 h1; subst this; rw [h3] at h2; cases h2
    · have := hn.trans _ _ _ h3 h4; rw [h2] at this; cases this
  · exfalso
    have := hn.trans _ _ _ h2 h1; rw [h3] at this; cases this
theorem mx_self (x : α) : mx nw x x = x := by unfold mx; split <;> rfl
theorem mx_key {x y n : α} (hx : o x n = 0) (hy : o y n = 0) : o (mx nw x y) n = 0 := by unfold mx; split <;> assumption

/-- The one with the key of n. -/
def get (ms : List α) (n : α) : Option α := ms.find? fun x => decide (o x n = 0)

theorem get_nil (n : α) : get o [] n = none := rfl
theorem get_cons_eq (x : α) (r : List α) {n : α} (h : o x n = 0) : get o (x :: r) n = some x := by simp [get, h]
theorem get_cons_ne (x : α) (r : List α) {n : α} (h : ¬ o x n = 0) : get o (x :: r) n = get o r n := by simp [get, h]
theorem get_key {ms : List α} {n x : α} (h : get o ms n = some x) : o x n = 0 := by
  have := List.find?_some h
  simpa using this
theorem get_mem {ms : List α} {n x : α} (h : get o ms n = some x) : x ∈ ms := List.mem_of_find?_eq_some h
theorem get_none {ms : List α} {n : α} (h : ∀ x ∈ ms, ¬ o x n = 0) : get o ms n = none := by
  unfold get
  rw [List.find?_eq_none]
  intro x hx
  simpa using h x hx
theorem rise_head (hk : Keyed o) {x : α} {r : List α} (h : Rise o (x :: r)) : ∀ y ∈ r, ¬ o y x = 0 := by
  intro y hy e
  have := List.rel_of_pairwise_cons h hy
  have h2 := hk.symm e
  omega

theorem rise_ext (hk : Keyed o) : ∀ {a b : List α}, Rise o a → Rise o b → (∀ n, get o a n = get o b n) → a = b
  | [], [], _, _, _ => rfl
  | [], y :: s, _, _, h => by
    have := h y
    rw [get_nil, get_cons_eq o y s (hk.refl y)] at this
    cases this
  | x :: r, [], _, _, h => by
    have := h x
    rw [get_nil, get_cons_eq o x r (hk.refl x)] at this
    cases this
  | x :: r, y :: s, ha, hb, h => by
    have hname : o x y = 0 := by
      rcases Int.lt_trichotomy (o x y) 0 with hl | he | hl
      · have h1 := h x
        rw [get_cons_eq o x r (hk.refl x), get_none] at h1
        · cases h1
        · intro z hz e
          have e2 := hk.symm e
          rcases List.mem_cons.1 hz with rfl | hz
          · omega
          · have h2 := hk.trans _ _ _ hl (List.rel_of_pairwise_cons hb hz)
            omega
      · exact he
      · have hl := (hk.gt x y).1 hl
        have h1 := h y
        rw [get_cons_eq o y s (hk.refl y), get_none] at h1
        · cases h1
        · intro z hz e
          have e2 := hk.symm e
          rcases List.mem_cons.1 hz with rfl | hz
          · omega
          · have h2 := hk.trans _ _ _ hl (List.rel_of_pairwise_cons ha hz)
            omega
    have hxy : x = y := by
      have h1 := h x
      rw [get_cons_eq o x r (hk.refl x), get_cons_eq o y s (hk.symm hname)] at h1
      exact Option.some.inj h1
    subst hxy
    have hrs : r = s := rise_ext hk (List.Pairwise.of_cons ha) (List.Pairwise.of_cons hb) fun n => by
      by_cases hn : o x n = 0
      · rw [get_none o (fun z hz e => rise_head o hk ha z hz (hk.eqt e (hk.symm hn))), get_none o (fun z hz e => rise_head o hk hb z hz (hk.eqt e (hk.symm hn)))]
      · have h1 := h n
        rw [get_cons_ne o x r hn, get_cons_ne o x s hn] at h1
        exact h1
    rw [hrs]

def comb : Option α → Option α → Option α
  | none, y => y
  | some x, none => some x
  | some x, some y => some (mx nw x y)

theorem comb_none (x : Option α) : comb nw x none = x := by cases x <;> rfl
theorem comb_comm (hk : Keyed o) (hn : Newest o nw) {x y : Option α} {n : α} (hx : ∀ z, x = some z → o z n = 0) (hy : ∀ z, y = some z → o z n = 0) : comb nw x y = comb nw y x := by
  cases x with
  | none => rw [comb_none]; rfl
  | some x => cases y with
    | none => rfl
    | some y => simp only [comb]; rw [mx_comm o nw hn (hk.eqt (hx x rfl) (hk.symm (hy y rfl)))]
theorem comb_assoc (hk : Keyed o) (hn : Newest o nw) {x y z : Option α} {n : α} (hx : ∀ u, x = some u → o u n = 0) (hy : ∀ u, y = some u → o u n = 0) (hz : ∀ u, z = some u → o u n = 0) : comb nw (comb nw x y) z = comb nw x (comb nw y z) := by
  cases x with
  | none => rfl
  | some x => cases y with
    | none => rfl
    | some y => cases z with
      | none => rfl
      | some z => simp only [comb]; rw [mx_assoc o nw hn (hk.eqt (hx x rfl) (hk.symm (hy y rfl))) (hk.eqt (hy y rfl) (hk.symm (hz z rfl)))]

theorem get_hear (hk : Keyed o) : ∀ (ms : List α) (m : α), Rise o ms → ∀ n, get o (hear o nw ms m) n = if o m n = 0 then comb nw (get o ms n) (some m) else get o ms n
  | [], m, _, n => by
    by_cases h : o m n = 0
    · rw [if_pos h, hear, get_cons_eq o m [] h]; rfl
    · rw [if_neg h, hear, get_cons_ne o m [] h]
  | x :: r, m, hr, n => by
    have ih := get_hear hk r m (List.Pairwise.of_cons hr) n
    rw [hear]
    by_cases hlt : o x m < 0
    · rw [if_pos hlt]
      by_cases hx : o x n = 0
      · rw [get_cons_eq o x _ hx, get_cons_eq o x r hx, if_neg (fun e => by have := hk.eqt hx (hk.symm e); omega)]
      · rw [get_cons_ne o x _ hx, get_cons_ne o x r hx, ih]
    · rw [if_neg hlt]
      by_cases he : o x m = 0
      · rw [if_pos he]
        by_cases hm : o m n = 0
        · rw [if_pos hm, get_cons_eq o x r (hk.eqt he hm)]
          by_cases hnew : nw m x = true
          · rw [if_pos hnew, get_cons_eq o m r hm]; simp [comb, mx, hnew]
          · rw [if_neg hnew, get_cons_eq o x r (hk.eqt he hm)]; simp [comb, mx, hnew]
        · have hx : ¬ o x n = 0 := fun e => hm (hk.eqt (hk.symm he) e)
          rw [if_neg hm, get_cons_ne o x r hx]
          by_cases hnew : nw m x = true
          · rw [if_pos hnew, get_cons_ne o m r hm]
          · rw [if_neg hnew, get_cons_ne o x r hx]
      · rw [if_neg he]
        by_cases hm : o m n = 0
        · rw [if_pos hm, get_cons_eq o m _ hm, get_none]
          · rfl
          · have hg : o m x < 0 := (hk.gt x m).1 (by omega)
            intro z hz e
            have h2 := hk.eqt hm (hk.symm e)
            rcases List.mem_cons.1 hz with rfl | hz
            · omega
            · have := hk.trans _ _ _ hg (List.rel_of_pairwise_cons hr hz)
              omega
        · rw [if_neg hm, get_cons_ne o m _ hm]

theorem get_join (hk : Keyed o) : ∀ (b a : List α), Rise o a → Rise o b → ∀ n, get o (join o nw a b) n = comb nw (get o a n) (get o b n)
  | [], a, _, _, n => by rw [get_nil, comb_none]; rfl
  | m :: r, a, ha, hb, n => by
    have ih := get_join hk r (hear o nw a m) (hear_rise o nw hk a m ha) (List.Pairwise.of_cons hb) n
    show get o (join o nw (hear o nw a m) r) n = _
    rw [ih, get_hear o nw hk a m ha n]
    by_cases hm : o m n = 0
    · rw [if_pos hm, get_cons_eq o m r hm, get_none o (ms := r) (fun z hz e => rise_head o hk hb z hz (hk.eqt e (hk.symm hm))), comb_none]
    · rw [if_neg hm, get_cons_ne o m r hm]

theorem join_comm (hk : Keyed o) (hn : Newest o nw) {a b : List α} (ha : Rise o a) (hb : Rise o b) : join o nw a b = join o nw b a :=
  rise_ext o hk (join_rise o nw hk b a ha) (join_rise o nw hk a b hb) fun n => by
    rw [get_join o nw hk b a ha hb, get_join o nw hk a b hb ha]
    exact comb_comm o nw hk hn (n := n) (fun z h => get_key o h) (fun z h => get_key o h)
theorem join_assoc (hk : Keyed o) (hn : Newest o nw) {a b c : List α} (ha : Rise o a) (hb : Rise o b) (hc : Rise o c) : join o nw (join o nw a b) c = join o nw a (join o nw b c) :=
  rise_ext o hk (join_rise o nw hk c _ (join_rise o nw hk b a ha)) (join_rise o nw hk _ a ha) fun n => by
    rw [get_join o nw hk c _ (join_rise o nw hk b a ha) hc, get_join o nw hk b a ha hb, get_join o nw hk _ a ha (join_rise o nw hk c b hb), get_join o nw hk c b hb hc]
    exact comb_assoc o nw hk hn (n := n) (fun z h => get_key o h) (fun z h => get_key o h) (fun z h => get_key o h)
theorem join_absorb (hk : Keyed o) (hn : Newest o nw) {a b : List α} (ha : Rise o a) (hb : Rise o b) : join o nw (join o nw a b) a = join o nw a b :=
  rise_ext o hk (join_rise o nw hk a _ (join_rise o nw hk b a ha)) (join_rise o nw hk b a ha) fun n => by
    rw [get_join o nw hk a _ (join_rise o nw hk b a ha) ha, get_join o nw hk b a ha hb]
    rw [comb_comm o nw hk hn (n := n) (x := get o a n) (fun z h => get_key o h) (fun z h => get_key o h)]
    rw [comb_assoc o nw hk hn (n := n) (fun z h => get_key o h) (fun z h => get_key o h) (fun z h => get_key o h)]
    congr 1
    cases h : get o a n with
    | none => rfl
    | some x => simp [comb, mx_self]

/-- What has been put behind k of the elements: m at p, those from q on behind it. -/
def outL (ms : List α) (m : α) (p q k : Nat) : List α := if k ≤ p then ms.take k else ms.take p ++ m :: (ms.take k).drop q

theorem outL_lo {ms : List α} {m : α} {p q k : Nat} (h : k < p) (hk : k < ms.length) : outL ms m p q (k + 1) = outL ms m p q k ++ [ms.getD k d] := by
  rw [outL, outL, if_pos (by omega), if_pos (by omega), List.take_succ_eq_append_getElem hk, getD_el d hk]
theorem outL_eq {ms : List α} {m : α} {p : Nat} : outL ms m p (p + 1) (p + 1) = outL ms m p (p + 1) p ++ [m] := by
  rw [outL, outL, if_neg (by omega), if_pos (by omega), List.drop_of_length_le (by simp; omega)]
theorem outL_ne {ms : List α} {m : α} {p : Nat} (hp : p < ms.length) : outL ms m p p (p + 1) = (outL ms m p p p ++ [m]) ++ [ms.getD p d] := by
  rw [outL, outL, if_neg (by omega), if_pos (by omega), List.take_succ_eq_append_getElem hp, List.drop_append_of_le_length (by simp; omega), List.drop_of_length_le (by simp; omega), getD_el d hp]
  simp
theorem outL_hi {ms : List α} {m : α} {p q k : Nat} (h : p < k) (hq : q ≤ k) (hk : k < ms.length) : outL ms m p q (k + 1) = outL ms m p q k ++ [ms.getD k d] := by
  rw [outL, outL, if_neg (by omega), if_neg (by omega), List.take_succ_eq_append_getElem hk, List.drop_append_of_le_length (by simp; omega), getD_el d hk]
  simp
theorem outL_len {ms : List α} {m : α} {p q k : Nat} : (outL ms m p q k).length ≤ 1 + ms.length + ms.length := by
  unfold outL; split <;> simp <;> omega

/-- m in the place of the one of its key. -/
def put (ms : List α) (m : α) (p : Nat) (f : Bool) : List α := ms.take p ++ m :: ms.drop (if f = true then p + 1 else p)
theorem put_out {ms : List α} {m : α} {p : Nat} {f : Bool} (hp : p < ms.length) : outL ms m p (if f = true then p + 1 else p) ms.length = put ms m p f := by
  rw [outL, if_neg (by omega), List.take_length, put]
theorem put_last {ms : List α} {m : α} {p q : Nat} (hp : p = ms.length) : outL ms m p q ms.length ++ [m] = put ms m p false := by
  subst hp
  rw [outL, if_pos (Nat.le_refl _), put]
  simp
theorem hear_put {ms : List α} {m : α} {p : Nat} {f : Bool} (h : At o d ms m p f) (hn : f = true → nw m (ms.getD p d) = true) : hear o nw ms m = put ms m p f := by
  rw [hear_at o nw d ms m p f h, put]
  cases f
  · simp
  · rw [if_pos rfl, if_pos (hn rfl), if_pos rfl, List.set_eq_take_append_cons_drop, if_pos (h.is.1 rfl).1]
theorem put_len {ms : List α} {m : α} {p : Nat} {f : Bool} (h : At o d ms m p f) : (put ms m p f).length = if f = true then ms.length else ms.length + 1 := by
  have h1 := h.le
  cases f
  · simp [put]; omega
  · have := (h.is.1 rfl).1
    simp [put]; omega

end
end RL
end Go.Proofs.YtogmkdhljifbpaaDoor

