
/- Lists of members in memory; Check of both. -/
import Derived.Test.YtonbaiaoelegaacB
import Derived.Deep.QuietTactic
import Derived.BigQuiet
namespace Go.Proofs.Ytonbaiaoelegaac
open Go.RowKit

structure Mem where
  name : ByteArray
  state : Int
  life : Int
  addr : Int
  server : Bool

def dm : Mem := ⟨ByteArray.empty, 0, 0, 0, false⟩

def Row (w : World) (b off : Nat) (ms : List Mem) : Prop := ∀ j, j < ms.length →
  w.cell? ⟨b, off + j * 5, none⟩ = some (.string (ms.getD j dm).name) ∧ w.cell? ⟨b, off + j * 5 + 1, none⟩ = some (.int .i64 (ms.getD j dm).state) ∧
  w.cell? ⟨b, off + j * 5 + 2, none⟩ = some (.int .i64 (ms.getD j dm).life) ∧ w.cell? ⟨b, off + j * 5 + 3, none⟩ = some (.int .i64 (ms.getD j dm).addr) ∧
  w.cell? ⟨b, off + j * 5 + 4, none⟩ = some (.bool (ms.getD j dm).server)

def Mem.e (m : Mem) : Int := oneE m.name m.state m.life m.addr

def firstE : List Mem → Int
  | [] => 0
  | m :: r => if m.e = 0 then firstE r else m.e

theorem firstE_zero : ∀ (ms : List Mem), (∀ j, j < ms.length → (ms.getD j dm).e = 0) → firstE ms = 0
  | [], _ => rfl
  | m :: r, h => by
    have h0 := h 0 (by simp)
    simp only [List.getD_cons_zero] at h0
    rw [firstE, if_pos h0]
    exact firstE_zero r fun j hj => by have := h (j + 1) (by simpa using hj); simpa using this

theorem firstE_at : ∀ (ms : List Mem) (k : Nat), k < ms.length → (∀ j, j < k → (ms.getD j dm).e = 0) → (ms.getD k dm).e ≠ 0 → firstE ms = (ms.getD k dm).e
  | [], k, h, _, _ => by simp at h
  | m :: r, 0, _, _, hne => by
    simp only [List.getD_cons_zero] at hne ⊢
    rw [firstE, if_neg hne]
  | m :: r, k + 1, h, hz, hne => by
    have h0 := hz 0 (by omega)
    simp only [List.getD_cons_zero] at h0
    rw [firstE, if_pos h0, List.getD_cons_succ]
    rw [List.getD_cons_succ] at hne
    exact firstE_at r k (by simpa using h) (fun j hj => by have := hz (j + 1) (by omega); simpa using this) hne

def less (a b : ByteArray) : Bool := Op.bytesLess a.toList b.toList

theorem bl_irrefl : ∀ a : List UInt8, Op.bytesLess a a = false
  | [] => rfl
  | x :: r => by simp [Op.bytesLess, bl_irrefl r]

theorem bl_total : ∀ a b : List UInt8, (!(Op.bytesLess a b)) = (Op.bytesLess b a || b == a)
  | [], [] => rfl
  | [], _ :: _ => rfl
  | _ :: _, [] => rfl
  | x :: r, y :: t => by
    have := bl_total r t
    by_cases h1 : x < y
    · have h2 : ¬ y < x := by rw [UInt8.lt_iff_toNat_lt] at *; omega
      have h3 : ¬ y = x := by rintro rfl; rw [UInt8.lt_iff_toNat_lt] at *; omega
      simp [Op.bytesLess, h1, h2, h3]
    · by_cases h2 : y < x
      · have h3 : ¬ y = x := by rintro rfl; rw [UInt8.lt_iff_toNat_lt] at *; omega
        have h4 : ¬ x = y := fun h => h3 h.symm
        simp [Op.bytesLess, h1, h2, h4]
      · have h3 : y = x := by
          apply UInt8.toNat_inj.1
          rw [UInt8.lt_iff_toNat_lt] at *; omega
        subst h3
        simp [Op.bytesLess]
        simpa using this

def risesB : List Mem → Bool
  | a :: b :: r => less a.name b.name && risesB (b :: r)
  | _ => true

theorem rises_all : ∀ (ms : List Mem), (∀ j, j + 1 < ms.length → less (ms.getD j dm).name (ms.getD (j + 1) dm).name = true) → risesB ms = true
  | [], _ => rfl
  | [_], _ => rfl
  | a :: b :: r, h => by
    have h0 := h 0 (by simp)
    simp only [List.getD_cons_zero, List.getD_cons_succ] at h0
    rw [risesB, h0, Bool.true_and]
    exact rises_all (b :: r) fun j hj => by have := h (j + 1) (by simpa using hj); simpa using this

theorem rises_get : ∀ (ms : List Mem), risesB ms = true → ∀ j, j + 1 < ms.length → less (ms.getD j dm).name (ms.getD (j + 1) dm).name = true
  | [], _, j, h => by simp at h
  | [_], _, j, h => by simp at h
  | a :: b :: r, hr, 0, _ => by
    rw [risesB, Bool.and_eq_true] at hr
    simpa using hr.1
  | a :: b :: r, hr, j + 1, h => by
    rw [risesB, Bool.and_eq_true] at hr
    have := rises_get (b :: r) hr.2 j (by simpa using h)
    simpa using this

/-- B1: what Check says. -/
def chk (ms : List Mem) : Int := if 20 < ms.length then 2 else if firstE ms = 0 then (if risesB ms = true then 0 else 4) else firstE ms

theorem chk_e (ms : List Mem) (k : Nat) (hn : ms.length ≤ 20) (hk : k < ms.length) (hz : ∀ j, j < k → (ms.getD j dm).e = 0) (hne : (ms.getD k dm).e ≠ 0) : chk ms = (ms.getD k dm).e := by
  have h := firstE_at ms k hk hz hne
  rw [chk, if_neg (by omega), h, if_neg hne]
theorem chk_4 (ms : List Mem) (k : Nat) (hn : ms.length ≤ 20) (hz : ∀ j, j < ms.length → (ms.getD j dm).e = 0) (hk : k + 1 < ms.length) (hl : less (ms.getD k dm).name (ms.getD (k + 1) dm).name = false) : chk ms = 4 := by
  rw [chk, if_neg (by omega), firstE_zero ms hz, if_pos rfl, if_neg]
  intro h
  have := rises_get ms h k hk
  rw [hl] at this
  cases this
theorem chk_0 (ms : List Mem) (hn : ms.length ≤ 20) (hz : ∀ j, j < ms.length → (ms.getD j dm).e = 0) (hl : ∀ j, j + 1 < ms.length → less (ms.getD j dm).name (ms.getD (j + 1) dm).name = true) : chk ms = 0 := by
  rw [chk, if_neg (by omega), firstE_zero ms hz, if_pos rfl, if_pos (rises_all ms hl)]

set_option maxHeartbeats 800000 in
theorem check_row (ms : List Mem) (b off cap : Nat) (w : World) (hr : Row w b off ms) (hb : b < w.heap.size) (hn : ms.length ≤ 20) (hs : ∀ j, (ms.getD j dm).name.size ≤ maxLen) :
    Calls Try.prog 11 #[.slice (some ⟨b, off, none⟩) ms.length cap] w fun e w' => e = .returned (.int .i64 (chk ms)) ∧ Below w.heap.size w w' := by
  have HR : Hid (Row w b off ms) := hr
  clear hr
  have HE : Hid (∀ k, k < ms.length → (∀ j, j < k → (ms.getD j dm).e = 0) → (ms.getD k dm).e ≠ 0 → chk ms = (ms.getD k dm).e) := fun k h1 h2 h3 => chk_e ms k hn h1 h2 h3
  have H4 : Hid ((∀ j, j < ms.length → (ms.getD j dm).e = 0) → ∀ k, k + 1 < ms.length → less (ms.getD k dm).name (ms.getD (k + 1) dm).name = false → chk ms = 4) := fun h1 k h2 h3 => chk_4 ms k hn h1 h2 h3
  have H0 : Hid ((∀ j, j < ms.length → (ms.getD j dm).e = 0) → (∀ j, j + 1 < ms.length → less (ms.getD j dm).name (ms.getD (j + 1) dm).name = true) → chk ms = 0) := fun h1 h2 => chk_0 ms hn h1 h2
  generalize hN : ms.length = n at *
  have HN : Hid (ms.length = n) := hN
  clear hN
  have HS : Hid (∀ j, (ms.getD j dm).name.size ≤ maxLen) := hs
  clear hs
  generalize hC : chk ms = res at *
  go_enter Try.func11, Try.ntmps11
  go_wp2_with fail
  go_loopw [12] (fun i w' => ∃ k : Nat, k ≤ n ∧ i = .int .i64 k ∧ Below w.heap.size w w' ∧ Hid (∀ j, j < k → (ms.getD j dm).e = 0)) (fun i _ => n - (intOf i).toNat)
  case atStart => exact ⟨0, Nat.zero_le _, rfl, Below.refl _ _, fun j h => absurd h (Nat.not_lt_zero _)⟩
  case round =>
    obtain ⟨k, hk, rfl, hbl, hz⟩ := hrel
    obtain ⟨hbc, hbf⟩ := bcell hbl
    have hsz := hbl.size
    by_cases hlt : k < n
    · obtain ⟨c0, c1, c2, c3, c4⟩ := HR.out k (by rw [HN.out]; exact hlt)
      have hsk := HS.out k
      have HK : Hid ((ms.getD k dm).e ≠ 0 → res = (ms.getD k dm).e) := fun h => HE.out k hlt hz.out h
      have HZ : Hid ((ms.getD k dm).e = 0 → ∀ j, j < k + 1 → (ms.getD j dm).e = 0) := fun h j hj => by
        rcases Nat.lt_succ_iff_lt_or_eq.1 hj with h2 | rfl
        · exact hz.out j h2
        · exact h
      generalize ms.getD k dm = m at *
      obtain ⟨nm, st, lf, ad, sv⟩ := m
      simp only at c0 c1 c2 c3 c4 hsk
      rcases he : decide (oneE nm st lf ad = 0) with _ | _
      · have he' : (oneE nm st lf ad != 0) = true := by simpa using he
        clear he
        go_wp2_with (go_at_call 34; refine (checkOne_any _ _ _ _ _ _ hsk).mono ?_; rintro e w' ⟨rfl, rfl⟩)
        go_ret
        have hne : oneE nm st lf ad ≠ 0 := by simpa using he'
        have hres : res = oneE nm st lf ad := HK.out hne
        exact ⟨ret_int hres.symm, (hbl.alloc hsz _).alloc (by simp; omega) _⟩
      · have he' : (oneE nm st lf ad != 0) = false := by simpa using he
        clear he
        go_wp2_with (go_at_call 34; refine (checkOne_any _ _ _ _ _ _ hsk).mono ?_; rintro e w' ⟨rfl, rfl⟩)
        go_roundw
        case rel =>
          have he0 : oneE nm st lf ad = 0 := by simpa using he'
          exact ⟨k + 1, by omega, by go_num, (hbl.alloc hsz _).alloc (by simp; omega) _, HZ.out he0⟩
        case measure => simp [intOf]; omega
    · have hall : Hid (∀ j, j < n → (ms.getD j dm).e = 0) := fun j hj => hz.out j (by omega)
      clear hz
      go_wp2_with fail
      go_loopw [6] (fun i w' => ∃ k : Nat, (k + 1 ≤ n ∨ k = 0) ∧ i = .int .i64 (k + 1) ∧ Below w.heap.size w w' ∧ Hid (∀ j, j < k → less (ms.getD j dm).name (ms.getD (j + 1) dm).name = true)) (fun i _ => n - (intOf i).toNat)
      case atStart => exact ⟨0, .inr rfl, rfl, hbl, fun j h => absurd h (Nat.not_lt_zero _)⟩
      case round =>
        clear hbc hbf hsz hbl
        obtain ⟨q, hq, rfl, hbl, hz⟩ := hrel
        obtain ⟨hbc, hbf⟩ := bcell hbl
        have hsz := hbl.size
        by_cases hlt : q + 1 < n
        · obtain ⟨c0, _, _, _, _⟩ := HR.out q (by rw [HN.out]; omega)
          obtain ⟨d0, _, _, _, _⟩ := HR.out (q + 1) (by rw [HN.out]; exact hlt)
          have HK : Hid (less (ms.getD q dm).name (ms.getD (q + 1) dm).name = false → res = 4) := fun h => H4.out hall.out q hlt h
          have HZ : Hid (less (ms.getD q dm).name (ms.getD (q + 1) dm).name = true → ∀ j, j < q + 1 → less (ms.getD j dm).name (ms.getD (j + 1) dm).name = true) := fun h j hj => by
            rcases Nat.lt_succ_iff_lt_or_eq.1 hj with h2 | rfl
            · exact hz.out j h2
            · exact h
          generalize ms.getD q dm = m1 at *
          generalize ms.getD (q + 1) dm = m2 at *
          rcases hl : Op.bytesLess m1.name.toList m2.name.toList with _ | _
          · have h4 : res = 4 := HK.out hl
            clear hC
            go_wp2_with fail
            go_quiet (fail)
            go_wp2_with fail
            go_ret
            exact ⟨ret_int h4.symm, below_drewN hbl _⟩
          · go_wp2_with fail
            go_quiet (fail)
            go_wp2_with fail
            go_roundw
            case rel => exact ⟨q + 1, .inl (by omega), by go_num, below_drewN hbl _, HZ.out hl⟩
            case measure => simp [intOf]; omega
        · have h0 : res = 0 := H0.out hall.out fun j hj => hz.out j (by omega)
          clear hC
          go_wp2_with fail
          go_ret
          exact ⟨ret_int h0.symm, hbl⟩

set_option maxHeartbeats 400000 in
theorem check_many (a : Option Addr) (n cap : Nat) (w : World) (hn : 20 < n) :
    Calls Try.prog 11 #[.slice a n cap] w fun e w' => e = .returned (.int .i64 2) ∧ w' = w := by
  go_enter Try.func11, Try.ntmps11
  go_wp2_with fail
  go_ret
  exact ⟨rfl, rfl⟩
set_option maxHeartbeats 400000 in
theorem check_none (a : Option Addr) (cap : Nat) (w : World) :
    Calls Try.prog 11 #[.slice a 0 cap] w fun e w' => e = .returned (.int .i64 0) ∧ w' = w := by
  go_enter Try.func11, Try.ntmps11
  go_wp2_with fail
  go_loop [12] (fun i => i = .int .i64 0) (fun _ => 0)
  case atStart => rfl
  case round =>
    subst hrel
    go_wp2_with fail
    go_loop [6] (fun i => i = .int .i64 1) (fun _ => 0)
    case atStart => rfl
    case round =>
      subst hrel
      go_wp2_with fail
      go_ret
      exact ⟨rfl, rfl⟩
/-- A slice's value, and the members that it holds in a world. -/
def Sl (w : World) (v : Value) (ms : List Mem) : Prop :=
  ∃ (a : Option Addr) (cap : Nat), v = .slice a ms.length cap ∧ (∀ j, (ms.getD j dm).name.size ≤ maxLen) ∧
    (ms = [] ∨ ∃ b off, a = some ⟨b, off, none⟩ ∧ b < w.heap.size ∧ Row w b off ms)

theorem check_any (ms : List Mem) (v : Value) (w : World) (h : Sl w v ms) :
    Calls Try.prog 11 #[v] w fun e w' => e = .returned (.int .i64 (chk ms)) ∧ Below w.heap.size w w' := by
  obtain ⟨a, cap, rfl, hs, h⟩ := h
  by_cases hn : 20 < ms.length
  · refine (check_many a ms.length cap w hn).mono ?_
    rintro e w' ⟨rfl, rfl⟩
    exact ⟨ret_int (by rw [chk, if_pos hn]), Below.refl _ _⟩
  · rcases h with rfl | ⟨b, off, rfl, hb, hr⟩
    · refine (check_none a cap w).mono ?_
      rintro e w' ⟨rfl, rfl⟩
      exact ⟨rfl, Below.refl _ _⟩
    · exact check_row ms b off cap w hr hb (by omega) hs

end Go.Proofs.Ytonbaiaoelegaac
