
/- Where a name is among members: the library's binary search. -/
import Derived.Test.YtonbaiaoelegaacC
import Derived.Lib.Bytealg
namespace Go.Proofs.Ytonbaiaoelegaac
open Go.RowKit

def cmpI (a b : ByteArray) : Int := Lib.compareBytes a.data.toList b.data.toList

theorem cmpstring_run (a b : ByteArray) (w : World) : (callFunc 79 #[.string a, .string b]).run Try.prog w = .ok (.value (.int .i64 (cmpI a b))) w := by
  rw [run_callFunc_extern Try.func79 (by kernel_rfl) (by kernel_rfl) (by kernel_rfl) (e := Extern.BytealgCompare.compare) (by kernel_rfl), Lib.run_compareString]
  rfl

set_option maxHeartbeats 400000 in
theorem compare_any (a b : ByteArray) (w : World) :
    Calls Try.prog 59 #[.string a, .string b] w fun e w' => e = .returned (.int .i64 (cmpI a b)) ∧ w' = w := by
  have hc := cmpstring_run
  go_enter Try.func59, Try.ntmps59
  go_wp2
  go_ret
  exact ⟨rfl, rfl⟩

set_option maxHeartbeats 400000 in
theorem byName_any (nm : ByteArray) (st lf ad : Int) (sv : Bool) (t : ByteArray) (w : World) :
    Calls Try.prog 58 #[.agg #[.string nm, .int .i64 st, .int .i64 lf, .int .i64 ad, .bool sv], .string t] w fun e w' => e = .returned (.int .i64 (cmpI nm t)) ∧ w' = w.alloc (.cells #[.string nm, .int .i64 st, .int .i64 lf, .int .i64 ad, .bool sv] 24) := by
  go_enter Try.func58, Try.ntmps58
  go_wp2_with (go_at_call 59; refine (compare_any _ _ _).mono ?_; rintro e w' ⟨rfl, rfl⟩)
  go_ret
  exact ⟨rfl, rfl⟩

set_option maxHeartbeats 800000 in
theorem search_row (ms : List Mem) (b off cap : Nat) (t : ByteArray) (w : World) (hr : Row w b off ms) (hb : b < w.heap.size) (hn : ms.length ≤ 40)
    (hmono : ∀ i j, i ≤ j → j < ms.length → cmpI (ms.getD j dm).name t < 0 → cmpI (ms.getD i dm).name t < 0) :
    Calls Try.prog 60 #[.slice (some ⟨b, off, none⟩) ms.length cap, .string t, .func (.func 58) #[] #[]] w fun e w' => ∃ (p : Nat) (f : Bool), e = .returned (.tuple #[.int .i64 p, .bool f]) ∧ Below w.heap.size w w' ∧
      p ≤ ms.length ∧ (∀ j, j < p → cmpI (ms.getD j dm).name t < 0) ∧ (∀ j, p ≤ j → j < ms.length → 0 ≤ cmpI (ms.getD j dm).name t) ∧ (f = true ↔ p < ms.length ∧ cmpI (ms.getD p dm).name t = 0) := by
  have HR : Hid (Row w b off ms) := hr
  clear hr
  have HM : Hid (∀ i j, i ≤ j → j < ms.length → cmpI (ms.getD j dm).name t < 0 → cmpI (ms.getD i dm).name t < 0) := hmono
  clear hmono
  generalize hN : ms.length = n at *
  have HN : Hid (ms.length = n) := hN
  clear hN
  go_enter Try.func60, Try.ntmps60
  go_wp2_with fail
  go_loopw [9, 10] (fun i j w' => ∃ k l : Nat, k ≤ l ∧ l ≤ n ∧ i = .int .i64 k ∧ j = .int .i64 l ∧ Below w.heap.size w w' ∧ Hid (∀ j, j < k → cmpI (ms.getD j dm).name t < 0) ∧ Hid (∀ j, l ≤ j → j < n → 0 ≤ cmpI (ms.getD j dm).name t)) (fun i j _ => (intOf j).toNat - (intOf i).toNat)
  case atStart => exact ⟨0, n, Nat.zero_le _, Nat.le_refl _, rfl, rfl, Below.refl _ _, fun j h => absurd h (Nat.not_lt_zero _), fun j h1 h2 => by omega⟩
  case round =>
    obtain ⟨k, l, hkl, hln, rfl, rfl, hbl, hlo, hhi⟩ := hrel
    obtain ⟨hbc, hbf⟩ := bcell hbl
    have hsz := hbl.size
    by_cases hlt : k < l
    · obtain ⟨h, hh, h1, h2⟩ : ∃ h : Nat, ((k : Int) + (l : Int)) / 2 = (h : Int) ∧ k ≤ h ∧ h < l := ⟨(k + l) / 2, by omega, by omega, by omega⟩
      obtain ⟨c0, c1, c2, c3, c4⟩ := HR.out h (by rw [HN.out]; omega)
      have hm1 := HM.out
      have HK : Hid (cmpI (ms.getD h dm).name t < 0 → ∀ j, j < h + 1 → cmpI (ms.getD j dm).name t < 0) := fun hx j hj => hm1 j h (by omega) (by omega) hx
      have HL : Hid (0 ≤ cmpI (ms.getD h dm).name t → ∀ j, h ≤ j → j < n → 0 ≤ cmpI (ms.getD j dm).name t) := fun hx j hj hjn => by
        apply Int.not_lt.1
        intro hq
        have := hm1 h j hj hjn hq
        omega
      clear hm1
      generalize ms.getD h dm = m at *
      obtain ⟨nm, st, lf, ad, sv⟩ := m
      simp only at c0 c1 c2 c3 c4
      by_cases hlt2 : cmpI nm t < 0
      · go_wp2_with (go_at_call 58; refine (byName_any _ _ _ _ _ _ _).mono ?_; rintro e w' ⟨rfl, rfl⟩)
        exact ⟨⟨h + 1, l, by omega, by omega, by go_num, rfl, hbl.alloc hsz _, HK.out hlt2, hhi⟩, by simp [intOf]; omega⟩
      · go_wp2_with (go_at_call 58; refine (byName_any _ _ _ _ _ _ _).mono ?_; rintro e w' ⟨rfl, rfl⟩)
        exact ⟨⟨k, h, by omega, by omega, rfl, rfl, hbl.alloc hsz _, hlo, HL.out (by simpa using hlt2)⟩, by simp [intOf]; omega⟩
    · have hkl' : l = k := by omega
      subst hkl'
      by_cases hkn : l < n
      · obtain ⟨c0, c1, c2, c3, c4⟩ := HR.out l (by rw [HN.out]; omega)
        generalize hm : ms.getD l dm = m at *
        have Hm : Hid (ms.getD l dm = m) := hm
        clear hm
        obtain ⟨nm, st, lf, ad, sv⟩ := m
        simp only at c0 c1 c2 c3 c4
        go_wp2_with (go_at_call 58; refine (byName_any _ _ _ _ _ _ _).mono ?_; rintro e w' ⟨rfl, rfl⟩)
        go_ret2
        refine ⟨l, _, rfl, hbl.alloc hsz _, by omega, hlo.out, hhi.out, ?_⟩
        rw [Hm.out]
        simp [hkn]
      · go_wp2_with fail
        go_ret2
        refine ⟨l, _, rfl, hbl, by omega, hlo.out, hhi.out, ?_⟩
        simp [hkn]

set_option maxHeartbeats 800000 in
theorem search_none (a : Option Addr) (cap : Nat) (t : ByteArray) (fv : Value) (w : World) :
    Calls Try.prog 60 #[.slice a 0 cap, .string t, fv] w fun e w' => e = .returned (.tuple #[.int .i64 0, .bool false]) ∧ w' = w := by
  go_enter Try.func60, Try.ntmps60
  go_wp2_with fail
  go_loop [9, 10] (fun i j => i = .int .i64 0 ∧ j = .int .i64 0) (fun _ _ => 0)
  case atStart => exact ⟨rfl, rfl⟩
  case round =>
    obtain ⟨rfl, rfl⟩ := hrel
    go_wp2_with fail
    go_ret2
    exact ⟨rfl, rfl⟩

/-- Where a name is among members that rise by name. -/
structure At (ms : List Mem) (t : ByteArray) (p : Nat) (f : Bool) : Prop where
  le : p ≤ ms.length
  lo : ∀ j, j < p → cmpI (ms.getD j dm).name t < 0
  hi : ∀ j, p ≤ j → j < ms.length → 0 ≤ cmpI (ms.getD j dm).name t
  is : f = true ↔ p < ms.length ∧ cmpI (ms.getD p dm).name t = 0

set_option maxHeartbeats 400000 in
theorem find_any (ms : List Mem) (v : Value) (t : ByteArray) (w : World) (h : Sl w v ms) (hn : ms.length ≤ 40)
    (hmono : ∀ i j, i ≤ j → j < ms.length → cmpI (ms.getD j dm).name t < 0 → cmpI (ms.getD i dm).name t < 0) :
    Calls Try.prog 37 #[v, .string t] w fun e w' => ∃ (p : Nat) (f : Bool), e = .returned (.tuple #[.int .i64 p, .bool f]) ∧ Below w.heap.size w w' ∧ At ms t p f := by
  obtain ⟨a, cap, rfl, hs, h⟩ := h
  rcases h with rfl | ⟨b, off, rfl, hb, hr⟩
  · clear hs hn hmono
    simp only [List.length_nil]
    go_enter Try.func37, Try.ntmps37
    go_wp2_with (go_at_call 60; refine (search_none _ _ _ _ _).mono ?_; rintro e w' ⟨rfl, rfl⟩)
    go_ret2
    exact ⟨0, false, rfl, Below.refl _ _, ⟨by simp, fun j h => by omega, fun j h h2 => by simp at h2, by simp⟩⟩
  · have hc := search_row ms b off cap t w hr hb hn hmono
    clear hr hmono hs
    have HC := (show Hid (Calls Try.prog 60 #[.slice (some ⟨b, off, none⟩) ms.length cap, .string t, .func (.func 58) #[] #[]] w fun e w' => ∃ (p : Nat) (f : Bool), e = .returned (.tuple #[.int .i64 p, .bool f]) ∧ Below w.heap.size w w' ∧
      p ≤ ms.length ∧ (∀ j, j < p → cmpI (ms.getD j dm).name t < 0) ∧ (∀ j, p ≤ j → j < ms.length → 0 ≤ cmpI (ms.getD j dm).name t) ∧ (f = true ↔ p < ms.length ∧ cmpI (ms.getD p dm).name t = 0)) from hc)
    clear hc
    go_enter Try.func37, Try.ntmps37
    go_wp2_with (go_at_call 60; refine HC.out.mono ?_; rintro e w' ⟨p, f, rfl, hbl, g1, g2, g3, g4⟩)
    go_ret2
    exact ⟨p, f, rfl, hbl, ⟨g1, g2, g3, g4⟩⟩

end Go.Proofs.Ytonbaiaoelegaac
