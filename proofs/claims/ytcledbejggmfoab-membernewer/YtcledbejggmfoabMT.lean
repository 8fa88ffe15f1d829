/- The law MemberNewer. -/
import Derived.Test.YtcledbejggmfoabMM
import Derived.Test.YtcledbejggmfoabMR
namespace Go.Proofs.Ytcledbejggmfoab
open Go.RowKit

theorem chkTwo_one (a b : Mem) : chkTwo [a] [b] = if a.e = 0 then b.e else a.e := by rw [chkTwo, chk_one, chk_one]

set_option maxHeartbeats 1000000 in
set_option maxRecDepth 100000 in
theorem memberNewer_bad1 (a b : Mem) (w : World) (ha : a.name.size ≤ maxLen) (hb : b.name.size ≤ maxLen) (h1 : a.e ≠ 0) :
    Calls Try.prog 4 #[.agg #[.string a.name, .int .i64 a.state, .int .i64 a.life, .int .i64 a.addr, .bool a.server], .agg #[.string b.name, .int .i64 b.state, .int .i64 b.life, .int .i64 b.addr, .bool b.server]] w fun e w' => e = .returned (.bool true) ∧ Below w.heap.size w w' := by
  have hb0 : Below w.heap.size w ((w.alloc (.cells #[.string a.name, .int .i64 a.state, .int .i64 a.life, .int .i64 a.addr, .bool a.server] 28)).alloc (.cells #[.string b.name, .int .i64 b.state, .int .i64 b.life, .int .i64 b.addr, .bool b.server] 28)) := ((Below.refl _ _).alloc (Nat.le_refl _) _).alloc (by simp) _
  have he : (oneE a.name a.state a.life a.addr == 0) = false := by have h : ¬ oneE a.name a.state a.life a.addr = 0 := h1; simpa using h
  have HE : Hid (newE a b = oneE a.name a.state a.life a.addr) := by
    have h : chkTwo [a] [b] = a.e := by rw [chkTwo_one, if_neg h1]
    show newE a b = a.e
    rw [newE, if_neg (by rw [h]; exact h1), h]
  have hne : (newE a b == 0) = false := by rw [HE.out]; exact he
  clear h1
  go_enter Try.func4, Try.ntmps4
  go_wp2_with fail
  refine (newer2_any a b _ ha hb).mono ?_
  rintro e w1 ⟨rfl, hb1⟩
  have hbc : ∀ k o, k < w.heap.size + 1 + 1 → w1.cell? ⟨k, o, none⟩ = ((w.alloc (.cells #[.string a.name, .int .i64 a.state, .int .i64 a.life, .int .i64 a.addr, .bool a.server] 28)).alloc (.cells #[.string b.name, .int .i64 b.state, .int .i64 b.life, .int .i64 b.addr, .bool b.server] 28)).cell? ⟨k, o, none⟩ := fun k o h => hb1.cell (p := ⟨k, o, none⟩) (by simpa using h)
  have hwl : w.heap.size < w.heap.size + 1 + 1 := by omega
  have hwl2 : w.heap.size + 1 < w.heap.size + 1 + 1 := by omega
  have hs1 : w.heap.size + 1 + 1 ≤ w1.heap.size := by have := hb1.size; simpa using this
  have hwl3 : w.heap.size < w1.heap.size := by omega
  have hwl4 : w.heap.size + 1 < w1.heap.size := by omega
  have hwl5 : w.heap.size < w1.heap.size + 1 := by omega
  have hwl6 : w.heap.size + 1 < w1.heap.size + 1 := by omega
  have HB1 : Hid (Below w.heap.size w w1) := hb0.trans (hb1.mono (by simp; omega))
  clear hb0 hb1
  go_wp2_with fail
  refine (oneMember_any _ _ _ _ _ _ ha).mono ?_
  rintro e w2 ⟨rfl, rfl⟩
  rw [HE.out]
  clear hne
  go_wp2_with fail
  refine (begun_any _).mono ?_
  rintro e w4 ⟨rfl, hb4⟩
  go_wp2_with fail
  go_ret
  exact ⟨rfl, (HB1.out.alloc (by omega) _).trans (hb4.mono (by simp; omega))⟩

set_option maxHeartbeats 1000000 in
set_option maxRecDepth 100000 in
theorem memberNewer_bad2 (a b : Mem) (w : World) (ha : a.name.size ≤ maxLen) (hb : b.name.size ≤ maxLen) (h1 : a.e = 0) (h2 : b.e ≠ 0) :
    Calls Try.prog 4 #[.agg #[.string a.name, .int .i64 a.state, .int .i64 a.life, .int .i64 a.addr, .bool a.server], .agg #[.string b.name, .int .i64 b.state, .int .i64 b.life, .int .i64 b.addr, .bool b.server]] w fun e w' => e = .returned (.bool true) ∧ Below w.heap.size w w' := by
  have hb0 : Below w.heap.size w ((w.alloc (.cells #[.string a.name, .int .i64 a.state, .int .i64 a.life, .int .i64 a.addr, .bool a.server] 28)).alloc (.cells #[.string b.name, .int .i64 b.state, .int .i64 b.life, .int .i64 b.addr, .bool b.server] 28)) := ((Below.refl _ _).alloc (Nat.le_refl _) _).alloc (by simp) _
  have he : (oneE a.name a.state a.life a.addr == 0) = true := by have h : oneE a.name a.state a.life a.addr = 0 := h1; simpa using h
  have he2 : (oneE b.name b.state b.life b.addr == 0) = false := by have h : ¬ oneE b.name b.state b.life b.addr = 0 := h2; simpa using h
  have HE : Hid (newE a b = oneE b.name b.state b.life b.addr) := by
    have h : chkTwo [a] [b] = b.e := by rw [chkTwo_one, if_pos h1]
    show newE a b = b.e
    rw [newE, if_neg (by rw [h]; exact h2), h]
  clear h1 h2
  go_enter Try.func4, Try.ntmps4
  go_wp2_with fail
  refine (newer2_any a b _ ha hb).mono ?_
  rintro e w1 ⟨rfl, hb1⟩
  have hbc : ∀ k o, k < w.heap.size + 1 + 1 → w1.cell? ⟨k, o, none⟩ = ((w.alloc (.cells #[.string a.name, .int .i64 a.state, .int .i64 a.life, .int .i64 a.addr, .bool a.server] 28)).alloc (.cells #[.string b.name, .int .i64 b.state, .int .i64 b.life, .int .i64 b.addr, .bool b.server] 28)).cell? ⟨k, o, none⟩ := fun k o h => hb1.cell (p := ⟨k, o, none⟩) (by simpa using h)
  have hwl : w.heap.size < w.heap.size + 1 + 1 := by omega
  have hwl2 : w.heap.size + 1 < w.heap.size + 1 + 1 := by omega
  have hs1 : w.heap.size + 1 + 1 ≤ w1.heap.size := by have := hb1.size; simpa using this
  have hwl3 : w.heap.size < w1.heap.size := by omega
  have hwl4 : w.heap.size + 1 < w1.heap.size := by omega
  have hwl5 : w.heap.size < w1.heap.size + 1 := by omega
  have hwl6 : w.heap.size + 1 < w1.heap.size + 1 := by omega
  have HB1 : Hid (Below w.heap.size w w1) := hb0.trans (hb1.mono (by simp; omega))
  clear hb0 hb1
  rw [HE.out]
  go_wp2_with fail
  refine (oneMember_any _ _ _ _ _ _ ha).mono ?_
  rintro e w2 ⟨rfl, rfl⟩
  go_wp2_with fail
  refine (oneMember_any _ _ _ _ _ _ hb).mono ?_
  rintro e w2 ⟨rfl, rfl⟩
  go_wp2_with fail
  refine (begun_any _).mono ?_
  rintro e w4 ⟨rfl, hb4⟩
  go_wp2_with fail
  go_ret
  exact ⟨rfl, ((HB1.out.alloc (by omega) _).alloc (by simp; omega) _).trans (hb4.mono (by simp; omega))⟩

set_option maxHeartbeats 1000000 in
set_option maxRecDepth 100000 in
theorem memberNewer_form (a b : Mem) (w : World) (ha : a.name.size ≤ maxLen) (hb : b.name.size ≤ maxLen) (h1 : a.e = 0) (h2 : b.e = 0) (hnm : a.name ≠ b.name) :
    Calls Try.prog 4 #[.agg #[.string a.name, .int .i64 a.state, .int .i64 a.life, .int .i64 a.addr, .bool a.server], .agg #[.string b.name, .int .i64 b.state, .int .i64 b.life, .int .i64 b.addr, .bool b.server]] w fun e w' => e = .returned (.bool true) ∧ Below w.heap.size w w' := by
  have hb0 : Below w.heap.size w ((w.alloc (.cells #[.string a.name, .int .i64 a.state, .int .i64 a.life, .int .i64 a.addr, .bool a.server] 28)).alloc (.cells #[.string b.name, .int .i64 b.state, .int .i64 b.life, .int .i64 b.addr, .bool b.server] 28)) := ((Below.refl _ _).alloc (Nat.le_refl _) _).alloc (by simp) _
  have he : (oneE a.name a.state a.life a.addr == 0) = true := by have h : oneE a.name a.state a.life a.addr = 0 := h1; simpa using h
  have he2 : (oneE b.name b.state b.life b.addr == 0) = true := by have h : oneE b.name b.state b.life b.addr = 0 := h2; simpa using h
  have HE : Hid (newE a b = 1) := by
    have h : chkTwo [a] [b] = 0 := by rw [chkTwo_one, if_pos h1]; exact h2
    show newE a b = 1
    rw [newE, if_pos h, if_neg hnm]
  obtain ⟨hn1, hn2⟩ := beq_name hnm
  clear h1 h2 hnm
  go_enter Try.func4, Try.ntmps4
  go_wp2_with fail
  refine (newer2_any a b _ ha hb).mono ?_
  rintro e w1 ⟨rfl, hb1⟩
  have hbc : ∀ k o, k < w.heap.size + 1 + 1 → w1.cell? ⟨k, o, none⟩ = ((w.alloc (.cells #[.string a.name, .int .i64 a.state, .int .i64 a.life, .int .i64 a.addr, .bool a.server] 28)).alloc (.cells #[.string b.name, .int .i64 b.state, .int .i64 b.life, .int .i64 b.addr, .bool b.server] 28)).cell? ⟨k, o, none⟩ := fun k o h => hb1.cell (p := ⟨k, o, none⟩) (by simpa using h)
  have hwl : w.heap.size < w.heap.size + 1 + 1 := by omega
  have hwl2 : w.heap.size + 1 < w.heap.size + 1 + 1 := by omega
  have hs1 : w.heap.size + 1 + 1 ≤ w1.heap.size := by have := hb1.size; simpa using this
  have hwl3 : w.heap.size < w1.heap.size := by omega
  have hwl4 : w.heap.size + 1 < w1.heap.size := by omega
  have hwl5 : w.heap.size < w1.heap.size + 1 := by omega
  have hwl6 : w.heap.size + 1 < w1.heap.size + 1 := by omega
  have HB1 : Hid (Below w.heap.size w w1) := hb0.trans (hb1.mono (by simp; omega))
  clear hb0 hb1
  rw [HE.out]
  go_wp2_with fail
  refine (oneMember_any _ _ _ _ _ _ ha).mono ?_
  rintro e w2 ⟨rfl, rfl⟩
  go_wp2_with fail
  refine (oneMember_any _ _ _ _ _ _ hb).mono ?_
  rintro e w2 ⟨rfl, rfl⟩
  go_wp2_with fail
  refine (begun_any _).mono ?_
  rintro e w4 ⟨rfl, hb4⟩
  go_wp2_with fail
  go_ret
  exact ⟨rfl, ((HB1.out.alloc (by omega) _).alloc (by simp; omega) _).trans (hb4.mono (by simp; omega))⟩

set_option maxHeartbeats 1000000 in
set_option maxRecDepth 100000 in
theorem memberNewer_good (na : ByteArray) (sa la aa : Int) (va : Bool) (sb lb ab : Int) (vb : Bool) (w : World) (ha : na.size ≤ maxLen) (h1 : oneE na sa la aa = 0) (h2 : oneE na sb lb ab = 0) :
    Calls Try.prog 4 #[.agg #[.string na, .int .i64 sa, .int .i64 la, .int .i64 aa, .bool va], .agg #[.string na, .int .i64 sb, .int .i64 lb, .int .i64 ab, .bool vb]] w fun e w' => e = .returned (.bool true) ∧ Below w.heap.size w w' := by
  have hb0 : Below w.heap.size w ((w.alloc (.cells #[.string na, .int .i64 sa, .int .i64 la, .int .i64 aa, .bool va] 28)).alloc (.cells #[.string na, .int .i64 sb, .int .i64 lb, .int .i64 ab, .bool vb] 28)) := ((Below.refl _ _).alloc (Nat.le_refl _) _).alloc (by simp) _
  have he : (oneE na sa la aa == 0) = true := by simpa using h1
  have he2 : (oneE na sb lb ab == 0) = true := by simpa using h2
  have h0 : chkTwo [Mem.mk na sa la aa va] [Mem.mk na sb lb ab vb] = 0 := (chkTwo_one _ _).trans ((if_pos (show (Mem.mk na sa la aa va).e = 0 from h1)).trans h2)
  have he3 : ((0 : Int) == oneE na sb lb ab) = true := by simpa using h2.symm
  have HC : Hid (chkTwo [Mem.mk na sa la aa va] [Mem.mk na sb lb ab vb] = 0) := h0
  clear h1 h2 h0
  go_enter Try.func4, Try.ntmps4
  go_wp2_with fail
  refine (newer2_same na sa la aa va sb lb ab vb _ ha HC.out).mono ?_
  rintro e w1 ⟨rfl, hb1⟩
  have hbc : ∀ k o, k < w.heap.size + 1 + 1 → w1.cell? ⟨k, o, none⟩ = ((w.alloc (.cells #[.string na, .int .i64 sa, .int .i64 la, .int .i64 aa, .bool va] 28)).alloc (.cells #[.string na, .int .i64 sb, .int .i64 lb, .int .i64 ab, .bool vb] 28)).cell? ⟨k, o, none⟩ := fun k o h => hb1.cell (p := ⟨k, o, none⟩) (by simpa using h)
  have hwl : w.heap.size < w.heap.size + 1 + 1 := by omega
  have hwl2 : w.heap.size + 1 < w.heap.size + 1 + 1 := by omega
  have hs1 : w.heap.size + 1 + 1 ≤ w1.heap.size := by have := hb1.size; simpa using this
  have hwl3 : w.heap.size < w1.heap.size := by omega
  have hwl4 : w.heap.size + 1 < w1.heap.size := by omega
  have hwl5 : w.heap.size < w1.heap.size + 1 := by omega
  have hwl6 : w.heap.size + 1 < w1.heap.size + 1 := by omega
  have HB1 : Hid (Below w.heap.size w w1) := hb0.trans (hb1.mono (by simp; omega))
  clear hb0 hb1
  go_wp2_with fail
  refine (oneMember_any _ _ _ _ _ _ ha).mono ?_
  rintro e w2 ⟨rfl, rfl⟩
  go_wp2_with fail
  refine (oneMember_any _ _ _ _ _ _ ha).mono ?_
  rintro e w2 ⟨rfl, rfl⟩
  go_wp2_with fail
  refine (begun_any _).mono ?_
  rintro e w4 ⟨rfl, hb4⟩
  have hbc4 : ∀ k o, k < w1.heap.size + 1 + 1 → w4.cell? ⟨k, o, none⟩ = ((w1.alloc (.cells #[.string na, .int .i64 sa, .int .i64 la, .int .i64 aa, .bool va] 28)).alloc (.cells #[.string na, .int .i64 sb, .int .i64 lb, .int .i64 ab, .bool vb] 28)).cell? ⟨k, o, none⟩ := fun k o h => hb4.cell (p := ⟨k, o, none⟩) (by simpa using h)
  have hwl7 : w.heap.size < w1.heap.size + 1 + 1 := by omega
  have hwl8 : w.heap.size + 1 < w1.heap.size + 1 + 1 := by omega
  have HB4 : Hid (Below w.heap.size w w4) := ((HB1.out.alloc (by omega) _).alloc (by simp; omega) _).trans (hb4.mono (by simp; omega))
  have hs4 : w1.heap.size + 1 + 1 ≤ w4.heap.size := by have := hb4.size; simpa using this
  clear hb4
  go_wp2_with (go_at_call 14; refine (newerMember_any _ _ _ _ _ _ _ _ _ _ _).mono ?_; rintro e w' ⟨rfl, rfl⟩)
  go_ret
  refine ⟨ret_bool ?_, (HB4.out.alloc (by omega) _).alloc (by simp; omega) _⟩
  simp

theorem memberNewer_walk (a b : Mem) (w : World) (ha : a.name.size ≤ maxLen) (hb : b.name.size ≤ maxLen) :
    Calls Try.prog 4 #[.agg #[.string a.name, .int .i64 a.state, .int .i64 a.life, .int .i64 a.addr, .bool a.server], .agg #[.string b.name, .int .i64 b.state, .int .i64 b.life, .int .i64 b.addr, .bool b.server]] w fun e w' => e = .returned (.bool true) ∧ Below w.heap.size w w' := by
  by_cases h1 : a.e = 0
  · by_cases h2 : b.e = 0
    · by_cases hnm : a.name = b.name
      · obtain ⟨na, sa, la, aa, va⟩ := a
        obtain ⟨nb, sb, lb, ab, vb⟩ := b
        simp only at hnm
        subst hnm
        exact memberNewer_good na sa la aa va sb lb ab vb w ha h1 h2
      · exact memberNewer_form a b w ha hb h1 h2 hnm
    · exact memberNewer_bad2 a b w ha hb h1 h2
  · exact memberNewer_bad1 a b w ha hb h1

end Go.Proofs.Ytcledbejggmfoab
