/- FW, FX, GL -/
import Derived.Test.YtogmkdhljifbpaaDoorX7
import Derived.Test.YtogmkdhljifbpaaDoorX3
import Derived.Deep.RegionHeld3
import Derived.StillTactics
import Derived.Test.YtogmkdhljifbpaaDoorX12
import Derived.Test.YtogmkdhljifbpaaDoorX16
import Derived.Lib.SmallJoins
/- The document's CheckRecord, CheckMessage. -/
namespace Go.Proofs.YtogmkdhljifbpaaDoor
open Go.RowKit

set_option maxHeartbeats 800000 in
theorem isType_any (n : Int) (w : World) :
    Calls Tryd.prog 33 #[.int .i64 n] w fun e w' => e = .returned (.bool (typB n)) ∧ w' = w := by
  go_enter Tryd.func33, Tryd.ntmps33
  go_wp2
  all_goals
    go_ret
    exact ⟨ret_bool (by rw [Bool.eq_iff_iff]; simp [typB]; try omega), rfl⟩

set_option maxHeartbeats 1600000 in
set_option maxRecDepth 100000 in
theorem refRec_any (r : Rc.Rec) (w : World) (h1 : r.name.size ≤ 2000000) (h2 : r.target.size ≤ 2000000) :
    Calls Tryd.prog 34 #[recV r] w fun e w' => e = .returned (.int .i64 (chkRec r)) ∧ Below w.heap.size w w' := by
  have HN : Hid (∀ W, Calls Tryd.prog 11 #[.string r.name] W fun e w' => e = .returned (.int .i64 (chkN r.name)) ∧ Below W.heap.size W w') := fun W => rCheckName_any _ _ h1
  have HT : Hid (∀ W, Calls Tryd.prog 11 #[.string r.target] W fun e w' => e = .returned (.int .i64 (chkN r.target)) ∧ Below W.heap.size W w') := fun W => rCheckName_any _ _ h2
  generalize hE : chkRec r = E
  unfold chkRec at hE
  clear h1 h2
  go_enter Tryd.func34, Tryd.ntmps34
  go_wp2_with fail
  have hg0 : (w.alloc (.cells #[.string r.name, .int .i64 r.typ, .int .i64 r.lasts, .int .i64 r.addr, .string r.text, .int .i64 r.port, .string r.target] 54)).heap[w.heap.size]? = some (.cells #[.string r.name, .int .i64 r.typ, .int .i64 r.lasts, .int .i64 r.addr, .string r.text, .int .i64 r.port, .string r.target] 54 (0, 0)) := heap_alloc_new w _
  refine (HN.out _).mono ?_
  rintro e w1 ⟨rfl, hb1⟩
  have hg1 := (hb1.block w.heap.size (by simp)).trans hg0
  have HB1 : Hid (Below w.heap.size w w1) := ((Below.refl _ _).alloc (Nat.le_refl _) _).trans (hb1.mono (by simp))
  clear hg0 hb1
  by_cases h1 : chkN r.name = 0
  · rw [if_neg (by simpa using h1)] at hE
    rw [h1]
    have f1 : w1.cell? ⟨w.heap.size, 1, none⟩ = some (.int .i64 r.typ) := cellsAt hg1 1
    have f2 : w1.cell? ⟨w.heap.size, 2, none⟩ = some (.int .i64 r.lasts) := cellsAt hg1 2
    have f3 : w1.cell? ⟨w.heap.size, 3, none⟩ = some (.int .i64 r.addr) := cellsAt hg1 3
    have f4 : w1.cell? ⟨w.heap.size, 4, none⟩ = some (.string r.text) := cellsAt hg1 4
    have f5 : w1.cell? ⟨w.heap.size, 5, none⟩ = some (.int .i64 r.port) := cellsAt hg1 5
    have f6 : w1.cell? ⟨w.heap.size, 6, none⟩ = some (.string r.target) := cellsAt hg1 6
    go_wp2_with fail
    refine (isType_any _ _).mono ?_
    rintro e w2 ⟨rfl, hw2⟩
    subst hw2
    by_cases h2 : typB r.typ = false
    · rw [if_pos h2] at hE
      subst hE
      rw [h2]
      go_wp2_with fail
      go_ret
      exact ⟨rfl, HB1.out⟩
    rw [if_neg h2] at hE
    rw [show typB r.typ = true by simpa using h2]
    go_wp2_with fail
    refine (between_any _ _ _ _).mono ?_
    rintro e w3 ⟨rfl, hw3⟩
    subst hw3
    by_cases h3 : within r.lasts 0 2147483647 = false
    · rw [if_pos h3] at hE
      subst hE
      rw [h3]
      go_wp2_with fail
      go_ret
      exact ⟨rfl, HB1.out⟩
    rw [if_neg h3] at hE
    rw [show within r.lasts 0 2147483647 = true by simpa using h3]
    have htt : r.typ = 1 ∨ r.typ = 16 ∨ r.typ = 33 := by
      have h : typB r.typ = true := by simpa using h2
      simp only [typB, Bool.or_eq_true, decide_eq_true_eq, or_assoc] at h
      exact h
    rcases htt with ht | ht | ht
    · have t1 : (r.typ != 1) = false := by rw [ht]; rfl
      have t16 : (r.typ != 16) = true := by rw [ht]; rfl
      have t33 : (r.typ != 33) = true := by rw [ht]; rfl
      have Ht : Hid (r.typ = 1) := ht
      clear ht
      by_cases htext : r.text.size = 0
      case neg =>
        have ztext : r.text.toList.isEmpty = false := by have := (nempty htext).2; simpa using this
        have ytext := (nempty htext).2
        have xtext := (nempty htext).1
        have hown : ownB r = false := by simp [ownB, Ht.out, htext]
        rw [if_pos hown] at hE
        subst hE
        go_wp2_with fail
        go_ret
        exact ⟨rfl, HB1.out⟩
      have ztext : r.text.toList.isEmpty = true := by rw [isempty htext, Lib.toList_data]; rfl
      have Htext : Hid (r.text.size = 0) := htext
      clear htext
      by_cases hport : r.port = 0
      case neg =>
        have zport : (r.port != 0) = true := by simpa using hport
        have hown : ownB r = false := by simp [ownB, Ht.out, Htext.out, hport]
        rw [if_pos hown] at hE
        subst hE
        go_wp2_with fail
        go_ret
        exact ⟨rfl, HB1.out⟩
      have zport : (r.port != 0) = false := by simpa using hport
      have Hport : Hid (r.port = 0) := hport
      clear hport
      by_cases htarget : r.target.size = 0
      case neg =>
        have ztarget : r.target.toList.isEmpty = false := by have := (nempty htarget).2; simpa using this
        have ytarget := (nempty htarget).2
        have xtarget := (nempty htarget).1
        have hown : ownB r = false := by simp [ownB, Ht.out, Htext.out, Hport.out, htarget]
        rw [if_pos hown] at hE
        subst hE
        go_wp2_with fail
        go_ret
        exact ⟨rfl, HB1.out⟩
      have ztarget : r.target.toList.isEmpty = true := by rw [isempty htarget, Lib.toList_data]; rfl
      have Htarget : Hid (r.target.size = 0) := htarget
      clear htarget
      have hown : ownB r = true := by simp [ownB, Ht.out, Htext.out, Hport.out, Htarget.out]
      rw [if_neg (by rw [hown]; simp)] at hE
      go_wp2_with fail
      refine (isAddress_any _ _).mono ?_
      rintro e w4 ⟨rfl, hw4⟩
      subst hw4
      by_cases h5 : within r.addr 0 4294967295 = false
      · rw [if_pos (by rw [h5]; rfl)] at hE
        subst hE
        rw [h5]
        go_wp2_with fail
        go_ret
        exact ⟨rfl, HB1.out⟩
      have h5t : within r.addr 0 4294967295 = true := by simpa using h5
      rw [h5t] at hE ⊢
      rw [Bool.true_and] at hE
      go_wp2_with fail
      refine (between_any _ _ _ _).mono ?_
      rintro e w5 ⟨rfl, hw5⟩
      subst hw5
      by_cases h6 : within r.port 0 65535 = false
      · rw [if_pos h6] at hE
        subst hE
        rw [h6]
        go_wp2_with fail
        go_ret
        exact ⟨rfl, HB1.out⟩
      rw [if_neg h6] at hE
      rw [show within r.port 0 65535 = true by simpa using h6]
      by_cases h7 : 200 < r.text.size
      · rw [if_pos h7] at hE
        subst hE
        have h8 : decide (200 < (r.text.size : Int)) = true := by simp; omega
        go_wp2_with fail
        go_ret
        exact ⟨rfl, HB1.out⟩
      rw [if_neg h7] at hE
      have h8 : decide (200 < (r.text.size : Int)) = false := by simp; omega
      go_wp2_with fail
      refine (HT.out _).mono ?_
      rintro e w6 ⟨rfl, hb6⟩
      have HB6 : Hid (Below w.heap.size w w6) := HB1.out.trans (hb6.mono HB1.out.size)
      clear hb6
      subst hE
      go_wp2_with fail
      go_ret
      exact ⟨rfl, HB6.out⟩
    · have t1 : (r.typ != 1) = true := by rw [ht]; rfl
      have t16 : (r.typ != 16) = false := by rw [ht]; rfl
      have t33 : (r.typ != 33) = true := by rw [ht]; rfl
      have Ht : Hid (r.typ = 16) := ht
      clear ht
      by_cases haddr : r.addr = 0
      case neg =>
        have zaddr : (r.addr != 0) = true := by simpa using haddr
        have hown : ownB r = false := by simp [ownB, Ht.out, haddr]
        rw [if_pos hown] at hE
        subst hE
        go_wp2_with fail
        go_ret
        exact ⟨rfl, HB1.out⟩
      have zaddr : (r.addr != 0) = false := by simpa using haddr
      have Haddr : Hid (r.addr = 0) := haddr
      clear haddr
      by_cases hport : r.port = 0
      case neg =>
        have zport : (r.port != 0) = true := by simpa using hport
        have hown : ownB r = false := by simp [ownB, Ht.out, Haddr.out, hport]
        rw [if_pos hown] at hE
        subst hE
        go_wp2_with fail
        go_ret
        exact ⟨rfl, HB1.out⟩
      have zport : (r.port != 0) = false := by simpa using hport
      have Hport : Hid (r.port = 0) := hport
      clear hport
      by_cases htarget : r.target.size = 0
      case neg =>
        have ztarget : r.target.toList.isEmpty = false := by have := (nempty htarget).2; simpa using this
        have ytarget := (nempty htarget).2
        have xtarget := (nempty htarget).1
        have hown : ownB r = false := by simp [ownB, Ht.out, Haddr.out, Hport.out, htarget]
        rw [if_pos hown] at hE
        subst hE
        go_wp2_with fail
        go_ret
        exact ⟨rfl, HB1.out⟩
      have ztarget : r.target.toList.isEmpty = true := by rw [isempty htarget, Lib.toList_data]; rfl
      have Htarget : Hid (r.target.size = 0) := htarget
      clear htarget
      have hown : ownB r = true := by simp [ownB, Ht.out, Haddr.out, Hport.out, Htarget.out]
      rw [if_neg (by rw [hown]; simp)] at hE
      go_wp2_with fail
      refine (isAddress_any _ _).mono ?_
      rintro e w4 ⟨rfl, hw4⟩
      subst hw4
      by_cases h5 : within r.addr 0 4294967295 = false
      · rw [if_pos (by rw [h5]; rfl)] at hE
        subst hE
        rw [h5]
        go_wp2_with fail
        go_ret
        exact ⟨rfl, HB1.out⟩
      have h5t : within r.addr 0 4294967295 = true := by simpa using h5
      rw [h5t] at hE ⊢
      rw [Bool.true_and] at hE
      go_wp2_with fail
      refine (between_any _ _ _ _).mono ?_
      rintro e w5 ⟨rfl, hw5⟩
      subst hw5
      by_cases h6 : within r.port 0 65535 = false
      · rw [if_pos h6] at hE
        subst hE
        rw [h6]
        go_wp2_with fail
        go_ret
        exact ⟨rfl, HB1.out⟩
      rw [if_neg h6] at hE
      rw [show within r.port 0 65535 = true by simpa using h6]
      by_cases h7 : 200 < r.text.size
      · rw [if_pos h7] at hE
        subst hE
        have h8 : decide (200 < (r.text.size : Int)) = true := by simp; omega
        go_wp2_with fail
        go_ret
        exact ⟨rfl, HB1.out⟩
      rw [if_neg h7] at hE
      have h8 : decide (200 < (r.text.size : Int)) = false := by simp; omega
      go_wp2_with fail
      refine (HT.out _).mono ?_
      rintro e w6 ⟨rfl, hb6⟩
      have HB6 : Hid (Below w.heap.size w w6) := HB1.out.trans (hb6.mono HB1.out.size)
      clear hb6
      subst hE
      go_wp2_with fail
      go_ret
      exact ⟨rfl, HB6.out⟩
    · have t1 : (r.typ != 1) = true := by rw [ht]; rfl
      have t16 : (r.typ != 16) = true := by rw [ht]; rfl
      have t33 : (r.typ != 33) = false := by rw [ht]; rfl
      have Ht : Hid (r.typ = 33) := ht
      clear ht
      by_cases haddr : r.addr = 0
      case neg =>
        have zaddr : (r.addr != 0) = true := by simpa using haddr
        have hown : ownB r = false := by simp [ownB, Ht.out, haddr]
        rw [if_pos hown] at hE
        subst hE
        go_wp2_with fail
        go_ret
        exact ⟨rfl, HB1.out⟩
      have zaddr : (r.addr != 0) = false := by simpa using haddr
      have Haddr : Hid (r.addr = 0) := haddr
      clear haddr
      by_cases htext : r.text.size = 0
      case neg =>
        have ztext : r.text.toList.isEmpty = false := by have := (nempty htext).2; simpa using this
        have ytext := (nempty htext).2
        have xtext := (nempty htext).1
        have hown : ownB r = false := by simp [ownB, Ht.out, Haddr.out, htext]
        rw [if_pos hown] at hE
        subst hE
        go_wp2_with fail
        go_ret
        exact ⟨rfl, HB1.out⟩
      have ztext : r.text.toList.isEmpty = true := by rw [isempty htext, Lib.toList_data]; rfl
      have Htext : Hid (r.text.size = 0) := htext
      clear htext
      have hown : ownB r = true := by simp [ownB, Ht.out, Haddr.out, Htext.out]
      rw [if_neg (by rw [hown]; simp)] at hE
      go_wp2_with fail
      refine (isAddress_any _ _).mono ?_
      rintro e w4 ⟨rfl, hw4⟩
      subst hw4
      by_cases h5 : within r.addr 0 4294967295 = false
      · rw [if_pos (by rw [h5]; rfl)] at hE
        subst hE
        rw [h5]
        go_wp2_with fail
        go_ret
        exact ⟨rfl, HB1.out⟩
      have h5t : within r.addr 0 4294967295 = true := by simpa using h5
      rw [h5t] at hE ⊢
      rw [Bool.true_and] at hE
      go_wp2_with fail
      refine (between_any _ _ _ _).mono ?_
      rintro e w5 ⟨rfl, hw5⟩
      subst hw5
      by_cases h6 : within r.port 0 65535 = false
      · rw [if_pos h6] at hE
        subst hE
        rw [h6]
        go_wp2_with fail
        go_ret
        exact ⟨rfl, HB1.out⟩
      rw [if_neg h6] at hE
      rw [show within r.port 0 65535 = true by simpa using h6]
      by_cases h7 : 200 < r.text.size
      · rw [if_pos h7] at hE
        subst hE
        have h8 : decide (200 < (r.text.size : Int)) = true := by simp; omega
        go_wp2_with fail
        go_ret
        exact ⟨rfl, HB1.out⟩
      rw [if_neg h7] at hE
      have h8 : decide (200 < (r.text.size : Int)) = false := by simp; omega
      go_wp2_with fail
      refine (HT.out _).mono ?_
      rintro e w6 ⟨rfl, hb6⟩
      have HB6 : Hid (Below w.heap.size w w6) := HB1.out.trans (hb6.mono HB1.out.size)
      clear hb6
      subst hE
      go_wp2_with fail
      go_ret
      exact ⟨rfl, HB6.out⟩
  · rw [if_pos h1] at hE
    subst hE
    have h2 : (chkN r.name != 0) = true := by simpa using h1
    go_wp2_with fail
    go_ret
    exact ⟨rfl, HB1.out⟩

end Go.Proofs.YtogmkdhljifbpaaDoor

/- The document's CheckMessage. -/
namespace Go.Proofs.YtogmkdhljifbpaaDoor
open Go.RowKit

set_option maxHeartbeats 1600000 in
set_option maxRecDepth 100000 in
theorem refMsg_any (id code typ : Int) (ans cut : Bool) (name : ByteArray) (rs : List Rc.Rec) (v : Value) (w : World) (hs : name.size ≤ 2000000) (hrs : ∀ r ∈ rs, r.name.size ≤ 2000000 ∧ r.target.size ≤ 2000000) (hv : Rc.Sl w v rs) :
    Calls Tryd.prog 13 #[.agg #[.int .i64 id, .bool ans, .bool cut, .int .i64 code, .string name, .int .i64 typ, v]] w fun e w' => e = .returned (.int .i64 (chkMsg id code typ name rs)) ∧ Below w.heap.size w w' := by
  have HN : Hid (∀ W, Calls Tryd.prog 11 #[.string name] W fun e w' => e = .returned (.int .i64 (chkN name)) ∧ Below W.heap.size W w') := fun W => rCheckName_any _ _ hs
  obtain ⟨pa, cap, rfl, hok, hrow⟩ := hv
  have HROW : Hid (rs = [] ∨ ∃ b off, pa = some ⟨b, off, none⟩ ∧ b < w.heap.size ∧ Rc.Row w b off rs) := hrow
  have HRR : Hid (∀ k, k < rs.length → ∀ W, Calls Tryd.prog 34 #[recV (rs.getD k Rc.dm)] W fun e w' => e = .returned (.int .i64 (chkRec (rs.getD k Rc.dm))) ∧ Below W.heap.size W w') := fun k hk W => by
    have h := hrs (rs.getD k Rc.dm) (by simp [List.getD, List.getElem?_eq_getElem hk])
    exact refRec_any _ W h.1 h.2
  clear hok hrow hs hrs
  generalize hE : chkMsg id code typ name rs = E
  unfold chkMsg at hE
  go_enter Tryd.func13, Tryd.ntmps13
  go_wp2_with fail
  have hg0 : (w.alloc (.cells #[.int .i64 id, .bool ans, .bool cut, .int .i64 code, .string name, .int .i64 typ, .slice pa rs.length cap] 30)).heap[w.heap.size]? = some (.cells #[.int .i64 id, .bool ans, .bool cut, .int .i64 code, .string name, .int .i64 typ, .slice pa rs.length cap] 30 (0, 0)) := heap_alloc_new w _
  obtain ⟨w0, hw0⟩ : ∃ w0, w0 = w.alloc (.cells #[.int .i64 id, .bool ans, .bool cut, .int .i64 code, .string name, .int .i64 typ, .slice pa rs.length cap] 30) := ⟨_, rfl⟩
  have HB0 : Hid (Below w.heap.size w w0) := (show Below _ _ _ by rw [hw0]; exact (Below.refl _ _).alloc (Nat.le_refl _) _)
  rw [← hw0] at hg0 ⊢
  clear hw0
  have f3 : w0.cell? ⟨w.heap.size, 3, none⟩ = some (.int .i64 code) := cellsAt hg0 3
  have f4 : w0.cell? ⟨w.heap.size, 4, none⟩ = some (.string name) := cellsAt hg0 4
  have f6 : w0.cell? ⟨w.heap.size, 6, none⟩ = some (.slice pa rs.length cap) := cellsAt hg0 6
  refine (between_any _ _ _ _).mono ?_
  rintro e w1 ⟨rfl, hw1⟩
  subst hw1
  by_cases h1 : within id 0 65535 = false
  · rw [if_pos (by rw [h1]; rfl)] at hE
    subst hE
    rw [h1]
    go_wp2_with fail
    go_ret
    exact ⟨rfl, HB0.out⟩
  have h1t : within id 0 65535 = true := by simpa using h1
  rw [h1t] at hE ⊢
  rw [Bool.true_and] at hE
  go_wp2_with fail
  refine (between_any _ _ _ _).mono ?_
  rintro e w2 ⟨rfl, hw2⟩
  subst hw2
  by_cases h2 : within code 0 15 = false
  · rw [if_pos h2] at hE
    subst hE
    rw [h2]
    go_wp2_with fail
    go_ret
    exact ⟨rfl, HB0.out⟩
  rw [if_neg h2] at hE
  rw [show within code 0 15 = true by simpa using h2]
  by_cases h3 : 20 < rs.length
  · rw [if_pos h3] at hE
    subst hE
    have h8 : decide (20 < (rs.length : Int)) = true := by simp; omega
    go_wp2_with fail
    go_ret
    exact ⟨rfl, HB0.out⟩
  rw [if_neg h3] at hE
  have h8 : decide (20 < (rs.length : Int)) = false := by simp; omega
  go_wp2_with fail
  refine (HN.out _).mono ?_
  rintro e w5 ⟨rfl, hb5⟩
  have hg5 := (hb5.block w.heap.size (Array.getElem?_eq_some_iff.1 hg0).1).trans hg0
  have hl5 : w.heap.size < w5.heap.size := (Array.getElem?_eq_some_iff.1 hg5).1
  have HB5 : Hid (Below w.heap.size w w5) := HB0.out.trans (hb5.mono HB0.out.size)
  clear hg0 hb5 f3 f4 f6 h8
  by_cases h4 : chkN name = 0
  · rw [h4]
    rw [if_neg (by simpa using h4)] at hE
    have f5 : w5.cell? ⟨w.heap.size, 5, none⟩ = some (.int .i64 typ) := cellsAt hg5 5
    have f6 : w5.cell? ⟨w.heap.size, 6, none⟩ = some (.slice pa rs.length cap) := cellsAt hg5 6
    go_wp2_with fail
    refine (isType_any _ _).mono ?_
    rintro e w6 ⟨rfl, hw6⟩
    subst hw6
    by_cases h5 : typB typ = false
    · rw [if_pos h5] at hE
      subst hE
      rw [h5]
      go_wp2_with fail
      go_ret
      exact ⟨rfl, HB5.out⟩
    rw [if_neg h5] at hE
    rw [show typB typ = true by simpa using h5]
    have HEE : Hid (chkRs rs = E) := hE
    have hn20 : rs.length ≤ 20 := by omega
    clear hE h1 h1t h2 h3 h4 h5
    generalize hnn : rs.length = n at *
    have HNN : Hid (rs.length = n) := hnn
    clear hnn
    have HG5 : Hid (w6.heap[w.heap.size]? = some (.cells #[.int .i64 id, .bool ans, .bool cut, .int .i64 code, .string name, .int .i64 typ, .slice pa n cap] 30 (0, 0))) := hg5
    clear hg5
    go_wp2_with fail
    go_loopw [3, 4] (fun ev i wr => ∃ k : Nat, k ≤ n ∧ ev = .int .i64 0 ∧ i = .int .i64 k ∧ Hid (Below w.heap.size w wr) ∧ Hid (wr.heap[w.heap.size]? = some (.cells #[.int .i64 id, .bool ans, .bool cut, .int .i64 code, .string name, .int .i64 typ, .slice pa n cap] 30 (0, 0))) ∧ Hid (chkRs rs = chkRs (rs.drop k))) (fun _ i _ => n - (intOf i).toNat)
    case atStart => exact ⟨0, Nat.zero_le _, rfl, rfl, HB5, HG5, rfl⟩
    case round =>
      obtain ⟨k, hk, rfl, rfl, HBR, HGR, HZ⟩ := hrel
      have hsz := HBR.out.size
      have g6 : wr.cell? ⟨w.heap.size, 6, none⟩ = some (.slice pa n cap) := cellsAt HGR.out 6
      have hlw : w.heap.size < wr.heap.size := (Array.getElem?_eq_some_iff.1 HGR.out).1
      by_cases hlt : k < n
      · obtain ⟨b, off, hpa, hbw, hr⟩ : ∃ b off, pa = some ⟨b, off, none⟩ ∧ b < w.heap.size ∧ Rc.Row w b off rs := by
          rcases HROW.out with h | h
          · have := HNN.out; rw [h] at this; simp at this; omega
          · exact h
        subst hpa
        obtain ⟨g0, g1, g2, g3, g4, g5, g7⟩ := hr k (by rw [HNN.out]; exact hlt)
        have c0 := (HBR.out.cell (p := ⟨b, off + k * 7, none⟩) hbw).trans g0
        have c1 := (HBR.out.cell (p := ⟨b, off + k * 7 + 1, none⟩) hbw).trans g1
        have c2 := (HBR.out.cell (p := ⟨b, off + k * 7 + 2, none⟩) hbw).trans g2
        have c3 := (HBR.out.cell (p := ⟨b, off + k * 7 + 3, none⟩) hbw).trans g3
        have c4 := (HBR.out.cell (p := ⟨b, off + k * 7 + 4, none⟩) hbw).trans g4
        have c5 := (HBR.out.cell (p := ⟨b, off + k * 7 + 5, none⟩) hbw).trans g5
        have c6 := (HBR.out.cell (p := ⟨b, off + k * 7 + 6, none⟩) hbw).trans g7
        clear g0 g1 g2 g3 g4 g5 g7 hr
        have HST : Hid (chkRs rs = if chkRec (rs.getD k Rc.dm) = 0 then chkRs (rs.drop (k + 1)) else chkRec (rs.getD k Rc.dm)) := chkRs_step (by rw [HNN.out]; exact hlt) HZ.out
        have HRE := HRR.out k hlt
        have HRE2 : Hid (∀ W, Calls Tryd.prog 34 #[recV (rs.getD k Rc.dm)] W fun e w' => e = .returned (.int .i64 (chkRec (rs.getD k Rc.dm))) ∧ Below W.heap.size W w') := HRE
        clear HRE
        generalize rs.getD k Rc.dm = r at *
        have hd : decide ((k : Int) < (n : Int)) = true := by simp; omega
        have hi0 : (0 : Int) ≤ (k : Int) := by omega
        have hi1 : (k : Int) < (n : Int) := by omega
        have hi2 : ((k : Int)).toNat = k := by omega
        go_wp2_with fail
        refine (HRE2.out _).mono ?_
        rintro e w9 ⟨rfl, hb9⟩
        have HB9 : Hid (Below w.heap.size w w9) := HBR.out.trans (hb9.mono hsz)
        have HG9 : Hid (w9.heap[w.heap.size]? = some (.cells #[.int .i64 id, .bool ans, .bool cut, .int .i64 code, .string name, .int .i64 typ, .slice (some ⟨b, off, none⟩) n cap] 30 (0, 0))) := (hb9.block _ hlw).trans HGR.out
        clear hb9 c0 c1 c2 c3 c4 c5 c6 g6
        by_cases h9 : chkRec r = 0
        · have HZ2 : Hid (chkRs rs = chkRs (rs.drop (k + 1))) := (show _ = _ by rw [HST.out, if_pos h9])
          rw [h9]
          clear HST h9
          go_wp2_with fail
          exact ⟨⟨k + 1, by omega, rfl, by go_num, HB9, HG9, HZ2⟩, by simp [intOf]; omega⟩
        · have HF : Hid (E = chkRec r) := (show _ = _ by rw [← HEE.out, HST.out, if_neg h9])
          have h8 : (chkRec r != 0) = true := by simpa using h9
          go_wp2_with fail
          go_ret
          exact ⟨ret_int HF.out.symm, HB9.out⟩
      · have HF : Hid (E = 0) := (show E = 0 by rw [← HEE.out, HZ.out, List.drop_of_length_le (by rw [HNN.out]; omega)]; rfl)
        have hd : decide ((k : Int) < (n : Int)) = false := by simp; omega
        go_wp2_with fail
        go_ret
        exact ⟨ret_int HF.out.symm, HBR.out⟩
  · rw [if_pos h4] at hE
    subst hE
    have h9 : (chkN name != 0) = true := by simpa using h4
    go_wp2_with fail
    go_ret
    exact ⟨rfl, HB5.out⟩

end Go.Proofs.YtogmkdhljifbpaaDoor

/- The document's FitOf. -/
namespace Go.Proofs.YtogmkdhljifbpaaDoor
open Go.RowKit

set_option maxHeartbeats 1600000 in
set_option maxRecDepth 100000 in
theorem fitOf_any (id code typ size : Int) (ans cut : Bool) (name : ByteArray) (rs : List Rc.Rec) (pa : Option Addr) (cap : Nat) (w : World) (hs : name.size ≤ 2000000) (hrs : ∀ r ∈ rs, r.name.size ≤ 2000000 ∧ r.target.size ≤ 2000000) (hv : Rc.Sl w (.slice pa rs.length cap) rs) (hcap : rs.length ≤ cap) :
    Calls Tryd.prog 20 #[.agg #[.int .i64 id, .bool ans, .bool cut, .int .i64 code, .string name, .int .i64 typ, .slice pa rs.length cap], .int .i64 size] w fun e w' => e = .returned (.tuple #[.string (fitT id code typ ans cut name rs size), .int .i64 (fitE id code typ ans cut name rs size)]) ∧ Below w.heap.size w w' := by
  have HSL : Hid (Rc.Sl w (.slice pa rs.length cap) rs) := hv
  obtain ⟨pa', cap', heq, hok, hrow⟩ := hv
  injection heq with q1 q2 q3
  subst q1
  clear q2 q3
  have HMB : Hid (chkMsg id code typ name rs = 0 → ∀ W, Below w.heap.size w W → ∀ j, j ≤ rs.length → Calls Tryd.prog 14 #[.agg #[.int .i64 id, .bool ans, .bool (cut || decide (j < rs.length)), .int .i64 code, .string name, .int .i64 typ, .slice pa j cap]] W fun e w' => e = .returned (.string ⟨(fitB id code typ ans cut name rs j).toArray⟩) ∧ Below W.heap.size W w') := fun hc W hW j hj => by
    have hl : (rs.take j).length = j := by rw [List.length_take]; omega
    have hsl : Rc.Sl W (.slice pa j cap) (rs.take j) := by
      refine ⟨pa, cap, by rw [hl], fun k => ?_, ?_⟩
      · by_cases hk : k < j
        · have : (rs.take j).getD k Rc.dm = rs.getD k Rc.dm := by simp [List.getD, hk]
          rw [this]; exact hok k
        · have : (rs.take j).getD k Rc.dm = Rc.dm := by simp [List.getD, List.getElem?_eq_none (by rw [hl]; omega : (rs.take j).length ≤ k)]
          rw [this]; exact Rc.dm_ok
      · rcases hrow with h | ⟨b, off, h1, h2, h3⟩
        · exact .inl (by rw [h]; simp)
        · exact .inr ⟨b, off, h1, Nat.lt_of_lt_of_le h2 hW.size, row_take (row_below h3 hW h2) j⟩
    exact msgBytes_any id code typ ans (cut || decide (j < rs.length)) name (rs.take j) _ W (chkMsg_take hc j) hsl
  have HC : Hid (∀ W, Below w.heap.size w W → Calls Tryd.prog 13 #[.agg #[.int .i64 id, .bool ans, .bool cut, .int .i64 code, .string name, .int .i64 typ, .slice pa rs.length cap]] W fun e w' => e = .returned (.int .i64 (chkMsg id code typ name rs)) ∧ Below W.heap.size W w') := fun W hW => refMsg_any id code typ ans cut name rs _ W hs hrs (HSL.out.below hW)
  have K0 : Hid (within size 12 512 = false → fitT id code typ ans cut name rs size = ⟨#[]⟩ ∧ fitE id code typ ans cut name rs size = 3) := fun h => by
    unfold fitT fitE
    rw [if_pos h, if_pos h]
    exact ⟨rfl, rfl⟩
  have K1 : Hid (within size 12 512 = true → chkMsg id code typ name rs ≠ 0 → fitT id code typ ans cut name rs size = ⟨#[]⟩ ∧ fitE id code typ ans cut name rs size = chkMsg id code typ name rs) := fun h h1 => by
    unfold fitT fitE
    rw [if_neg (by simp [h]), if_neg h1, if_neg (by simp [h]), if_neg h1]
    exact ⟨rfl, rfl⟩
  have K2 : Hid (within size 12 512 = true → chkMsg id code typ name rs = 0 → ∀ j, j ≤ rs.length → (∀ i, j < i → i ≤ rs.length → size < ((fitB id code typ ans cut name rs i).length : Int)) → ((fitB id code typ ans cut name rs j).length : Int) ≤ size → fitT id code typ ans cut name rs size = ⟨(fitB id code typ ans cut name rs j).toArray⟩ ∧ fitE id code typ ans cut name rs size = 0) := fun h h1 j hj hi hl => by
    unfold fitT fitE
    rw [if_neg (by simp [h]), if_pos h1, if_neg (by simp [h]), if_pos h1, fitN_yes hj hi hl]
    exact ⟨rfl, rfl⟩
  have K3 : Hid (within size 12 512 = true → chkMsg id code typ name rs = 0 → (∀ i, i ≤ rs.length → size < ((fitB id code typ ans cut name rs i).length : Int)) → fitT id code typ ans cut name rs size = ⟨#[]⟩ ∧ fitE id code typ ans cut name rs size = 2) := fun h h1 hi => by
    unfold fitT fitE
    rw [if_neg (by simp [h]), if_pos h1, if_neg (by simp [h]), if_pos h1, fitN_no hi]
    exact ⟨rfl, rfl⟩
  have HN20 : Hid (chkMsg id code typ name rs = 0 → rs.length ≤ 20) := fun h => (chkMsg_facts h).1
  have HNIL : Hid (pa = none → rs.length = 0) := fun h => by
    rcases hrow with h1 | ⟨b, off, h1, _⟩
    · rw [h1]; rfl
    · rw [h] at h1; cases h1
  have HSPOT : Hid (∀ p, pa = some p → 0 < rs.length → ∃ b off, p = ⟨b, off, none⟩) := fun p hp h => by
    rcases hrow with h1 | ⟨b, off, h1, _⟩
    · rw [h1] at h; simp at h
    · rw [hp] at h1; injection h1 with h1; exact ⟨b, off, h1⟩
  clear hs hrs hok hrow HSL
  generalize chkMsg id code typ name rs = E at *
  generalize fitT id code typ ans cut name rs size = RT at *
  generalize fitE id code typ ans cut name rs size = RE at *
  generalize fitB id code typ ans cut name rs = f at *
  generalize rs.length = n at *
  go_enter Tryd.func20, Tryd.ntmps20
  go_wp2_with fail
  obtain ⟨w0, hw0⟩ : ∃ w0, w0 = w.alloc (.cells #[.int .i64 id, .bool ans, .bool cut, .int .i64 code, .string name, .int .i64 typ, .slice pa n cap] 30) := ⟨_, rfl⟩
  have hg0 : w0.heap[w.heap.size]? = some (.cells #[.int .i64 id, .bool ans, .bool cut, .int .i64 code, .string name, .int .i64 typ, .slice pa n cap] 30 (0, 0)) := by rw [hw0]; exact heap_alloc_new w _
  have HB0 : Hid (Below w.heap.size w w0) := (show Below _ _ _ by rw [hw0]; exact (Below.refl _ _).alloc (Nat.le_refl _) _)
  have hl0 : w.heap.size < w0.heap.size := (Array.getElem?_eq_some_iff.1 hg0).1
  rw [← hw0]
  clear hw0
  refine (between_any _ _ _ _).mono ?_
  rintro e w00 ⟨rfl, hw00⟩
  subst hw00
  by_cases hwi : within size 12 512 = false
  · obtain ⟨e1, e2⟩ := K0.out hwi
    rw [hwi]
    go_wp2_with fail
    go_ret2
    exact ⟨by rw [e1, e2]; rfl, HB0.out⟩
  have hwt : within size 12 512 = true := by simpa using hwi
  have HK1 : Hid (E ≠ 0 → RT = ⟨#[]⟩ ∧ RE = E) := K1.out hwt
  have HK2 : Hid (E = 0 → ∀ j, j ≤ n → (∀ i, j < i → i ≤ n → size < ((f i).length : Int)) → ((f j).length : Int) ≤ size → RT = ⟨(f j).toArray⟩ ∧ RE = 0) := K2.out hwt
  have HK3 : Hid (E = 0 → (∀ i, i ≤ n → size < ((f i).length : Int)) → RT = ⟨#[]⟩ ∧ RE = 2) := K3.out hwt
  rw [hwt]
  clear K0 K1 K2 K3 hwi hwt
  have c0 : w00.cell? ⟨w.heap.size, 0, none⟩ = some (.int .i64 id) := cellsAt hg0 0
  have c1 : w00.cell? ⟨w.heap.size, 1, none⟩ = some (.bool ans) := cellsAt hg0 1
  have c2 : w00.cell? ⟨w.heap.size, 2, none⟩ = some (.bool cut) := cellsAt hg0 2
  have c3 : w00.cell? ⟨w.heap.size, 3, none⟩ = some (.int .i64 code) := cellsAt hg0 3
  have c4 : w00.cell? ⟨w.heap.size, 4, none⟩ = some (.string name) := cellsAt hg0 4
  have c5 : w00.cell? ⟨w.heap.size, 5, none⟩ = some (.int .i64 typ) := cellsAt hg0 5
  have c6 : w00.cell? ⟨w.heap.size, 6, none⟩ = some (.slice pa n cap) := cellsAt hg0 6
  go_wp2_with fail
  refine (HC.out w00 HB0.out).mono ?_
  rintro e w1 ⟨rfl, hb1⟩
  have HB1 : Hid (Below w.heap.size w w1) := HB0.out.trans (hb1.mono (Nat.le_of_lt hl0))
  have HG1 : Hid (w1.heap[w.heap.size]? = some (.cells #[.int .i64 id, .bool ans, .bool cut, .int .i64 code, .string name, .int .i64 typ, .slice pa n cap] 30 (0, 0))) := (hb1.block _ hl0).trans hg0
  clear hb1 hg0 HC c0 c1 c2 c3 c4 c5 c6
  by_cases h0 : E = 0
  · have HMB2 : Hid (∀ W, Below w.heap.size w W → ∀ j, j ≤ n → Calls Tryd.prog 14 #[.agg #[.int .i64 id, .bool ans, .bool (cut || decide (j < n)), .int .i64 code, .string name, .int .i64 typ, .slice pa j cap]] W fun e w' => e = .returned (.string ⟨(f j).toArray⟩) ∧ Below W.heap.size W w') := HMB.out h0
    have HJ2 : Hid (∀ j, j ≤ n → (∀ i, j < i → i ≤ n → size < ((f i).length : Int)) → ((f j).length : Int) ≤ size → RT = ⟨(f j).toArray⟩ ∧ RE = 0) := HK2.out h0
    have HJ3 : Hid ((∀ i, i ≤ n → size < ((f i).length : Int)) → RT = ⟨#[]⟩ ∧ RE = 2) := HK3.out h0
    have hn20 := HN20.out h0
    clear HMB HK1 HK2 HK3 HN20
    subst h0
    have d6 : w1.cell? ⟨w.heap.size, 6, none⟩ = some (.slice pa n cap) := cellsAt HG1.out 6
    go_wp2_with fail
    clear d6
    go_loopw [7] (fun nv wr => ∃ j : Nat, j ≤ n + 1 ∧ nv = .int .i64 ((j : Int) - 1) ∧ Hid (Below w.heap.size w wr) ∧ Hid (wr.heap[w.heap.size]? = some (.cells #[.int .i64 id, .bool ans, .bool cut, .int .i64 code, .string name, .int .i64 typ, .slice pa n cap] 30 (0, 0))) ∧ Hid (∀ i, j ≤ i → i ≤ n → size < ((f i).length : Int))) (fun nv _ => (intOf nv + 1).toNat)
    case atStart => exact ⟨n + 1, Nat.le_refl _, by go_num, HB1, HG1, fun i h1 h2 => by omega⟩
    case round =>
      obtain ⟨j, hj, rfl, HBR, HGR, HI⟩ := hrel
      have hsz := HBR.out.size
      have hlw : w.heap.size < wr.heap.size := (Array.getElem?_eq_some_iff.1 HGR.out).1
      rcases j with _ | k
      · obtain ⟨e1, e2⟩ := HJ3.out (fun i hi => HI.out i (Nat.zero_le _) hi)
        go_wp2_with fail
        go_ret2
        exact ⟨by rw [e1, e2]; rfl, HBR.out⟩
      · have hkk : (((k + 1 : Nat) : Int) - 1) = (k : Int) := by omega
        rw [hkk]
        have hk0 : (0 : Int) ≤ (k : Int) := by omega
        have hk1 : (k : Int) ≤ (cap : Int) := by omega
        have hk2 : ((k : Int)).toNat = k := by omega
        have hd0 : decide ((0 : Int) ≤ (k : Int)) = true := by simp
        have c0 : wr.cell? ⟨w.heap.size, 0, none⟩ = some (.int .i64 id) := cellsAt HGR.out 0
        have c1 : wr.cell? ⟨w.heap.size, 1, none⟩ = some (.bool ans) := cellsAt HGR.out 1
        have c2 : wr.cell? ⟨w.heap.size, 2, none⟩ = some (.bool cut) := cellsAt HGR.out 2
        have c3 : wr.cell? ⟨w.heap.size, 3, none⟩ = some (.int .i64 code) := cellsAt HGR.out 3
        have c4 : wr.cell? ⟨w.heap.size, 4, none⟩ = some (.string name) := cellsAt HGR.out 4
        have c5 : wr.cell? ⟨w.heap.size, 5, none⟩ = some (.int .i64 typ) := cellsAt HGR.out 5
        have c6 : wr.cell? ⟨w.heap.size, 6, none⟩ = some (.slice pa n cap) := cellsAt HGR.out 6
        cases cut
        · by_cases hkn : k < n
          · have hd9 : decide ((k : Int) < (n : Int)) = true := by simp; omega
            have HBW : Hid (Below w.heap.size w (wr.alloc (.cells #[.int .i64 id, .bool ans, .bool true, .int .i64 code, .string name, .int .i64 typ, .slice pa k cap] 30))) := HBR.out.alloc hsz _
            have HGW : Hid ((wr.alloc (.cells #[.int .i64 id, .bool ans, .bool true, .int .i64 code, .string name, .int .i64 typ, .slice pa k cap] 30)).heap[w.heap.size]? = some (.cells #[.int .i64 id, .bool ans, .bool false, .int .i64 code, .string name, .int .i64 typ, .slice pa n cap] 30 (0, 0))) := (Lib.alloc_old wr _ _ hlw).trans HGR.out
            have hlW : w.heap.size < (wr.alloc (.cells #[.int .i64 id, .bool ans, .bool true, .int .i64 code, .string name, .int .i64 typ, .slice pa k cap] 30)).heap.size := by simp <;> omega
            have HMK := HMB2.out (wr.alloc (.cells #[.int .i64 id, .bool ans, .bool true, .int .i64 code, .string name, .int .i64 typ, .slice pa k cap] 30)) HBW.out k (by omega)
            rw [show (false || decide (k < n)) = true by simp <;> omega] at HMK
            have HML : Hid (Calls Tryd.prog 14 #[.agg #[.int .i64 id, .bool ans, .bool true, .int .i64 code, .string name, .int .i64 typ, .slice pa k cap]] (wr.alloc (.cells #[.int .i64 id, .bool ans, .bool true, .int .i64 code, .string name, .int .i64 typ, .slice pa k cap] 30)) fun e w' => e = .returned (.string ⟨(f k).toArray⟩) ∧ Below (wr.alloc (.cells #[.int .i64 id, .bool ans, .bool true, .int .i64 code, .string name, .int .i64 typ, .slice pa k cap] 30)).heap.size (wr.alloc (.cells #[.int .i64 id, .bool ans, .bool true, .int .i64 code, .string name, .int .i64 typ, .slice pa k cap] 30)) w') := HMK
            clear HMK
            go_wp2_with fail
            refine HML.out.mono ?_
            rintro e w9 ⟨rfl, hb9⟩
            have HB9 : Hid (Below w.heap.size w w9) := HBW.out.trans (hb9.mono (Nat.le_of_lt hlW))
            have HG9 : Hid (w9.heap[w.heap.size]? = some (.cells #[.int .i64 id, .bool ans, .bool false, .int .i64 code, .string name, .int .i64 typ, .slice pa n cap] 30 (0, 0))) := (hb9.block _ hlW).trans HGW.out
            clear hb9 c0 c1 c2 c3 c4 c5 c6 HBW HGW hlW HML
            have hts : (⟨(f k).toArray⟩ : ByteArray).size = (f k).length := by simp [ByteArray.size]
            by_cases hbig : size < ((f k).length : Int)
            · have hd1 : decide (((⟨(f k).toArray⟩ : ByteArray).size : Int) ≤ size) = false := by rw [hts]; simpa using hbig
              have HI2 : Hid (∀ i, k ≤ i → i ≤ n → size < ((f i).length : Int)) := fun i h1 h2 => by
                rcases Nat.lt_or_ge k i with h | h
                · exact HI.out i h h2
                · obtain rfl : i = k := by omega
                  exact hbig
              generalize (⟨(f k).toArray⟩ : ByteArray) = T at *
              clear hts hbig HI
              go_wp2_with fail
              exact ⟨⟨k, by omega, by go_num, HB9, HG9, HI2⟩, by simp [intOf] <;> omega⟩
            · obtain ⟨e1, e2⟩ := HJ2.out k (by omega) (fun i h1 h2 => HI.out i h1 h2) (by omega)
              have hd1 : decide (((⟨(f k).toArray⟩ : ByteArray).size : Int) ≤ size) = true := by rw [hts]; simp <;> omega
              generalize (⟨(f k).toArray⟩ : ByteArray) = T at *
              clear hts hbig
              go_wp2_with fail
              go_ret2
              exact ⟨by rw [e1, e2]; rfl, HB9.out⟩
          · have hd9 : decide ((k : Int) < (n : Int)) = false := by simp; omega
            have HBW : Hid (Below w.heap.size w (wr.alloc (.cells #[.int .i64 id, .bool ans, .bool false, .int .i64 code, .string name, .int .i64 typ, .slice pa k cap] 30))) := HBR.out.alloc hsz _
            have HGW : Hid ((wr.alloc (.cells #[.int .i64 id, .bool ans, .bool false, .int .i64 code, .string name, .int .i64 typ, .slice pa k cap] 30)).heap[w.heap.size]? = some (.cells #[.int .i64 id, .bool ans, .bool false, .int .i64 code, .string name, .int .i64 typ, .slice pa n cap] 30 (0, 0))) := (Lib.alloc_old wr _ _ hlw).trans HGR.out
            have hlW : w.heap.size < (wr.alloc (.cells #[.int .i64 id, .bool ans, .bool false, .int .i64 code, .string name, .int .i64 typ, .slice pa k cap] 30)).heap.size := by simp <;> omega
            have HMK := HMB2.out (wr.alloc (.cells #[.int .i64 id, .bool ans, .bool false, .int .i64 code, .string name, .int .i64 typ, .slice pa k cap] 30)) HBW.out k (by omega)
            rw [show (false || decide (k < n)) = false by simp <;> omega] at HMK
            have HML : Hid (Calls Tryd.prog 14 #[.agg #[.int .i64 id, .bool ans, .bool false, .int .i64 code, .string name, .int .i64 typ, .slice pa k cap]] (wr.alloc (.cells #[.int .i64 id, .bool ans, .bool false, .int .i64 code, .string name, .int .i64 typ, .slice pa k cap] 30)) fun e w' => e = .returned (.string ⟨(f k).toArray⟩) ∧ Below (wr.alloc (.cells #[.int .i64 id, .bool ans, .bool false, .int .i64 code, .string name, .int .i64 typ, .slice pa k cap] 30)).heap.size (wr.alloc (.cells #[.int .i64 id, .bool ans, .bool false, .int .i64 code, .string name, .int .i64 typ, .slice pa k cap] 30)) w') := HMK
            clear HMK
            go_wp2_with fail
            refine HML.out.mono ?_
            rintro e w9 ⟨rfl, hb9⟩
            have HB9 : Hid (Below w.heap.size w w9) := HBW.out.trans (hb9.mono (Nat.le_of_lt hlW))
            have HG9 : Hid (w9.heap[w.heap.size]? = some (.cells #[.int .i64 id, .bool ans, .bool false, .int .i64 code, .string name, .int .i64 typ, .slice pa n cap] 30 (0, 0))) := (hb9.block _ hlW).trans HGW.out
            clear hb9 c0 c1 c2 c3 c4 c5 c6 HBW HGW hlW HML
            have hts : (⟨(f k).toArray⟩ : ByteArray).size = (f k).length := by simp [ByteArray.size]
            by_cases hbig : size < ((f k).length : Int)
            · have hd1 : decide (((⟨(f k).toArray⟩ : ByteArray).size : Int) ≤ size) = false := by rw [hts]; simpa using hbig
              have HI2 : Hid (∀ i, k ≤ i → i ≤ n → size < ((f i).length : Int)) := fun i h1 h2 => by
                rcases Nat.lt_or_ge k i with h | h
                · exact HI.out i h h2
                · obtain rfl : i = k := by omega
                  exact hbig
              generalize (⟨(f k).toArray⟩ : ByteArray) = T at *
              clear hts hbig HI
              go_wp2_with fail
              exact ⟨⟨k, by omega, by go_num, HB9, HG9, HI2⟩, by simp [intOf] <;> omega⟩
            · obtain ⟨e1, e2⟩ := HJ2.out k (by omega) (fun i h1 h2 => HI.out i h1 h2) (by omega)
              have hd1 : decide (((⟨(f k).toArray⟩ : ByteArray).size : Int) ≤ size) = true := by rw [hts]; simp <;> omega
              generalize (⟨(f k).toArray⟩ : ByteArray) = T at *
              clear hts hbig
              go_wp2_with fail
              go_ret2
              exact ⟨by rw [e1, e2]; rfl, HB9.out⟩
        · have HBW : Hid (Below w.heap.size w (wr.alloc (.cells #[.int .i64 id, .bool ans, .bool true, .int .i64 code, .string name, .int .i64 typ, .slice pa k cap] 30))) := HBR.out.alloc hsz _
          have HGW : Hid ((wr.alloc (.cells #[.int .i64 id, .bool ans, .bool true, .int .i64 code, .string name, .int .i64 typ, .slice pa k cap] 30)).heap[w.heap.size]? = some (.cells #[.int .i64 id, .bool ans, .bool true, .int .i64 code, .string name, .int .i64 typ, .slice pa n cap] 30 (0, 0))) := (Lib.alloc_old wr _ _ hlw).trans HGR.out
          have hlW : w.heap.size < (wr.alloc (.cells #[.int .i64 id, .bool ans, .bool true, .int .i64 code, .string name, .int .i64 typ, .slice pa k cap] 30)).heap.size := by simp <;> omega
          have HMK := HMB2.out (wr.alloc (.cells #[.int .i64 id, .bool ans, .bool true, .int .i64 code, .string name, .int .i64 typ, .slice pa k cap] 30)) HBW.out k (by omega)
          rw [show (true || decide (k < n)) = true by simp <;> omega] at HMK
          have HML : Hid (Calls Tryd.prog 14 #[.agg #[.int .i64 id, .bool ans, .bool true, .int .i64 code, .string name, .int .i64 typ, .slice pa k cap]] (wr.alloc (.cells #[.int .i64 id, .bool ans, .bool true, .int .i64 code, .string name, .int .i64 typ, .slice pa k cap] 30)) fun e w' => e = .returned (.string ⟨(f k).toArray⟩) ∧ Below (wr.alloc (.cells #[.int .i64 id, .bool ans, .bool true, .int .i64 code, .string name, .int .i64 typ, .slice pa k cap] 30)).heap.size (wr.alloc (.cells #[.int .i64 id, .bool ans, .bool true, .int .i64 code, .string name, .int .i64 typ, .slice pa k cap] 30)) w') := HMK
          clear HMK
          go_wp2_with fail
          refine HML.out.mono ?_
          rintro e w9 ⟨rfl, hb9⟩
          have HB9 : Hid (Below w.heap.size w w9) := HBW.out.trans (hb9.mono (Nat.le_of_lt hlW))
          have HG9 : Hid (w9.heap[w.heap.size]? = some (.cells #[.int .i64 id, .bool ans, .bool true, .int .i64 code, .string name, .int .i64 typ, .slice pa n cap] 30 (0, 0))) := (hb9.block _ hlW).trans HGW.out
          clear hb9 c0 c1 c2 c3 c4 c5 c6 HBW HGW hlW HML
          have hts : (⟨(f k).toArray⟩ : ByteArray).size = (f k).length := by simp [ByteArray.size]
          by_cases hbig : size < ((f k).length : Int)
          · have hd1 : decide (((⟨(f k).toArray⟩ : ByteArray).size : Int) ≤ size) = false := by rw [hts]; simpa using hbig
            have HI2 : Hid (∀ i, k ≤ i → i ≤ n → size < ((f i).length : Int)) := fun i h1 h2 => by
              rcases Nat.lt_or_ge k i with h | h
              · exact HI.out i h h2
              · obtain rfl : i = k := by omega
                exact hbig
            generalize (⟨(f k).toArray⟩ : ByteArray) = T at *
            clear hts hbig HI
            go_wp2_with fail
            exact ⟨⟨k, by omega, by go_num, HB9, HG9, HI2⟩, by simp [intOf] <;> omega⟩
          · obtain ⟨e1, e2⟩ := HJ2.out k (by omega) (fun i h1 h2 => HI.out i h1 h2) (by omega)
            have hd1 : decide (((⟨(f k).toArray⟩ : ByteArray).size : Int) ≤ size) = true := by rw [hts]; simp <;> omega
            generalize (⟨(f k).toArray⟩ : ByteArray) = T at *
            clear hts hbig
            go_wp2_with fail
            go_ret2
            exact ⟨by rw [e1, e2]; rfl, HB9.out⟩
  · obtain ⟨e1, e2⟩ := HK1.out h0
    have h1 : (E != 0) = true := by simpa using h0
    go_wp2_with fail
    go_ret2
    exact ⟨by rw [e1, e2]; rfl, HB1.out⟩

end Go.Proofs.YtogmkdhljifbpaaDoor

