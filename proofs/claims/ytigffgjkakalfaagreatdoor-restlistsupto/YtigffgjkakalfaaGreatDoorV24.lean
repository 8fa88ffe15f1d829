/- FW, FX, HQ, HR, HS -/
import Derived.Test.YtigffgjkakalfaaGreatDoorV15
import Derived.Test.YtigffgjkakalfaaGreatDoorV14
import Derived.Deep.RegionHeld3
import Derived.StillTactics
import Derived.Test.YtigffgjkakalfaaGreatDoorV23
import Derived.Deep.DeepCutAuto
import Derived.Deep.CutBlock
import Derived.Test.YtigffgjkakalfaaGreatDoorV20
/- The document's CheckRecord, CheckMessage. -/
namespace Go.Proofs.YtigffgjkakalfaaGreatDoor
open Go.RowKit

set_option maxHeartbeats 800000 in
theorem isType_any (n : Int) (w : World) :
    Calls Tryz.prog 76 #[.int .i64 n] w fun e w' => e = .returned (.bool (typB n)) ∧ w' = w := by
  go_enter Tryz.func76, Tryz.ntmps76
  go_wp2
  all_goals
    go_ret
    exact ⟨ret_bool (by rw [Bool.eq_iff_iff]; simp [typB]; try omega), rfl⟩

set_option maxHeartbeats 1600000 in
set_option maxRecDepth 100000 in
theorem refRec_any (r : Rc.Rec) (w : World) (h1 : r.name.size ≤ 2000000) (h2 : r.target.size ≤ 2000000) :
    Calls Tryz.prog 77 #[recV r] w fun e w' => e = .returned (.int .i64 (chkRec r)) ∧ Below w.heap.size w w' := by
  have HN : Hid (∀ W, Calls Tryz.prog 75 #[.string r.name] W fun e w' => e = .returned (.int .i64 (chkN r.name)) ∧ Below W.heap.size W w') := fun W => rCheckName_any _ _ h1
  have HT : Hid (∀ W, Calls Tryz.prog 75 #[.string r.target] W fun e w' => e = .returned (.int .i64 (chkN r.target)) ∧ Below W.heap.size W w') := fun W => rCheckName_any _ _ h2
  generalize hE : chkRec r = E
  unfold chkRec at hE
  clear h1 h2
  go_enter Tryz.func77, Tryz.ntmps77
  go_wp2_with fail
  have hg0 : (w.alloc (.cells #[.string r.name, .int .i64 r.typ, .int .i64 r.lasts, .int .i64 r.addr, .string r.text, .int .i64 r.port, .string r.target] 51)).heap[w.heap.size]? = some (.cells #[.string r.name, .int .i64 r.typ, .int .i64 r.lasts, .int .i64 r.addr, .string r.text, .int .i64 r.port, .string r.target] 51 (0, 0)) := heap_alloc_new w _
  refine (HN.out _).mono ?_
  rintro e w1 ⟨rfl, hb1⟩
  have hg1 := (hb1.block w.heap.size (by simp)).trans hg0
  have HB1 : Hid (Below w.heap.size w w1) := ((Below.refl _ _).alloc (Nat.le_refl _) _).trans (hb1.mono (by simp))
  clear hg0 hb1
  by_cases h1 : chkN r.name = 0
  · rw [if_neg (by simpa using h1)] at hE
    rw [h1]
    have f1 : w1.cell? ⟨w.heap.size, 1, none⟩ = some (.int .i64 r.typ) := cellsAt hg1 1
    have f2 : w1.cell? ⟨w.heap.size, 2, none⟩ = some (.int .i64 r.lasts) := cellsAt hg1 2
    have f3 : w1.cell? ⟨w.heap.size, 3, none⟩ = some (.int .i64 r.addr) := cellsAt hg1 3
    have f4 : w1.cell? ⟨w.heap.size, 4, none⟩ = some (.string r.text) := cellsAt hg1 4
    have f5 : w1.cell? ⟨w.heap.size, 5, none⟩ = some (.int .i64 r.port) := cellsAt hg1 5
    have f6 : w1.cell? ⟨w.heap.size, 6, none⟩ = some (.string r.target) := cellsAt hg1 6
    go_wp2_with fail
    refine (isType_any _ _).mono ?_
    rintro e w2 ⟨rfl, hw2⟩
    subst hw2
    by_cases h2 : typB r.typ = false
    · rw [if_pos h2] at hE
      subst hE
      rw [h2]
      go_wp2_with fail
      go_ret
      exact ⟨rfl, HB1.out⟩
    rw [if_neg h2] at hE
    rw [show typB r.typ = true by simpa using h2]
    go_wp2_with fail
    refine (between_any _ _ _ _).mono ?_
    rintro e w3 ⟨rfl, hw3⟩
    subst hw3
    by_cases h3 : within r.lasts 0 2147483647 = false
    · rw [if_pos h3] at hE
      subst hE
      rw [h3]
      go_wp2_with fail
      go_ret
      exact ⟨rfl, HB1.out⟩
    rw [if_neg h3] at hE
    rw [show within r.lasts 0 2147483647 = true by simpa using h3]
    have htt : r.typ = 1 ∨ r.typ = 16 ∨ r.typ = 33 := by
      have h : typB r.typ = true := by simpa using h2
      simp only [typB, Bool.or_eq_true, decide_eq_true_eq, or_assoc] at h
      exact h
    rcases htt with ht | ht | ht
    · have t1 : (r.typ != 1) = false := by rw [ht]; rfl
      have t16 : (r.typ != 16) = true := by rw [ht]; rfl
      have t33 : (r.typ != 33) = true := by rw [ht]; rfl
      have Ht : Hid (r.typ = 1) := ht
      clear ht
      by_cases htext : r.text.size = 0
      case neg =>
        have ztext : r.text.toList.isEmpty = false := by have := (nempty htext).2; simpa using this
        have ytext := (nempty htext).2
        have xtext := (nempty htext).1
        have hown : ownB r = false := by simp [ownB, Ht.out, htext]
        rw [if_pos hown] at hE
        subst hE
        go_wp2_with fail
        go_ret
        exact ⟨rfl, HB1.out⟩
      have ztext : r.text.toList.isEmpty = true := by rw [isempty htext, Lib.toList_data]; rfl
      have Htext : Hid (r.text.size = 0) := htext
      clear htext
      by_cases hport : r.port = 0
      case neg =>
        have zport : (r.port != 0) = true := by simpa using hport
        have hown : ownB r = false := by simp [ownB, Ht.out, Htext.out, hport]
        rw [if_pos hown] at hE
        subst hE
        go_wp2_with fail
        go_ret
        exact ⟨rfl, HB1.out⟩
      have zport : (r.port != 0) = false := by simpa using hport
      have Hport : Hid (r.port = 0) := hport
      clear hport
      by_cases htarget : r.target.size = 0
      case neg =>
        have ztarget : r.target.toList.isEmpty = false := by have := (nempty htarget).2; simpa using this
        have ytarget := (nempty htarget).2
        have xtarget := (nempty htarget).1
        have hown : ownB r = false := by simp [ownB, Ht.out, Htext.out, Hport.out, htarget]
        rw [if_pos hown] at hE
        subst hE
        go_wp2_with fail
        go_ret
        exact ⟨rfl, HB1.out⟩
      have ztarget : r.target.toList.isEmpty = true := by rw [isempty htarget, Lib.toList_data]; rfl
      have Htarget : Hid (r.target.size = 0) := htarget
      clear htarget
      have hown : ownB r = true := by simp [ownB, Ht.out, Htext.out, Hport.out, Htarget.out]
      rw [if_neg (by rw [hown]; simp)] at hE
      go_wp2_with fail
      refine (isAddress_any _ _).mono ?_
      rintro e w4 ⟨rfl, hw4⟩
      subst hw4
      by_cases h5 : within r.addr 0 4294967295 = false
      · rw [if_pos (by rw [h5]; rfl)] at hE
        subst hE
        rw [h5]
        go_wp2_with fail
        go_ret
        exact ⟨rfl, HB1.out⟩
      have h5t : within r.addr 0 4294967295 = true := by simpa using h5
      rw [h5t] at hE ⊢
      rw [Bool.true_and] at hE
      go_wp2_with fail
      refine (between_any _ _ _ _).mono ?_
      rintro e w5 ⟨rfl, hw5⟩
      subst hw5
      by_cases h6 : within r.port 0 65535 = false
      · rw [if_pos h6] at hE
        subst hE
        rw [h6]
        go_wp2_with fail
        go_ret
        exact ⟨rfl, HB1.out⟩
      rw [if_neg h6] at hE
      rw [show within r.port 0 65535 = true by simpa using h6]
      by_cases h7 : 200 < r.text.size
      · rw [if_pos h7] at hE
        subst hE
        have h8 : decide (200 < (r.text.size : Int)) = true := by simp; omega
        go_wp2_with fail
        go_ret
        exact ⟨rfl, HB1.out⟩
      rw [if_neg h7] at hE
      have h8 : decide (200 < (r.text.size : Int)) = false := by simp; omega
      go_wp2_with fail
      refine (HT.out _).mono ?_
      rintro e w6 ⟨rfl, hb6⟩
      have HB6 : Hid (Below w.heap.size w w6) := HB1.out.trans (hb6.mono HB1.out.size)
      clear hb6
      subst hE
      go_wp2_with fail
      go_ret
      exact ⟨rfl, HB6.out⟩
    · have t1 : (r.typ != 1) = true := by rw [ht]; rfl
      have t16 : (r.typ != 16) = false := by rw [ht]; rfl
      have t33 : (r.typ != 33) = true := by rw [ht]; rfl
      have Ht : Hid (r.typ = 16) := ht
      clear ht
      by_cases haddr : r.addr = 0
      case neg =>
        have zaddr : (r.addr != 0) = true := by simpa using haddr
        have hown : ownB r = false := by simp [ownB, Ht.out, haddr]
        rw [if_pos hown] at hE
        subst hE
        go_wp2_with fail
        go_ret
        exact ⟨rfl, HB1.out⟩
      have zaddr : (r.addr != 0) = false := by simpa using haddr
      have Haddr : Hid (r.addr = 0) := haddr
      clear haddr
      by_cases hport : r.port = 0
      case neg =>
        have zport : (r.port != 0) = true := by simpa using hport
        have hown : ownB r = false := by simp [ownB, Ht.out, Haddr.out, hport]
        rw [if_pos hown] at hE
        subst hE
        go_wp2_with fail
        go_ret
        exact ⟨rfl, HB1.out⟩
      have zport : (r.port != 0) = false := by simpa using hport
      have Hport : Hid (r.port = 0) := hport
      clear hport
      by_cases htarget : r.target.size = 0
      case neg =>
        have ztarget : r.target.toList.isEmpty = false := by have := (nempty htarget).2; simpa using this
        have ytarget := (nempty htarget).2
        have xtarget := (nempty htarget).1
        have hown : ownB r = false := by simp [ownB, Ht.out, Haddr.out, Hport.out, htarget]
        rw [if_pos hown] at hE
        subst hE
        go_wp2_with fail
        go_ret
        exact ⟨rfl, HB1.out⟩
      have ztarget : r.target.toList.isEmpty = true := by rw [isempty htarget, Lib.toList_data]; rfl
      have Htarget : Hid (r.target.size = 0) := htarget
      clear htarget
      have hown : ownB r = true := by simp [ownB, Ht.out, Haddr.out, Hport.out, Htarget.out]
      rw [if_neg (by rw [hown]; simp)] at hE
      go_wp2_with fail
      refine (isAddress_any _ _).mono ?_
      rintro e w4 ⟨rfl, hw4⟩
      subst hw4
      by_cases h5 : within r.addr 0 4294967295 = false
      · rw [if_pos (by rw [h5]; rfl)] at hE
        subst hE
        rw [h5]
        go_wp2_with fail
        go_ret
        exact ⟨rfl, HB1.out⟩
      have h5t : within r.addr 0 4294967295 = true := by simpa using h5
      rw [h5t] at hE ⊢
      rw [Bool.true_and] at hE
      go_wp2_with fail
      refine (between_any _ _ _ _).mono ?_
      rintro e w5 ⟨rfl, hw5⟩
      subst hw5
      by_cases h6 : within r.port 0 65535 = false
      · rw [if_pos h6] at hE
        subst hE
        rw [h6]
        go_wp2_with fail
        go_ret
        exact ⟨rfl, HB1.out⟩
      rw [if_neg h6] at hE
      rw [show within r.port 0 65535 = true by simpa using h6]
      by_cases h7 : 200 < r.text.size
      · rw [if_pos h7] at hE
        subst hE
        have h8 : decide (200 < (r.text.size : Int)) = true := by simp; omega
        go_wp2_with fail
        go_ret
        exact ⟨rfl, HB1.out⟩
      rw [if_neg h7] at hE
      have h8 : decide (200 < (r.text.size : Int)) = false := by simp; omega
      go_wp2_with fail
      refine (HT.out _).mono ?_
      rintro e w6 ⟨rfl, hb6⟩
      have HB6 : Hid (Below w.heap.size w w6) := HB1.out.trans (hb6.mono HB1.out.size)
      clear hb6
      subst hE
      go_wp2_with fail
      go_ret
      exact ⟨rfl, HB6.out⟩
    · have t1 : (r.typ != 1) = true := by rw [ht]; rfl
      have t16 : (r.typ != 16) = true := by rw [ht]; rfl
      have t33 : (r.typ != 33) = false := by rw [ht]; rfl
      have Ht : Hid (r.typ = 33) := ht
      clear ht
      by_cases haddr : r.addr = 0
      case neg =>
        have zaddr : (r.addr != 0) = true := by simpa using haddr
        have hown : ownB r = false := by simp [ownB, Ht.out, haddr]
        rw [if_pos hown] at hE
        subst hE
        go_wp2_with fail
        go_ret
        exact ⟨rfl, HB1.out⟩
      have zaddr : (r.addr != 0) = false := by simpa using haddr
      have Haddr : Hid (r.addr = 0) := haddr
      clear haddr
      by_cases htext : r.text.size = 0
      case neg =>
        have ztext : r.text.toList.isEmpty = false := by have := (nempty htext).2; simpa using this
        have ytext := (nempty htext).2
        have xtext := (nempty htext).1
        have hown : ownB r = false := by simp [ownB, Ht.out, Haddr.out, htext]
        rw [if_pos hown] at hE
        subst hE
        go_wp2_with fail
        go_ret
        exact ⟨rfl, HB1.out⟩
      have ztext : r.text.toList.isEmpty = true := by rw [isempty htext, Lib.toList_data]; rfl
      have Htext : Hid (r.text.size = 0) := htext
      clear htext
      have hown : ownB r = true := by simp [ownB, Ht.out, Haddr.out, Htext.out]
      rw [if_neg (by rw [hown]; simp)] at hE
      go_wp2_with fail
      refine (isAddress_any _ _).mono ?_
      rintro e w4 ⟨rfl, hw4⟩
      subst hw4
      by_cases h5 : within r.addr 0 4294967295 = false
      · rw [if_pos (by rw [h5]; rfl)] at hE
        subst hE
        rw [h5]
        go_wp2_with fail
        go_ret
        exact ⟨rfl, HB1.out⟩
      have h5t : within r.addr 0 4294967295 = true := by simpa using h5
      rw [h5t] at hE ⊢
      rw [Bool.true_and] at hE
      go_wp2_with fail
      refine (between_any _ _ _ _).mono ?_
      rintro e w5 ⟨rfl, hw5⟩
      subst hw5
      by_cases h6 : within r.port 0 65535 = false
      · rw [if_pos h6] at hE
        subst hE
        rw [h6]
        go_wp2_with fail
        go_ret
        exact ⟨rfl, HB1.out⟩
      rw [if_neg h6] at hE
      rw [show within r.port 0 65535 = true by simpa using h6]
      by_cases h7 : 200 < r.text.size
      · rw [if_pos h7] at hE
        subst hE
        have h8 : decide (200 < (r.text.size : Int)) = true := by simp; omega
        go_wp2_with fail
        go_ret
        exact ⟨rfl, HB1.out⟩
      rw [if_neg h7] at hE
      have h8 : decide (200 < (r.text.size : Int)) = false := by simp; omega
      go_wp2_with fail
      refine (HT.out _).mono ?_
      rintro e w6 ⟨rfl, hb6⟩
      have HB6 : Hid (Below w.heap.size w w6) := HB1.out.trans (hb6.mono HB1.out.size)
      clear hb6
      subst hE
      go_wp2_with fail
      go_ret
      exact ⟨rfl, HB6.out⟩
  · rw [if_pos h1] at hE
    subst hE
    have h2 : (chkN r.name != 0) = true := by simpa using h1
    go_wp2_with fail
    go_ret
    exact ⟨rfl, HB1.out⟩

end Go.Proofs.YtigffgjkakalfaaGreatDoor

/- The document's CheckMessage. -/
namespace Go.Proofs.YtigffgjkakalfaaGreatDoor
open Go.RowKit

set_option maxHeartbeats 1600000 in
set_option maxRecDepth 100000 in
theorem refMsg_any (id code typ : Int) (ans cut : Bool) (name : ByteArray) (rs : List Rc.Rec) (v : Value) (w : World) (hs : name.size ≤ 2000000) (hrs : ∀ r ∈ rs, r.name.size ≤ 2000000 ∧ r.target.size ≤ 2000000) (hv : Rc.Sl w v rs) :
    Calls Tryz.prog 37 #[.agg #[.int .i64 id, .bool ans, .bool cut, .int .i64 code, .string name, .int .i64 typ, v]] w fun e w' => e = .returned (.int .i64 (chkMsg id code typ name rs)) ∧ Below w.heap.size w w' := by
  have HN : Hid (∀ W, Calls Tryz.prog 75 #[.string name] W fun e w' => e = .returned (.int .i64 (chkN name)) ∧ Below W.heap.size W w') := fun W => rCheckName_any _ _ hs
  obtain ⟨pa, cap, rfl, hok, hrow⟩ := hv
  have HROW : Hid (rs = [] ∨ ∃ b off, pa = some ⟨b, off, none⟩ ∧ b < w.heap.size ∧ Rc.Row w b off rs) := hrow
  have HRR : Hid (∀ k, k < rs.length → ∀ W, Calls Tryz.prog 77 #[recV (rs.getD k Rc.dm)] W fun e w' => e = .returned (.int .i64 (chkRec (rs.getD k Rc.dm))) ∧ Below W.heap.size W w') := fun k hk W => by
    have h := hrs (rs.getD k Rc.dm) (by simp [List.getD, List.getElem?_eq_getElem hk])
    exact refRec_any _ W h.1 h.2
  clear hok hrow hs hrs
  generalize hE : chkMsg id code typ name rs = E
  unfold chkMsg at hE
  go_enter Tryz.func37, Tryz.ntmps37
  go_wp2_with fail
  have hg0 : (w.alloc (.cells #[.int .i64 id, .bool ans, .bool cut, .int .i64 code, .string name, .int .i64 typ, .slice pa rs.length cap] 38)).heap[w.heap.size]? = some (.cells #[.int .i64 id, .bool ans, .bool cut, .int .i64 code, .string name, .int .i64 typ, .slice pa rs.length cap] 38 (0, 0)) := heap_alloc_new w _
  obtain ⟨w0, hw0⟩ : ∃ w0, w0 = w.alloc (.cells #[.int .i64 id, .bool ans, .bool cut, .int .i64 code, .string name, .int .i64 typ, .slice pa rs.length cap] 38) := ⟨_, rfl⟩
  have HB0 : Hid (Below w.heap.size w w0) := (show Below _ _ _ by rw [hw0]; exact (Below.refl _ _).alloc (Nat.le_refl _) _)
  rw [← hw0] at hg0 ⊢
  clear hw0
  have f3 : w0.cell? ⟨w.heap.size, 3, none⟩ = some (.int .i64 code) := cellsAt hg0 3
  have f4 : w0.cell? ⟨w.heap.size, 4, none⟩ = some (.string name) := cellsAt hg0 4
  have f6 : w0.cell? ⟨w.heap.size, 6, none⟩ = some (.slice pa rs.length cap) := cellsAt hg0 6
  refine (between_any _ _ _ _).mono ?_
  rintro e w1 ⟨rfl, hw1⟩
  subst hw1
  by_cases h1 : within id 0 65535 = false
  · rw [if_pos (by rw [h1]; rfl)] at hE
    subst hE
    rw [h1]
    go_wp2_with fail
    go_ret
    exact ⟨rfl, HB0.out⟩
  have h1t : within id 0 65535 = true := by simpa using h1
  rw [h1t] at hE ⊢
  rw [Bool.true_and] at hE
  go_wp2_with fail
  refine (between_any _ _ _ _).mono ?_
  rintro e w2 ⟨rfl, hw2⟩
  subst hw2
  by_cases h2 : within code 0 15 = false
  · rw [if_pos h2] at hE
    subst hE
    rw [h2]
    go_wp2_with fail
    go_ret
    exact ⟨rfl, HB0.out⟩
  rw [if_neg h2] at hE
  rw [show within code 0 15 = true by simpa using h2]
  by_cases h3 : 20 < rs.length
  · rw [if_pos h3] at hE
    subst hE
    have h8 : decide (20 < (rs.length : Int)) = true := by simp; omega
    go_wp2_with fail
    go_ret
    exact ⟨rfl, HB0.out⟩
  rw [if_neg h3] at hE
  have h8 : decide (20 < (rs.length : Int)) = false := by simp; omega
  go_wp2_with fail
  refine (HN.out _).mono ?_
  rintro e w5 ⟨rfl, hb5⟩
  have hg5 := (hb5.block w.heap.size (Array.getElem?_eq_some_iff.1 hg0).1).trans hg0
  have hl5 : w.heap.size < w5.heap.size := (Array.getElem?_eq_some_iff.1 hg5).1
  have HB5 : Hid (Below w.heap.size w w5) := HB0.out.trans (hb5.mono HB0.out.size)
  clear hg0 hb5 f3 f4 f6 h8
  by_cases h4 : chkN name = 0
  · rw [h4]
    rw [if_neg (by simpa using h4)] at hE
    have f5 : w5.cell? ⟨w.heap.size, 5, none⟩ = some (.int .i64 typ) := cellsAt hg5 5
    have f6 : w5.cell? ⟨w.heap.size, 6, none⟩ = some (.slice pa rs.length cap) := cellsAt hg5 6
    go_wp2_with fail
    refine (isType_any _ _).mono ?_
    rintro e w6 ⟨rfl, hw6⟩
    subst hw6
    by_cases h5 : typB typ = false
    · rw [if_pos h5] at hE
      subst hE
      rw [h5]
      go_wp2_with fail
      go_ret
      exact ⟨rfl, HB5.out⟩
    rw [if_neg h5] at hE
    rw [show typB typ = true by simpa using h5]
    have HEE : Hid (chkRs rs = E) := hE
    have hn20 : rs.length ≤ 20 := by omega
    clear hE h1 h1t h2 h3 h4 h5
    generalize hnn : rs.length = n at *
    have HNN : Hid (rs.length = n) := hnn
    clear hnn
    have HG5 : Hid (w6.heap[w.heap.size]? = some (.cells #[.int .i64 id, .bool ans, .bool cut, .int .i64 code, .string name, .int .i64 typ, .slice pa n cap] 38 (0, 0))) := hg5
    clear hg5
    go_wp2_with fail
    go_loopw [3, 4] (fun ev i wr => ∃ k : Nat, k ≤ n ∧ ev = .int .i64 0 ∧ i = .int .i64 k ∧ Hid (Below w.heap.size w wr) ∧ Hid (wr.heap[w.heap.size]? = some (.cells #[.int .i64 id, .bool ans, .bool cut, .int .i64 code, .string name, .int .i64 typ, .slice pa n cap] 38 (0, 0))) ∧ Hid (chkRs rs = chkRs (rs.drop k))) (fun _ i _ => n - (intOf i).toNat)
    case atStart => exact ⟨0, Nat.zero_le _, rfl, rfl, HB5, HG5, rfl⟩
    case round =>
      obtain ⟨k, hk, rfl, rfl, HBR, HGR, HZ⟩ := hrel
      have hsz := HBR.out.size
      have g6 : wr.cell? ⟨w.heap.size, 6, none⟩ = some (.slice pa n cap) := cellsAt HGR.out 6
      have hlw : w.heap.size < wr.heap.size := (Array.getElem?_eq_some_iff.1 HGR.out).1
      by_cases hlt : k < n
      · obtain ⟨b, off, hpa, hbw, hr⟩ : ∃ b off, pa = some ⟨b, off, none⟩ ∧ b < w.heap.size ∧ Rc.Row w b off rs := by
          rcases HROW.out with h | h
          · have := HNN.out; rw [h] at this; simp at this; omega
          · exact h
        subst hpa
        obtain ⟨g0, g1, g2, g3, g4, g5, g7⟩ := hr k (by rw [HNN.out]; exact hlt)
        have c0 := (HBR.out.cell (p := ⟨b, off + k * 7, none⟩) hbw).trans g0
        have c1 := (HBR.out.cell (p := ⟨b, off + k * 7 + 1, none⟩) hbw).trans g1
        have c2 := (HBR.out.cell (p := ⟨b, off + k * 7 + 2, none⟩) hbw).trans g2
        have c3 := (HBR.out.cell (p := ⟨b, off + k * 7 + 3, none⟩) hbw).trans g3
        have c4 := (HBR.out.cell (p := ⟨b, off + k * 7 + 4, none⟩) hbw).trans g4
        have c5 := (HBR.out.cell (p := ⟨b, off + k * 7 + 5, none⟩) hbw).trans g5
        have c6 := (HBR.out.cell (p := ⟨b, off + k * 7 + 6, none⟩) hbw).trans g7
        clear g0 g1 g2 g3 g4 g5 g7 hr
        have HST : Hid (chkRs rs = if chkRec (rs.getD k Rc.dm) = 0 then chkRs (rs.drop (k + 1)) else chkRec (rs.getD k Rc.dm)) := chkRs_step (by rw [HNN.out]; exact hlt) HZ.out
        have HRE := HRR.out k hlt
        have HRE2 : Hid (∀ W, Calls Tryz.prog 77 #[recV (rs.getD k Rc.dm)] W fun e w' => e = .returned (.int .i64 (chkRec (rs.getD k Rc.dm))) ∧ Below W.heap.size W w') := HRE
        clear HRE
        generalize rs.getD k Rc.dm = r at *
        have hd : decide ((k : Int) < (n : Int)) = true := by simp; omega
        have hi0 : (0 : Int) ≤ (k : Int) := by omega
        have hi1 : (k : Int) < (n : Int) := by omega
        have hi2 : ((k : Int)).toNat = k := by omega
        go_wp2_with fail
        refine (HRE2.out _).mono ?_
        rintro e w9 ⟨rfl, hb9⟩
        have HB9 : Hid (Below w.heap.size w w9) := HBR.out.trans (hb9.mono hsz)
        have HG9 : Hid (w9.heap[w.heap.size]? = some (.cells #[.int .i64 id, .bool ans, .bool cut, .int .i64 code, .string name, .int .i64 typ, .slice (some ⟨b, off, none⟩) n cap] 38 (0, 0))) := (hb9.block _ hlw).trans HGR.out
        clear hb9 c0 c1 c2 c3 c4 c5 c6 g6
        by_cases h9 : chkRec r = 0
        · have HZ2 : Hid (chkRs rs = chkRs (rs.drop (k + 1))) := (show _ = _ by rw [HST.out, if_pos h9])
          rw [h9]
          clear HST h9
          go_wp2_with fail
          exact ⟨⟨k + 1, by omega, rfl, by go_num, HB9, HG9, HZ2⟩, by simp [intOf]; omega⟩
        · have HF : Hid (E = chkRec r) := (show _ = _ by rw [← HEE.out, HST.out, if_neg h9])
          have h8 : (chkRec r != 0) = true := by simpa using h9
          go_wp2_with fail
          go_ret
          exact ⟨ret_int HF.out.symm, HB9.out⟩
      · have HF : Hid (E = 0) := (show E = 0 by rw [← HEE.out, HZ.out, List.drop_of_length_le (by rw [HNN.out]; omega)]; rfl)
        have hd : decide ((k : Int) < (n : Int)) = false := by simp; omega
        go_wp2_with fail
        go_ret
        exact ⟨ret_int HF.out.symm, HBR.out⟩
  · rw [if_pos h4] at hE
    subst hE
    have h9 : (chkN name != 0) = true := by simpa using h4
    go_wp2_with fail
    go_ret
    exact ⟨rfl, HB5.out⟩

end Go.Proofs.YtigffgjkakalfaaGreatDoor

/- The document's MessageOf: behind its records. -/
namespace Go.Proofs.YtigffgjkakalfaaGreatDoor
open Go.RowKit

/-- What stands behind the block 0. -/
def behindC : Code → Option Code
  | .seq a b => match behindC b with
    | some c => some c
    | none => if (blkIn 0 a).isSome then some b else none
  | _ => none
/-- It ends by a message: what lies there then. -/
def OkRet (w : World) (t : ByteArray) (a : Act) (W : World) : Prop := ∃ M v, a.defers = [] ∧ a.tmps.getD 2 undef = .pointer (some ⟨w.heap.size, 0, none⟩) ∧ a.tmps.getD 3 undef = .int .i64 0 ∧ msgF t = some M ∧ chkMsg M.id M.code M.typ M.R M.rs = 0 ∧ W.heap[w.heap.size]? = some (.cells #[.int .i64 M.id, .bool M.ans, .bool M.cut, .int .i64 M.code, .string M.R, .int .i64 M.typ, v] 38 (0, 0)) ∧ Below w.heap.size w W ∧ Rc.Own w.heap.size W v M.rs

set_option maxHeartbeats 3200000 in
set_option maxRecDepth 1000000 in
theorem ptail {u1 u3 u6 u7 u8 u9 u10 u11 u12 u13 u14 u15 u16 u17 u18 u19 u20 u21 u22 u23 u24 u25 u26 u27 u28 u29 u30 u31 u32 u33 u34 u35 u36 u37 u38 u39 u40 u41 u42 u43 u44 u45 u46 u47 u48 u49 u50 u51 u52 u53 u54 u55 u56 u57 u58 u59 u60 u61 u62 u63 u64 u65 u66 u67 u68 u69 u70 u71 u72 u73 u74 u75 u76 u77 u78 u79 u80 u81 u82 u83 u84 u85 u86 u87 u88 u89 u90 u91 u92 u93 u94 u95 u96 u97 u98 u99 u100 u101 u102 u103 u104 u105 u106 u107 u108 u109 u110 u111 u112 u113 u114 u115 u116 u117 u118 u119 u120 u121 u122 u123 u124 u125 u126 u127 u128 u129 u130 u131 u132 u133 u134 u135 u136 u137 u138 u139 u140 u141 u142 u143 u144 u145 u146 u147 u148 u149 u150 u151 u152 u153 u154 u155 u156 u157 u158 u159 u160 u161 u162 u163 u164 u165 u166 u167 u168 u169 u170 u171 u172 u173 u174 u175 u176 u177 u178 u179 u180 u181 u182 u183 u184 u185 u186 u187 u188 u189 u190 u191 u192 u193 u194 u195 u196 u197 u198 u199 u200 u201 u202 u203 u204 u205 u206 u207 u208 u209 u210 u211 u212 u213 u214 u215 u216 u217 u218 u219 u220 u221 u222 u223 u224 u225 u226 u227 u228 u229 u230 u231 u232 u233 u234 u235 u236 u237 u238 u239 u240 u241 u242 u243 u244 u245 u246 u247 u248 u249 u250 u251 u252 u253 u254 u255 u256 u257 u258 u259 u260 u261 : Value} (w wr : World) (t R : ByteArray) (mb b v1 v3 v8 : Nat) (ans cut d : Bool) (v : Value) (D : List Rc.Rec) (hR : R.size ≤ 1000) (HS : Hid (Sc w t mb b d #[.int .i64 v1, .bool ans, .bool cut, .int .i64 v3, .string R, .int .i64 v8, v] wr)) (HO : Hid (Rc.Own (mb + 1) wr v D)) (HOK : Hid (∀ r ∈ D, r.ok ∧ r.name.size ≤ 1000 ∧ r.target.size ≤ 1000)) (HT : Hid (d = true → msgF t = none)) (HF : Hid (d = false → msgF t = if b = t.size then some ⟨(v1 : Int), v3, v8, ans, cut, R, D⟩ else none)) (Q : Exit → Act → World → Prop) (hE : ∀ a W, ErrRet w t a W → Q .ret a W) (hO : ∀ a W, OkRet w t a W → Q .ret a W) :
    Code.wp Tryz.prog ((Tryz.f11.body.bind behindC).getD .skip) Q ⟨#[.string t, u1, .pointer (some ⟨w.heap.size, 0, none⟩), u3, .pointer (some ⟨w.heap.size + 1, 0, none⟩), .pointer (some ⟨mb, 0, none⟩), u6, u7, u8, u9, u10, u11, u12, u13, u14, u15, u16, u17, u18, u19, u20, u21, u22, u23, u24, u25, u26, u27, u28, u29, u30, u31, u32, u33, u34, u35, u36, u37, u38, u39, u40, u41, u42, u43, u44, u45, u46, u47, u48, u49, u50, u51, u52, u53, u54, u55, u56, u57, u58, u59, u60, u61, u62, u63, u64, u65, u66, u67, u68, u69, u70, u71, u72, u73, u74, u75, u76, u77, u78, u79, u80, u81, u82, u83, u84, u85, u86, u87, u88, u89, u90, u91, u92, u93, u94, u95, u96, u97, u98, u99, u100, u101, u102, u103, u104, u105, u106, u107, u108, u109, u110, u111, u112, u113, u114, u115, u116, u117, u118, u119, u120, u121, u122, u123, u124, u125, u126, u127, u128, u129, u130, u131, u132, u133, u134, u135, u136, u137, u138, u139, u140, u141, u142, u143, u144, u145, u146, u147, u148, u149, u150, u151, u152, u153, u154, u155, u156, u157, u158, u159, u160, u161, u162, u163, u164, u165, u166, u167, u168, u169, u170, u171, u172, u173, u174, u175, u176, u177, u178, u179, u180, u181, u182, u183, u184, u185, u186, u187, u188, u189, u190, u191, u192, u193, u194, u195, u196, u197, u198, u199, u200, u201, u202, u203, u204, u205, u206, u207, u208, u209, u210, u211, u212, u213, u214, u215, u216, u217, u218, u219, u220, u221, u222, u223, u224, u225, u226, u227, u228, u229, u230, u231, u232, u233, u234, u235, u236, u237, u238, u239, u240, u241, u242, u243, u244, u245, u246, u247, u248, u249, u250, u251, u252, u253, u254, u255, u256, u257, u258, u259, u260, u261], []⟩ wr := by
  conv => arg 2; whnf
  have HQE : Hid _ := hE
  have HQO : Hid _ := hO
  clear hE hO
  have k2 : wr.cell? ⟨w.heap.size + 1, 2, none⟩ = some (.bool d) := HS.out.sbad
  have k1 : wr.cell? ⟨w.heap.size + 1, 1, none⟩ = some (.int .i64 b) := HS.out.sat
  cases d with
  | true =>
    have HE : Hid (rdE t ≠ 0) := rdE_none (HT.out rfl)
    have q0 : wr.cell? ⟨w.heap.size, 0, none⟩ = some (.int .i64 0) := HS.out.qcell 0
    have yy0 := HS.out.qfree 0
    have q1 : wr.cell? ⟨w.heap.size, 1, none⟩ = some (.bool false) := HS.out.qcell 1
    have yy1 := HS.out.qfree 1
    have q2 : wr.cell? ⟨w.heap.size, 2, none⟩ = some (.bool false) := HS.out.qcell 2
    have yy2 := HS.out.qfree 2
    have q3 : wr.cell? ⟨w.heap.size, 3, none⟩ = some (.int .i64 0) := HS.out.qcell 3
    have yy3 := HS.out.qfree 3
    have q4 : wr.cell? ⟨w.heap.size, 4, none⟩ = some (.string ⟨#[]⟩) := HS.out.qcell 4
    have yy4 := HS.out.qfree 4
    have q5 : wr.cell? ⟨w.heap.size, 5, none⟩ = some (.int .i64 0) := HS.out.qcell 5
    have yy5 := HS.out.qfree 5
    have q6 : wr.cell? ⟨w.heap.size, 6, none⟩ = some (.slice none 0 0) := HS.out.qcell 6
    have yy6 := HS.out.qfree 6
    go_wp2_with fail
    exact HQE.out _ _ ⟨rfl, rfl, rfl, HS.out.zeroed, atop 6 (atop 5 (atop 4 (atop 3 (atop 2 (atop 1 (atop 0 HS.out.bl (Nat.le_refl _)) (Nat.le_refl _)) (Nat.le_refl _)) (Nat.le_refl _)) (Nat.le_refl _)) (Nat.le_refl _)) (Nat.le_refl _), HE.out⟩
  | false =>
    have HFC : Hid (msgF t = if b = t.size then some ⟨(v1 : Int), v3, v8, ans, cut, R, D⟩ else none) := HF.out rfl
    obtain ⟨av, lv, cv, hvv⟩ : ∃ a l c, v = .slice a l c := by
      rcases HO.out.2 with ⟨hv, _⟩ | ⟨gq, cq, _, hv, _⟩
      · exact ⟨_, _, _, hv⟩
      · exact ⟨_, _, _, hv⟩
    subst hvv
    clear HF HT
    by_cases hbe : b = t.size
    · have HFD : Hid (msgF t = some ⟨(v1 : Int), v3, v8, ans, cut, R, D⟩) := HFC.out.trans (if_pos hbe)
      have hbn : ((b : Int) != (t.size : Int)) = false := by simp; omega
      have HSL : Hid (Rc.Sl wr (.slice av lv cv) D) := HO.out.sl (fun j => by
        by_cases hj : j < D.length
        · have : D.getD j Rc.dm = D[j] := by simp [List.getD, List.getElem?_eq_getElem hj]
          rw [this]; exact (HOK.out _ (List.getElem_mem hj)).1
        · have : D.getD j Rc.dm = Rc.dm := by simp [List.getD, List.getElem?_eq_none (by omega : D.length ≤ j)]
          rw [this]; exact Rc.dm_ok)
      have HCK : Hid (Calls Tryz.prog 37 #[.agg #[.int .i64 v1, .bool ans, .bool cut, .int .i64 v3, .string R, .int .i64 v8, .slice av lv cv]] wr fun e w' => e = .returned (.int .i64 (chkMsg v1 v3 v8 R D)) ∧ Below wr.heap.size wr w') := refMsg_any v1 v3 v8 ans cut R D _ wr (by omega) (fun r hr => ⟨by have := (HOK.out r hr).2.1; omega, by have := (HOK.out r hr).2.2; omega⟩) HSL.out
      have HSE0 : Hid (chkMsg v1 v3 v8 R D ≠ 0 → rdE t ≠ 0) := fun h => rdE_some HFD.out h
      have HRES : Hid (chkMsg v1 v3 v8 R D = 0 → ∃ M : Ms, msgF t = some M ∧ chkMsg M.id M.code M.typ M.R M.rs = 0 ∧ #[Value.int .i64 v1, .bool ans, .bool cut, .int .i64 v3, .string R, .int .i64 v8, .slice av lv cv] = #[.int .i64 M.id, .bool M.ans, .bool M.cut, .int .i64 M.code, .string M.R, .int .i64 M.typ, .slice av lv cv] ∧ M.rs = D) := fun h => ⟨_, HFD.out, h, rfl, rfl⟩
      have n0 : wr.cell? ⟨mb, 0, none⟩ = some (.int .i64 v1) := HS.out.cell 0
      have n1 : wr.cell? ⟨mb, 1, none⟩ = some (.bool ans) := HS.out.cell 1
      have n2 : wr.cell? ⟨mb, 2, none⟩ = some (.bool cut) := HS.out.cell 2
      have n3 : wr.cell? ⟨mb, 3, none⟩ = some (.int .i64 v3) := HS.out.cell 3
      have n4 : wr.cell? ⟨mb, 4, none⟩ = some (.string R) := HS.out.cell 4
      have n5 : wr.cell? ⟨mb, 5, none⟩ = some (.int .i64 v8) := HS.out.cell 5
      have n6 : wr.cell? ⟨mb, 6, none⟩ = some (.slice av lv cv) := HS.out.cell 6
      generalize chkMsg v1 v3 v8 R D = CK at *
      clear HFC HSL hbe
      go_wp2_with fail
      refine HCK.out.mono ?_
      rintro e we ⟨rfl, hbl⟩
      have HSE : Hid (Sc w t mb b false #[.int .i64 v1, .bool ans, .bool cut, .int .i64 v3, .string R, .int .i64 v8, .slice av lv cv] we) := HS.out.below hbl
      have HOE : Hid (Rc.Own (mb + 1) we (.slice av lv cv) D) := HO.out.below hbl
      have hmb := HSE.out.lt
      clear hbl n0 n1 n2 n3 n4 n5 n6 HCK HS HO k1 k2
      by_cases hck : CK = 0
      · have hcb : (CK != 0) = false := by simp [hck]
        have HRX : Hid (∃ M : Ms, msgF t = some M ∧ chkMsg M.id M.code M.typ M.R M.rs = 0 ∧ #[Value.int .i64 v1, .bool ans, .bool cut, .int .i64 v3, .string R, .int .i64 v8, .slice av lv cv] = #[.int .i64 M.id, .bool M.ans, .bool M.cut, .int .i64 M.code, .string M.R, .int .i64 M.typ, .slice av lv cv] ∧ M.rs = D) := HRES.out hck
        clear hck HRES HSE0
        have m0 : we.cell? ⟨mb, 0, none⟩ = some (.int .i64 v1) := HSE.out.cell 0
        have q0 : we.cell? ⟨w.heap.size, 0, none⟩ = some (.int .i64 0) := HSE.out.qcell 0
        have yy0 := HSE.out.qfree 0
        have m1 : we.cell? ⟨mb, 1, none⟩ = some (.bool ans) := HSE.out.cell 1
        have q1 : we.cell? ⟨w.heap.size, 1, none⟩ = some (.bool false) := HSE.out.qcell 1
        have yy1 := HSE.out.qfree 1
        have m2 : we.cell? ⟨mb, 2, none⟩ = some (.bool cut) := HSE.out.cell 2
        have q2 : we.cell? ⟨w.heap.size, 2, none⟩ = some (.bool false) := HSE.out.qcell 2
        have yy2 := HSE.out.qfree 2
        have m3 : we.cell? ⟨mb, 3, none⟩ = some (.int .i64 v3) := HSE.out.cell 3
        have q3 : we.cell? ⟨w.heap.size, 3, none⟩ = some (.int .i64 0) := HSE.out.qcell 3
        have yy3 := HSE.out.qfree 3
        have m4 : we.cell? ⟨mb, 4, none⟩ = some (.string R) := HSE.out.cell 4
        have q4 : we.cell? ⟨w.heap.size, 4, none⟩ = some (.string ⟨#[]⟩) := HSE.out.qcell 4
        have yy4 := HSE.out.qfree 4
        have m5 : we.cell? ⟨mb, 5, none⟩ = some (.int .i64 v8) := HSE.out.cell 5
        have q5 : we.cell? ⟨w.heap.size, 5, none⟩ = some (.int .i64 0) := HSE.out.qcell 5
        have yy5 := HSE.out.qfree 5
        have m6 : we.cell? ⟨mb, 6, none⟩ = some (.slice av lv cv) := HSE.out.cell 6
        have q6 : we.cell? ⟨w.heap.size, 6, none⟩ = some (.slice none 0 0) := HSE.out.qcell 6
        have yy6 := HSE.out.qfree 6
        go_wp2_with fail
        obtain ⟨M, g1, g2, g3, g4⟩ := HRX.out
        refine HQO.out _ _ ⟨M, .slice av lv cv, rfl, rfl, rfl, g1, g2, ?_, ?_, ?_⟩
        · rw [← g3]
          exact Joins.block_setCell (i := 6) (Joins.block_setCell (i := 5) (Joins.block_setCell (i := 4) (Joins.block_setCell (i := 3) (Joins.block_setCell (i := 2) (Joins.block_setCell (i := 1) (Joins.block_setCell (i := 0) HSE.out.qx _) _) _) _) _) _) _
        · exact atop 6 (atop 5 (atop 4 (atop 3 (atop 2 (atop 1 (atop 0 HSE.out.bl (Nat.le_refl _)) (Nat.le_refl _)) (Nat.le_refl _)) (Nat.le_refl _)) (Nat.le_refl _)) (Nat.le_refl _)) (Nat.le_refl _)
        · rw [g4]
          exact Rc.Own.mono (own_put (i := 6) (own_put (i := 5) (own_put (i := 4) (own_put (i := 3) (own_put (i := 2) (own_put (i := 1) (own_put (i := 0) HOE.out (by omega)) (by omega)) (by omega)) (by omega)) (by omega)) (by omega)) (by omega)) (by omega)
      · have hcb : (CK != 0) = true := by simp [hck]
        have HE : Hid (rdE t ≠ 0) := HSE0.out hck
        clear hck HRES HSE0
        have q0 : we.cell? ⟨w.heap.size, 0, none⟩ = some (.int .i64 0) := HSE.out.qcell 0
        have yy0 := HSE.out.qfree 0
        have q1 : we.cell? ⟨w.heap.size, 1, none⟩ = some (.bool false) := HSE.out.qcell 1
        have yy1 := HSE.out.qfree 1
        have q2 : we.cell? ⟨w.heap.size, 2, none⟩ = some (.bool false) := HSE.out.qcell 2
        have yy2 := HSE.out.qfree 2
        have q3 : we.cell? ⟨w.heap.size, 3, none⟩ = some (.int .i64 0) := HSE.out.qcell 3
        have yy3 := HSE.out.qfree 3
        have q4 : we.cell? ⟨w.heap.size, 4, none⟩ = some (.string ⟨#[]⟩) := HSE.out.qcell 4
        have yy4 := HSE.out.qfree 4
        have q5 : we.cell? ⟨w.heap.size, 5, none⟩ = some (.int .i64 0) := HSE.out.qcell 5
        have yy5 := HSE.out.qfree 5
        have q6 : we.cell? ⟨w.heap.size, 6, none⟩ = some (.slice none 0 0) := HSE.out.qcell 6
        have yy6 := HSE.out.qfree 6
        go_wp2_with fail
        exact HQE.out _ _ ⟨rfl, rfl, rfl, HSE.out.zeroed, atop 6 (atop 5 (atop 4 (atop 3 (atop 2 (atop 1 (atop 0 HSE.out.bl (Nat.le_refl _)) (Nat.le_refl _)) (Nat.le_refl _)) (Nat.le_refl _)) (Nat.le_refl _)) (Nat.le_refl _)) (Nat.le_refl _), HE.out⟩
    · have HE : Hid (rdE t ≠ 0) := rdE_none (HFC.out.trans (if_neg hbe))
      have hbn : ((b : Int) != (t.size : Int)) = true := by simp; omega
      clear hbe HFC
      have q0 : wr.cell? ⟨w.heap.size, 0, none⟩ = some (.int .i64 0) := HS.out.qcell 0
      have yy0 := HS.out.qfree 0
      have q1 : wr.cell? ⟨w.heap.size, 1, none⟩ = some (.bool false) := HS.out.qcell 1
      have yy1 := HS.out.qfree 1
      have q2 : wr.cell? ⟨w.heap.size, 2, none⟩ = some (.bool false) := HS.out.qcell 2
      have yy2 := HS.out.qfree 2
      have q3 : wr.cell? ⟨w.heap.size, 3, none⟩ = some (.int .i64 0) := HS.out.qcell 3
      have yy3 := HS.out.qfree 3
      have q4 : wr.cell? ⟨w.heap.size, 4, none⟩ = some (.string ⟨#[]⟩) := HS.out.qcell 4
      have yy4 := HS.out.qfree 4
      have q5 : wr.cell? ⟨w.heap.size, 5, none⟩ = some (.int .i64 0) := HS.out.qcell 5
      have yy5 := HS.out.qfree 5
      have q6 : wr.cell? ⟨w.heap.size, 6, none⟩ = some (.slice none 0 0) := HS.out.qcell 6
      have yy6 := HS.out.qfree 6
      go_wp2_with fail
      exact HQE.out _ _ ⟨rfl, rfl, rfl, HS.out.zeroed, atop 6 (atop 5 (atop 4 (atop 3 (atop 2 (atop 1 (atop 0 HS.out.bl (Nat.le_refl _)) (Nat.le_refl _)) (Nat.le_refl _)) (Nat.le_refl _)) (Nat.le_refl _)) (Nat.le_refl _)) (Nat.le_refl _), HE.out⟩

/-- How it ends, in a caller's words. -/
theorem errRet_post {w W : World} {t : ByteArray} {a : Act} (h : ErrRet w t a W) : bodyPost Tryz.prog Tryz.f11 (fun e w' => Below w.heap.size w w' ∧ ((∃ M v, msgF t = some M ∧ chkMsg M.id M.code M.typ M.R M.rs = 0 ∧ e = .returned (.tuple #[.agg #[.int .i64 M.id, .bool M.ans, .bool M.cut, .int .i64 M.code, .string M.R, .int .i64 M.typ, v], .int .i64 0]) ∧ Hid (Rc.Own w.heap.size w' v M.rs)) ∨ (rdE t ≠ 0 ∧ e = .returned (.tuple #[.agg zmsg, .int .i64 1])))) .ret a W := by
  obtain ⟨h1, h2, h3, hq, hb, he⟩ := h
  refine bodyPost_ret (v := .tuple #[.agg zmsg, .int .i64 1]) ?_ h1 ⟨hb, .inr ⟨he, rfl⟩⟩
  have q0 : W.cell? ⟨w.heap.size, 0, none⟩ = some (.int .i64 0) := cellsAt hq 0
  have q1 : W.cell? ⟨w.heap.size, 1, none⟩ = some (.bool false) := cellsAt hq 1
  have q2 : W.cell? ⟨w.heap.size, 2, none⟩ = some (.bool false) := cellsAt hq 2
  have q3 : W.cell? ⟨w.heap.size, 3, none⟩ = some (.int .i64 0) := cellsAt hq 3
  have q4 : W.cell? ⟨w.heap.size, 4, none⟩ = some (.string ⟨#[]⟩) := cellsAt hq 4
  have q5 : W.cell? ⟨w.heap.size, 5, none⟩ = some (.int .i64 0) := cellsAt hq 5
  have q6 : W.cell? ⟨w.heap.size, 6, none⟩ = some (.slice none 0 0) := cellsAt hq 6
  have h2' : a.tmps[2]?.getD undef = .pointer (some ⟨w.heap.size, 0, none⟩) := by simpa using h2
  have h3' : a.tmps[3]?.getD undef = .int .i64 1 := by simpa using h3
  simp [results, Tryz.results11, go_sem, h2', h3', q0, q1, q2, q3, q4, q5, q6]
theorem okRet_post {w W : World} {t : ByteArray} {a : Act} (h : OkRet w t a W) : bodyPost Tryz.prog Tryz.f11 (fun e w' => Below w.heap.size w w' ∧ ((∃ M v, msgF t = some M ∧ chkMsg M.id M.code M.typ M.R M.rs = 0 ∧ e = .returned (.tuple #[.agg #[.int .i64 M.id, .bool M.ans, .bool M.cut, .int .i64 M.code, .string M.R, .int .i64 M.typ, v], .int .i64 0]) ∧ Hid (Rc.Own w.heap.size w' v M.rs)) ∨ (rdE t ≠ 0 ∧ e = .returned (.tuple #[.agg zmsg, .int .i64 1])))) .ret a W := by
  obtain ⟨M, v, h1, h2, h3, h4, h5, hq, hb, ho⟩ := h
  refine bodyPost_ret (v := .tuple #[.agg #[.int .i64 M.id, .bool M.ans, .bool M.cut, .int .i64 M.code, .string M.R, .int .i64 M.typ, v], .int .i64 0]) ?_ h1 ⟨hb, .inl ⟨M, v, h4, h5, rfl, ho⟩⟩
  have q0 : W.cell? ⟨w.heap.size, 0, none⟩ = some (.int .i64 M.id) := cellsAt hq 0
  have q1 : W.cell? ⟨w.heap.size, 1, none⟩ = some (.bool M.ans) := cellsAt hq 1
  have q2 : W.cell? ⟨w.heap.size, 2, none⟩ = some (.bool M.cut) := cellsAt hq 2
  have q3 : W.cell? ⟨w.heap.size, 3, none⟩ = some (.int .i64 M.code) := cellsAt hq 3
  have q4 : W.cell? ⟨w.heap.size, 4, none⟩ = some (.string M.R) := cellsAt hq 4
  have q5 : W.cell? ⟨w.heap.size, 5, none⟩ = some (.int .i64 M.typ) := cellsAt hq 5
  have q6 : W.cell? ⟨w.heap.size, 6, none⟩ = some v := cellsAt hq 6
  have h2' : a.tmps[2]?.getD undef = .pointer (some ⟨w.heap.size, 0, none⟩) := by simpa using h2
  have h3' : a.tmps[3]?.getD undef = .int .i64 0 := by simpa using h3
  obtain ⟨av, lv, cv, rfl⟩ : ∃ a l c, v = .slice a l c := by
    rcases ho.2 with ⟨hv, _⟩ | ⟨gq, cq, _, hv, _⟩
    · exact ⟨_, _, _, hv⟩
    · exact ⟨_, _, _, hv⟩
  simp [results, Tryz.results11, go_sem, h2', h3', q0, q1, q2, q3, q4, q5, q6]

end Go.Proofs.YtigffgjkakalfaaGreatDoor

/- The document's MessageOf. -/
namespace Go.Proofs.YtigffgjkakalfaaGreatDoor
open Go.RowKit

set_option maxHeartbeats 6400000 in
set_option maxRecDepth 100000 in
theorem mof_s (t : ByteArray) (w : World) (hl : t.size ≤ 512) : Calls Tryz.prog 11 #[.string t] w fun e w' =>
    Below w.heap.size w w' ∧ ((∃ M v, msgF t = some M ∧ chkMsg M.id M.code M.typ M.R M.rs = 0 ∧ e = .returned (.tuple #[.agg #[.int .i64 M.id, .bool M.ans, .bool M.cut, .int .i64 M.code, .string M.R, .int .i64 M.typ, v], .int .i64 0]) ∧ Hid (Rc.Own w.heap.size w' v M.rs)) ∨ (rdE t ≠ 0 ∧ e = .returned (.tuple #[.agg zmsg, .int .i64 1]))) := by
  have hcmp : decide (512 < (t.size : Int)) = false := by simp; omega
  have hs : t.size ≤ 1000 := by omega
  clear hl
  go_enter Tryz.func11, Tryz.ntmps11
  go_wp2_with fail
  obtain ⟨w0, hw0⟩ : ∃ w0, w0 = (w.alloc (.cells zmsg 38)).alloc (.cells #[.string t, .int .i64 0, .bool false] 76) := ⟨_, rfl⟩
  rw [← hw0]
  have hx0 : w.Extends w0 := by rw [hw0]; exact ((World.Extends.refl w).alloc _).alloc _
  have B0 : Hid (Below w.heap.size w w0) := (show Below _ _ _ by rw [hw0]; exact ((Below.refl _ _).alloc (Nat.le_refl _) _).alloc (by simp) _)
  have Q0 : Hid (w0.heap[w.heap.size]? = some (.cells zmsg 38 (0, 0))) := (show _ = _ by rw [hw0]; exact (Lib.alloc_old _ _ _ (by simp)).trans (heap_alloc_new w _))
  have I0 : Hid (IsC (w.heap.size + 1) t 0 false w0) := (show IsC _ _ _ _ _ by
    unfold IsC
    rw [hw0]
    have := heap_alloc_new (w.alloc (.cells zmsg 38)) (.cells #[.string t, .int .i64 0, .bool false] 76)
    simpa using this)
  clear hw0 hx0
  refine (snum_l (w.heap.size + 1) 0 2 t false w0 I0.out hs (by omega) (by omega) (by omega)).mono ?_
  rintro e w1 ⟨v1, b1, d1, rfl, hb1, hv1, HD1, HI1, HN1⟩
  have hlt1 : w.heap.size + 1 < w1.heap.size := HI1.out.lt
  have hq1 : w.heap.size < w0.heap.size := by have := I0.out.lt; omega
  go_wp2_with fail
  obtain ⟨w2, hw2⟩ : ∃ w2, w2 = w1.alloc (.cells #[.int .i64 v1, .bool false, .bool false, .int .i64 0, .string ⟨#[]⟩, .int .i64 0, .slice none 0 0] 38) := ⟨_, rfl⟩
  rw [← hw2]
  obtain ⟨mb, hmb⟩ : ∃ mb, mb = w1.heap.size := ⟨_, rfl⟩
  have S0 : Hid (Sc w t mb b1 d1 #[.int .i64 v1, .bool false, .bool false, .int .i64 0, .string ⟨#[]⟩, .int .i64 0, .slice none 0 0] w2) := (show Sc _ _ _ _ _ _ _ by
    have hx : w1.Extends w2 := by rw [hw2]; exact (World.Extends.refl _).alloc _
    refine ⟨(hx.block _ hlt1).trans HI1.out, ?_, ?_, ?_, by omega⟩
    · exact ⟨hx.os.trans (HD1.out.os.trans B0.out.os), hx.tape.trans (HD1.out.tape.trans B0.out.tape), hx.output.trans (HD1.out.output.trans B0.out.output), by have := hx.size; have := HD1.out.size; have := B0.out.size; omega, fun j hj => (hx.block j (by omega)).trans ((HD1.out.block j (by omega) (by omega)).trans (B0.out.block j hj))⟩
    · exact (hx.block _ (by omega)).trans ((HD1.out.block _ hq1 (by omega)).trans Q0.out)
    · rw [hmb, hw2]; exact heap_alloc_new w1 _)
  rw [← hmb]
  clear hw2 hmb HI1 HD1 B0 Q0 I0 hlt1 hq1
  refine (snum_l (w.heap.size + 1) b1 1 t d1 w2 S0.out.sc hs (by omega) (by omega) hb1).mono ?_
  rintro e w3 ⟨v2, b2, d2, rfl, hb2, hv2, HD, HI, HN2⟩
  have S1 : Hid (Sc w t mb b2 d2 #[.int .i64 v1, .bool false, .bool false, .int .i64 0, .string ⟨#[]⟩, .int .i64 0, .slice none 0 0] w3) := S0.out.call HI HD
  have z1 := S1.out.free 1
  have z2 := S1.out.free 2
  have c1 : w3.cell? ⟨mb, 1, none⟩ = some (.bool false) := S1.out.cell 1
  have c2 : w3.cell? ⟨mb, 2, none⟩ = some (.bool false) := S1.out.cell 2
  clear S0 HD HI
  obtain ⟨ans, hans⟩ : ∃ x, decide ((128 : Int) ≤ (v2 : Int)) = x := ⟨_, rfl⟩
  obtain ⟨cut, hcutb⟩ : ∃ x, decide ((2 : Int) ≤ (v2 : Int) % 4) = x := ⟨_, rfl⟩
  go_wp2_with fail
  have S2 : Hid (Sc w t mb b2 d2 #[.int .i64 v1, .bool ans, .bool cut, .int .i64 0, .string ⟨#[]⟩, .int .i64 0, .slice none 0 0] ((w3.setCell ⟨mb, 1, none⟩ (.bool ans)).setCell ⟨mb, 2, none⟩ (.bool cut))) := (S1.out.store 1 (.bool ans)).store 2 (.bool cut)
  refine (snum_l (w.heap.size + 1) b2 1 t d2 _ S2.out.sc hs (by omega) (by omega) hb2).mono ?_
  rintro e w4 ⟨v3, b3, d3, rfl, hb3, hv3, HD, HI, HN3⟩
  have S3 : Hid (Sc w t mb b3 d3 #[.int .i64 v1, .bool ans, .bool cut, .int .i64 0, .string ⟨#[]⟩, .int .i64 0, .slice none 0 0] w4) := S2.out.call HI HD
  have z1 := S3.out.free 3
  have c1 : w4.cell? ⟨mb, 3, none⟩ = some (.int .i64 0) := S3.out.cell 3
  clear S1 S2 HD HI z2 c2
  have HAN : Hid (decide ((128 : Int) ≤ (v2 : Int)) = ans) := hans
  have HCU : Hid (decide ((2 : Int) ≤ (v2 : Int) % 4) = cut) := hcutb
  clear hans hcutb
  go_wp2_with fail
  have S4 : Hid (Sc w t mb b3 d3 #[.int .i64 v1, .bool ans, .bool cut, .int .i64 v3, .string ⟨#[]⟩, .int .i64 0, .slice none 0 0] (w4.setCell ⟨mb, 3, none⟩ (.int .i64 v3))) := S3.out.store 3 (.int .i64 v3)
  refine (snum_l (w.heap.size + 1) b3 2 t d3 _ S4.out.sc hs (by omega) (by omega) hb3).mono ?_
  rintro e w5 ⟨v4, b4, d4, rfl, hb4, hv4, HD, HI, HN4⟩
  have S5 : Hid (Sc w t mb b4 d4 #[.int .i64 v1, .bool ans, .bool cut, .int .i64 v3, .string ⟨#[]⟩, .int .i64 0, .slice none 0 0] w5) := S4.out.call HI HD
  clear S3 S4 HD HI z1 c1
  go_wp2_with fail
  refine (snum_l (w.heap.size + 1) b4 2 t d4 _ S5.out.sc hs (by omega) (by omega) hb4).mono ?_
  rintro e w6 ⟨v5, b5, d5, rfl, hb5, hv5, HD, HI, HN5⟩
  have S6 : Hid (Sc w t mb b5 d5 #[.int .i64 v1, .bool ans, .bool cut, .int .i64 v3, .string ⟨#[]⟩, .int .i64 0, .slice none 0 0] w6) := S5.out.call HI HD
  clear S5 HD HI
  go_wp2_with fail
  refine (snum_l (w.heap.size + 1) b5 4 t d5 _ S6.out.sc hs (by omega) (by omega) hb5).mono ?_
  rintro e w7 ⟨v6, b6, d6, rfl, hb6, hv6, HD, HI, HN6⟩
  have S7 : Hid (Sc w t mb b6 d6 #[.int .i64 v1, .bool ans, .bool cut, .int .i64 v3, .string ⟨#[]⟩, .int .i64 0, .slice none 0 0] w7) := S6.out.call HI HD
  have HH : Hid (HeadL t v1 v2 v3 v4 v5 v6 b6 d6) := headL HN1.out HN2.out HN3.out HN4.out HN5.out HN6.out
  clear S6 HD HI HN1 HN2 HN3 HN4 HN5 HN6 hb1 hb2 hb3 hb4 hb5
  have c3 : w7.cell? ⟨mb, 3, none⟩ = some (.int .i64 v3) := S7.out.cell 3
  have k2 : w7.cell? ⟨w.heap.size + 1, 2, none⟩ = some (.bool d6) := S7.out.sbad
  have HEB : Hid (d6 = false → ¬ (flB v2 ∧ v3 ≤ 15 ∧ v4 = 1 ∧ v5 ≤ 20 ∧ v6 = 0) → rdE t ≠ 0) := fun e hno => by
    obtain ⟨g1, g2, g3, g4, g5, g6, g7, g8⟩ := HH.out.good e
    by_cases hh : flB v2 ∧ v4 = 1 ∧ v6 = 0
    · obtain ⟨h1, h2, h3⟩ := hh
      refine rdE_great (msgF_head g1 (by rw [← g3]; exact h1) (by omega) (by omega)) ?_
      by_cases h4 : v3 ≤ 15
      · exact .inr (by by_cases h5 : v5 ≤ 20; exact absurd ⟨h1, h4, h2, h5, h3⟩ hno; omega)
      · exact .inl (by omega)
    · refine rdE_none (msgF_nohead ?_)
      rw [← g3, ← g5, ← g7]
      by_cases h1 : flB v2
      · by_cases h2 : v4 = 1
        · exact .inr (.inr (fun h3 => hh ⟨h1, h2, h3⟩))
        · exact .inr (.inl h2)
      · exact .inl h1
  have HHB : Hid (d6 = true → rdE t ≠ 0) := fun e => rdE_none (HH.out.bad e)
  go_upto_region 12 with fail
  refine p12 w w7 t mb v2 v3 v4 v5 v6 k2 c3 _ HHB HEB ?_
  intro y43 y44 y45 y46 y47 y48 y49 y50 y51 y52 y53 y54 y55 y56 y57 y58 y59 y60 y61 y62 y63 y64 y65 y66 y67 y68 y69 y70 y71 y72 y73 y74 y75 y76 y77 y78 x HX1 HX2
  cases x with
  | true =>
    have HE : Hid (rdE t ≠ 0) := HX1.out rfl
    have q0 : w7.cell? ⟨w.heap.size, 0, none⟩ = some (.int .i64 0) := S7.out.qcell 0
    have yy0 := S7.out.qfree 0
    have q1 : w7.cell? ⟨w.heap.size, 1, none⟩ = some (.bool false) := S7.out.qcell 1
    have yy1 := S7.out.qfree 1
    have q2 : w7.cell? ⟨w.heap.size, 2, none⟩ = some (.bool false) := S7.out.qcell 2
    have yy2 := S7.out.qfree 2
    have q3 : w7.cell? ⟨w.heap.size, 3, none⟩ = some (.int .i64 0) := S7.out.qcell 3
    have yy3 := S7.out.qfree 3
    have q4 : w7.cell? ⟨w.heap.size, 4, none⟩ = some (.string ⟨#[]⟩) := S7.out.qcell 4
    have yy4 := S7.out.qfree 4
    have q5 : w7.cell? ⟨w.heap.size, 5, none⟩ = some (.int .i64 0) := S7.out.qcell 5
    have yy5 := S7.out.qfree 5
    have q6 : w7.cell? ⟨w.heap.size, 6, none⟩ = some (.slice none 0 0) := S7.out.qcell 6
    have yy6 := S7.out.qfree 6
    go_wp2_with fail
    refine bodyPost_ret (v := .tuple #[.agg zmsg, .int .i64 1]) ?_ rfl ⟨?_, .inr ⟨HE.out, rfl⟩⟩
    · simp [results, Tryz.results11, go_sem, q0, q1, q2, q3, q4, q5, q6]
    · exact atop 6 (atop 5 (atop 4 (atop 3 (atop 2 (atop 1 (atop 0 S7.out.bl (Nat.le_refl _)) (Nat.le_refl _)) (Nat.le_refl _)) (Nat.le_refl _)) (Nat.le_refl _)) (Nat.le_refl _)) (Nat.le_refl _)
  | false =>
    obtain ⟨hfl, h15, h1, h20, h0, hd6⟩ := HX2.out rfl
    have HM : Hid (msgF t = msgT t v1 ans cut v3 v5 (tgF t 12)) := (show _ = _ by
      obtain ⟨g1, g2, g3, g4, g5, g6, g7, g8⟩ := HH.out.good hd6
      have hA : decide (128 ≤ rnum t 2 1) = ans := by rw [← HAN.out, ← g3]; apply decide_eq_decide.2; omega
      have hC : decide (2 ≤ rnum t 2 1 % 4) = cut := by rw [← HCU.out, ← g3]; apply decide_eq_decide.2; omega
      have := msgF_head g1 (by rw [← g3]; exact hfl) (by omega) (by omega)
      rw [hA, hC] at this
      rw [this, ← g2, ← g4, ← g6])
    have h12 : 12 ≤ t.size ∧ b6 = 12 := by
      obtain ⟨g1, _, _, _, _, _, _, g8⟩ := HH.out.good hd6
      exact ⟨g1, g8⟩
    obtain ⟨h12, hb12⟩ := h12
    subst hd6
    subst hb12
    clear HH HX1 HX2 HAN HCU HEB hfl h0 h1 k2 c3 c1 z1
    go_wp2_with fail
    refine (sname_l (w.heap.size + 1) 12 t false w7 S7.out.sc hs (by omega) (fun _ => h12)).mono ?_
    rintro e w8 ⟨R, b7, d7, rfl, hb7, hR, HD, HI, HN7⟩
    have S8 : Hid (Sc w t mb b7 d7 #[.int .i64 v1, .bool ans, .bool cut, .int .i64 v3, .string ⟨#[]⟩, .int .i64 0, .slice none 0 0] w8) := S7.out.call HI HD
    have z4 := S8.out.free 4
    have c4 : w8.cell? ⟨mb, 4, none⟩ = some (.string ⟨#[]⟩) := S8.out.cell 4
    clear S7 HD HI
    go_wp2_with fail
    have S9 : Hid (Sc w t mb b7 d7 #[.int .i64 v1, .bool ans, .bool cut, .int .i64 v3, .string R, .int .i64 0, .slice none 0 0] (w8.setCell ⟨mb, 4, none⟩ (.string R))) := S8.out.store 4 (.string R)
    refine (snum_l (w.heap.size + 1) b7 2 t d7 _ S9.out.sc hs (by omega) (by omega) hb7).mono ?_
    rintro e w9 ⟨v8, b8, d8, rfl, hb8, hv8, HD, HI, HN8⟩
    have SA : Hid (Sc w t mb b8 d8 #[.int .i64 v1, .bool ans, .bool cut, .int .i64 v3, .string R, .int .i64 0, .slice none 0 0] w9) := S9.out.call HI HD
    have z5 := SA.out.free 5
    have c5 : w9.cell? ⟨mb, 5, none⟩ = some (.int .i64 0) := SA.out.cell 5
    clear S8 S9 HD HI z4 c4
    go_upto_region 16 with fail
    obtain ⟨wb, hwb⟩ : ∃ wb, wb = w9.setCell ⟨mb, 5, none⟩ (.int .i64 v8) := ⟨_, rfl⟩
    have SB : Hid (Sc w t mb b8 d8 #[.int .i64 v1, .bool ans, .bool cut, .int .i64 v3, .string R, .int .i64 v8, .slice none 0 0] wb) := (show Sc _ _ _ _ _ _ _ by rw [hwb]; exact SA.out.store 5 (.int .i64 v8))
    rw [← hwb]
    clear SA z5 c5 hwb
    have k2 : wb.cell? ⟨w.heap.size + 1, 2, none⟩ = some (.bool d8) := SB.out.sbad
    have k3 := SB.out.sfree 2
    go_cut [98] (fun _ wx => ∃ (b9 : Nat) (dq : Bool), b9 ≤ 20000 ∧ Hid (Sc w t mb b9 dq #[.int .i64 v1, .bool ans, .bool cut, .int .i64 v3, .string R, .int .i64 v8, .slice none 0 0] wx) ∧ Hid (dq = true → msgF t = none) ∧ Hid (dq = false → b9 ≤ t.size ∧ msgF t = msgU t v1 ans cut v3 R v8 (recsF t v5 b9 [])))
    case first =>
        cases d8 with
        | true =>
          go_wp2_with fail
          go_meet
          exact ⟨b8, true, hb8, SB.out.mark true, fun _ => q_bad HM.out HN7.out HN8.out, fun e => by cases e⟩
        | false =>
          go_wp2_with fail
          refine (snum_l (w.heap.size + 1) b8 2 t false _ SB.out.sc hs (by omega) (by omega) hb8).mono ?_
          rintro e wd ⟨v9, b9, d9, rfl, hb9, hv9, HD, HI, HN9⟩
          have SD : Hid (Sc w t mb b9 d9 #[.int .i64 v1, .bool ans, .bool cut, .int .i64 v3, .string R, .int .i64 v8, .slice none 0 0] wd) := SB.out.call HI HD
          have k5 : wd.cell? ⟨w.heap.size + 1, 2, none⟩ = some (.bool d9) := SD.out.sbad
          have k6 := SD.out.sfree 2
          have HQ := q_end HM.out HN7.out HN8.out HN9.out
          have HQ1 : Hid (((v9 : Int) != 1) = true → msgF t = none) := HQ.1
          have HQ2 : Hid (((v9 : Int) != 1) = false → b9 ≤ t.size ∧ msgF t = msgU t v1 ans cut v3 R v8 (recsF t v5 b9 [])) := HQ.2
          clear HQ HD HI k2 k3 SB HM HN7 HN8 HN9
          go_wp2_with fail
          go_meet
          exact ⟨b9, _, hb9, SD.out.mark _, HQ1, HQ2⟩
    case rest =>
      obtain ⟨b9, dq, hb9, SE, HQ1, HQ2⟩ := hcut
      clear SB k2 k3 HM HN7 HN8 hb7 hb8
      go_upto_block 0 with fail
      refine ploop w wc t R mb b9 v1 v3 v5 v8 ans cut dq hs h20 hb9 SE HQ1 HQ2 _ (fun a W hh => errRet_post hh) ?_
      intro y3 y11 y12 y13 y14 y101 y102 y103 y104 y105 y106 y107 y108 y109 y110 y111 y112 y113 y114 y115 y116 y117 y118 y119 y120 y121 y122 y123 y124 y125 y126 y127 y128 y129 y130 y131 y132 y133 y134 y135 y136 y137 y138 y139 y140 y141 y142 y143 y144 y145 y146 y147 y148 y149 y150 y151 y152 y153 y154 y155 y156 y157 y158 y159 y160 y161 y162 y163 y164 y165 y166 y167 y168 y169 y170 y171 y172 y173 y174 y175 y176 y177 y178 y179 y180 y181 y182 y183 y184 y185 y186 y187 y188 y189 y190 y191 y192 y193 y194 y195 y196 y197 y198 y199 y200 y201 y202 y203 y204 y205 y206 y207 y208 y209 y210 y211 y212 y213 y214 y215 y216 y217 y218 y219 y220 y221 y222 y223 y224 y225 y226 y227 y228 y229 y230 y231 y232 y233 y234 y235 y236 y237 y238 y239 y240 y241 y10 v D b d wr HS HO HOK HT HF
      clear SE HQ1 HQ2
      refine (‹∀ (a : Act) (w : World), Code.wp Tryz.prog _ _ a w → _›) _ _ ?_
      exact ptail w wr t R mb b v1 v3 v8 ans cut d v D hR HS HO HOK HT HF _ (fun a W hh => errRet_post hh) (fun a W hh => okRet_post hh)

theorem mof_b (t : ByteArray) (w : World) : Calls Tryz.prog 11 #[.string t] w (RdP t w) := by
  by_cases hl : t.size ≤ 512
  · refine (mof_s t w hl).mono ?_
    rintro e w' ⟨h1, ⟨M, v, h2, h3, h4, h5⟩ | ⟨h2, h3⟩⟩
    · exact ⟨h1, .inl ⟨M, v, h2, hl, h3, h4, h5⟩⟩
    · exact ⟨h1, .inr ⟨1, by rw [if_pos hl], fun _ => h2, h3⟩⟩
  · refine (mof_long t w hl).mono ?_
    rintro e w' ⟨h1, h2⟩
    exact ⟨h2, .inr ⟨2, by rw [if_neg hl], fun h => absurd h hl, h1⟩⟩

end Go.Proofs.YtigffgjkakalfaaGreatDoor

/- DnsReads. -/
namespace Go.Proofs.YtigffgjkakalfaaGreatDoor
open Go.RowKit

/-- What a message in memory is. -/
def MsV (w : World) (m : Option Ms) (x : Array Value) : Prop := match m with
  | none => x = zmsg
  | some M => ∃ v, Rc.Sl w v M.rs ∧ M.rs.length ≤ 1000 ∧ x = #[.int .i64 M.id, .bool M.ans, .bool M.cut, .int .i64 M.code, .string M.R, .int .i64 M.typ, v]
theorem MsV.below {w w' : World} {m : Option Ms} {x : Array Value} (h : MsV w m x) (hb : Below w.heap.size w w') : MsV w' m x := by
  cases m with
  | none => exact h
  | some M =>
    obtain ⟨v, h1, h2, h3⟩ := h
    exact ⟨v, h1.below hb, h2, h3⟩
/-- The message that a text says, where it says one; and the error. -/
def rdM (t : ByteArray) : Option Ms := if t.size ≤ 512 ∧ rdE t = 0 then msgF t else none
def rdX (t : ByteArray) : Int := if t.size ≤ 512 then (if rdE t = 0 then 0 else 1) else 2
theorem rdP_is {t : ByteArray} {w : World} {e : Ending} {w' : World} (h : RdP t w e w') : ∃ i a c o r y p l k, e = .returned (.tuple #[.agg #[.int .i64 i, .bool a, .bool c, .int .i64 o, .string r, .int .i64 y, .slice p l k], .int .i64 (rdX t)]) ∧ Hid (MsV w' (rdM t) #[.int .i64 i, .bool a, .bool c, .int .i64 o, .string r, .int .i64 y, .slice p l k]) ∧ Below w.heap.size w w' := by
  obtain ⟨hb, ⟨M, v, hM, hl, hc, he, ho⟩ | ⟨E, hE, hE2, he⟩⟩ := h
  · have h0 : rdE t = 0 := by unfold rdE; rw [hM]; exact hc
    have hx : rdX t = 0 := by unfold rdX; rw [if_pos hl, if_pos h0]
    have hm : rdM t = some M := by unfold rdM; rw [if_pos ⟨hl, h0⟩, hM]
    have hcf := chkMsg_facts hc
    obtain ⟨p, l, k, rfl⟩ : ∃ a l c, v = .slice a l c := by
      rcases ho.out.2 with ⟨hv, _⟩ | ⟨gq, cq, _, hv, _⟩
      · exact ⟨_, _, _, hv⟩
      · exact ⟨_, _, _, hv⟩
    refine ⟨M.id, M.ans, M.cut, M.code, M.R, M.typ, p, l, k, by rw [hx]; exact he, ?_, hb⟩
    rw [hm]
    exact ⟨_, ho.out.sl (recs_ok hcf.2.2), by have := hcf.1; omega, rfl⟩
  · have hm : rdM t = none := by
      unfold rdM
      rw [if_neg (fun h => hE2 h.1 h.2)]
    have hx : rdX t = E := by
      unfold rdX
      rw [hE]
      by_cases hl : t.size ≤ 512
      · rw [if_pos hl, if_pos hl, if_neg (hE2 hl)]
      · rw [if_neg hl, if_neg hl]
    refine ⟨0, false, false, 0, ⟨#[]⟩, 0, none, 0, 0, by rw [hx]; exact he, ?_, hb⟩
    rw [hm]
    exact (rfl : _ = zmsg)
theorem sameMsV (m : Option Ms) (x y : Array Value) (w : World) (hx : MsV w m x) (hy : MsV w m y) : Calls Tryz.prog 12 #[.agg x, .agg y] w fun e w' => e = .returned (.bool true) ∧ Below w.heap.size w w' := by
  cases m with
  | none =>
    have h1 : x = zmsg := hx
    have h2 : y = zmsg := hy
    rw [h1, h2]
    exact sameMsg_ok 0 0 0 false false ⟨#[]⟩ [] _ _ w ⟨none, 0, rfl, fun j => by simp [Rc.dm_ok], .inl rfl⟩ ⟨none, 0, rfl, fun j => by simp [Rc.dm_ok], .inl rfl⟩ (by simp)
  | some M =>
    obtain ⟨v1, h1, h2, h3⟩ := hx
    obtain ⟨v2, h4, _, h6⟩ := hy
    rw [h3, h6]
    exact sameMsg_ok M.id M.code M.typ M.ans M.cut M.R M.rs v1 v2 w h1 h4 h2

end Go.Proofs.YtigffgjkakalfaaGreatDoor

