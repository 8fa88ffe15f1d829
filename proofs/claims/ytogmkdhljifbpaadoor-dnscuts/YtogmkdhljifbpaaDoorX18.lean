/- FL, GH, GM, DKQ, GT, GI, ShelfM, ML0, ML1 -/
import Derived.Test.YtogmkdhljifbpaaDoorX11
import Derived.Test.YtogmkdhljifbpaaDoorX3
import Derived.Test.YtogmkdhljifbpaaDoorX16
import Derived.Test.YtogmkdhljifbpaaDoorX9
import Derived.Test.YtogmkdhljifbpaaDoorX17
import Derived.Test.YtogmkdhljifbpaaDoorX12
import Derived.Test.YtogmkdhljifbpaaDoorX6
import Derived.Lib.SmallJoins
import Derived.Lib.QuietBelow
import Derived.Test.YtogmkdhljifbpaaDoorX5
import Derived.Test.YtogmkdhljifbpaaDoorRows
import Derived.Deep.Slices
import Derived.ProofKit
import Derived.OpenShut
import Derived.Handed
import Derived.Shelf.Strings.Builder1
import Derived.Shelf.Strings.Builder2
import Derived.Shelf.Strings.OnBuilder
import Derived.Shelf.LaysM
import Derived.Shelf.Strconv.Clone
import Derived.Shelf.Strings.Search1
import Derived.Shelf.Strings.Search2
import Derived.Shelf.Strings.Search3
import Derived.Shelf.Strings.Cut
import Derived.Shelf.Strings.Count
import Derived.Shelf.Strings.Shaped
import Derived.Shelf.Strings.Split
import Derived.Shelf.Strings.SplitShaped
import Derived.Shelf.Unicode.DecodeSlow
import Derived.Test.YtogmkdhljifbpaaDoorProg
import Derived.Test.YtogmkdhljifbpaaDoorX2
/- What must be in any case; DnsChecks. -/
namespace Go.Proofs.YtogmkdhljifbpaaDoor
open Go.RowKit Go.Lib

abbrev nameAB : ByteArray := ⟨#[97, 46, 98]⟩
abbrev textAB : ByteArray := ⟨#[1, 2, 0, 0, 0, 1, 0, 0, 0, 0, 0, 0, 1, 97, 1, 98, 0, 0, 1, 0, 1]⟩
theorem textAB_is : (⟨(wmsgL 258 0 1 false false nameAB).toArray⟩ : ByteArray) = textAB := by kernel_rfl
theorem chkAB : chkN nameAB = 0 := by kernel_rfl
theorem lenAB : (wmsgL 258 0 1 false false nameAB).length = 21 := by kernel_rfl

theorem readsAB : Reads textAB 258 0 1 nameAB := ⟨fun g w h => by
  have h := rmessage_none g 258 0 1 17 [⟨#[97]⟩, ⟨#[98]⟩] textAB w h (by decide) (by kernel_rfl) (by kernel_rfl) (by kernel_rfl) (by kernel_rfl) (by kernel_rfl) (by kernel_rfl) (by kernel_rfl)
    ⟨by kernel_rfl, by decide, by kernel_rfl, by kernel_rfl, by decide, by kernel_rfl, by decide, by kernel_rfl⟩ (fun l hl => by
      simp only [List.mem_cons, List.not_mem_nil, or_false] at hl
      rcases hl with rfl | rfl <;> kernel_rfl) (by decide) (by decide) (by kernel_rfl) (by kernel_rfl) (by kernel_rfl) (by decide) (by kernel_rfl)
  exact h⟩

set_option maxHeartbeats 1600000 in
set_option maxRecDepth 100000 in
theorem dnsBegun_any (w : World) (hm : ML w) :
    Calls Tryd.prog 9 #[] w fun e w' => e = .returned (.bool true) ∧ Below w.heap.size w w' := by
  have HW : Hid (Calls Tryd.prog 12 #[msgV 258 0 1 false false nameAB] w fun e w' => e = .returned (.tuple #[.string textAB, .int .i64 0]) ∧ Below w.heap.size w w') := (show Calls _ _ _ _ _ by
    have h := write_none 258 0 1 false false nameAB w hm (by decide) (by decide) (by decide) chkAB (by decide) (by rw [lenAB]; omega)
    rw [textAB_is] at h
    exact h)
  have HR : Hid (∀ W, Calls Tryd.prog 16 #[.string textAB] W fun e w' => e = .returned (.tuple #[msgV 258 0 1 false false nameAB, .int .i64 0]) ∧ Below W.heap.size W w') := fun W => read_none 258 0 1 nameAB textAB W readsAB (by decide) (by decide) (by decide) (by decide) chkAB (by decide)
  have hsz : textAB.size = 21 := by kernel_rfl
  clear hm
  generalize textAB = T at *
  go_enter Tryd.func9, Tryd.ntmps9
  go_wp2_with fail
  refine HW.out.mono ?_
  rintro e w1 ⟨rfl, hb1⟩
  have HB1 : Hid (Below w.heap.size w w1) := hb1
  have hl1 := hb1.size
  clear hb1
  go_wp2_with fail
  refine (HR.out _).mono ?_
  rintro e w2 ⟨rfl, hb2⟩
  have HB2 : Hid (Below w.heap.size w w2) := HB1.out.trans (hb2.mono hl1)
  have hl2 := HB2.out.size
  clear hb2 HB1
  have h21 : ((T.size : Int) == 21) = true := by rw [hsz]; rfl
  go_wp2_with fail
  simp [bodyPost, results, Tryd.results9]
  exact HB2.out.alloc hl2 _

set_option maxHeartbeats 1600000 in
set_option maxRecDepth 100000 in
theorem dnsChecks_walk (s : ByteArray) (w : World) (hm : ML w) (hs : s.size ≤ 2000000) :
    Calls Tryd.prog 3 #[.string s] w fun e w' => e = .returned (.bool true) ∧ Below w.heap.size w w' := by
  have HB : Hid (Calls Tryd.prog 9 #[] w fun e w' => e = .returned (.bool true) ∧ Below w.heap.size w w') := dnsBegun_any w hm
  have HC : Hid (∀ W, Calls Tryd.prog 10 #[.string s] W fun e w' => e = .returned (.int .i64 (chkN s)) ∧ Below W.heap.size W w') := fun W => dnsCheck_any s W (by unfold maxLen; omega)
  have HR : Hid (∀ W, Calls Tryd.prog 11 #[.string s] W fun e w' => e = .returned (.int .i64 (chkN s)) ∧ Below W.heap.size W w') := fun W => rCheckName_any s W hs
  generalize chkN s = E at *
  clear hm hs
  go_enter Tryd.func3, Tryd.ntmps3
  go_wp2_with fail
  refine HB.out.mono ?_
  rintro e w1 ⟨rfl, hb1⟩
  have HB1 : Hid (Below w.heap.size w w1) := hb1
  have hl1 := hb1.size
  clear hb1
  go_wp2_with fail
  refine (HC.out _).mono ?_
  rintro e w2 ⟨rfl, hb2⟩
  have HB2 : Hid (Below w.heap.size w w2) := HB1.out.trans (hb2.mono hl1)
  have hl2 := HB2.out.size
  clear hb2 HB1
  go_wp2_with fail
  refine (HR.out _).mono ?_
  rintro e w3 ⟨rfl, hb3⟩
  have HB3 : Hid (Below w.heap.size w w3) := HB2.out.trans (hb3.mono hl2)
  clear hb3 HB2
  go_wp2_with fail
  go_ret
  exact ⟨rfl, HB3.out⟩

end Go.Proofs.YtogmkdhljifbpaaDoor

/- DnsWrites. -/
namespace Go.Proofs.YtogmkdhljifbpaaDoor
open Go.RowKit

set_option maxHeartbeats 800000 in
set_option maxRecDepth 100000 in
theorem textIs_bad (E : Int) (want : ByteArray) (w : World) (h : E ≠ 0) :
    Calls Tryd.prog 15 #[.string ⟨#[]⟩, .int .i64 E, .int .i64 E, .string want] w fun e w' => e = .returned (.bool true) ∧ w' = w := by
  have h1 : (E != 0) = true := by simpa using h
  go_enter Tryd.func15, Tryd.ntmps15
  go_wp2_with fail
  go_ret
  exact ⟨rfl, rfl⟩
set_option maxHeartbeats 800000 in
set_option maxRecDepth 100000 in
theorem textIs_ok (want : ByteArray) (w : World) :
    Calls Tryd.prog 15 #[.string want, .int .i64 0, .int .i64 0, .string want] w fun e w' => e = .returned (.bool true) ∧ w' = w := by
  go_enter Tryd.func15, Tryd.ntmps15
  go_wp2_with fail
  go_ret
  exact ⟨rfl, rfl⟩

set_option maxHeartbeats 1600000 in
set_option maxRecDepth 100000 in
theorem dnsWrites_walk (id code typ : Int) (ans cut : Bool) (name : ByteArray) (rs : List Rc.Rec) (v : Value) (w : World) (hm : ML w) (hs : name.size ≤ 2000000) (hrs : ∀ r ∈ rs, r.name.size ≤ 2000000 ∧ r.target.size ≤ 2000000) (hv : Rc.Sl w v rs) :
    Calls Tryd.prog 4 #[.agg #[.int .i64 id, .bool ans, .bool cut, .int .i64 code, .string name, .int .i64 typ, v]] w fun e w' => e = .returned (.bool true) ∧ Below w.heap.size w w' := by
  have HW : Hid (∀ W, Below w.heap.size w W → Calls Tryd.prog 12 #[.agg #[.int .i64 id, .bool ans, .bool cut, .int .i64 code, .string name, .int .i64 typ, v]] W fun e w' => e = .returned (.tuple #[.string (wrT id code typ ans cut name rs), .int .i64 (wrE id code typ ans cut name rs)]) ∧ Below W.heap.size W w') := fun W hW => write_any id code typ ans cut name rs v W (hm.below hW) (by unfold maxLen; omega) (hv.below hW)
  have HC : Hid (∀ W, Below w.heap.size w W → Calls Tryd.prog 13 #[.agg #[.int .i64 id, .bool ans, .bool cut, .int .i64 code, .string name, .int .i64 typ, v]] W fun e w' => e = .returned (.int .i64 (chkMsg id code typ name rs)) ∧ Below W.heap.size W w') := fun W hW => refMsg_any id code typ ans cut name rs v W hs hrs (hv.below hW)
  have HM : Hid (chkMsg id code typ name rs = 0 → ∀ W, Below w.heap.size w W → Calls Tryd.prog 14 #[.agg #[.int .i64 id, .bool ans, .bool cut, .int .i64 code, .string name, .int .i64 typ, v]] W fun e w' => e = .returned (.string ⟨(wallL id code typ ans cut name rs).toArray⟩) ∧ Below W.heap.size W w') := fun h0 W hW => msgBytes_any id code typ ans cut name rs v W h0 (hv.below hW)
  have HBG : Hid (∀ W, Below w.heap.size w W → Calls Tryd.prog 9 #[] W fun e w' => e = .returned (.bool true) ∧ Below W.heap.size W w') := fun W hW => dnsBegun_any W (hm.below hW)
  have hWL : (⟨(wallL id code typ ans cut name rs).toArray⟩ : ByteArray).size = (wallL id code typ ans cut name rs).length := by simp [ByteArray.size]
  have HR1 : Hid (chkMsg id code typ name rs = 0 → ¬ 512 < (⟨(wallL id code typ ans cut name rs).toArray⟩ : ByteArray).size → wrT id code typ ans cut name rs = ⟨(wallL id code typ ans cut name rs).toArray⟩ ∧ wrE id code typ ans cut name rs = 0) := fun h1 h2 => by
    rw [hWL] at h2
    unfold wrT wrE
    rw [if_pos h1, if_pos h1, if_neg h2, if_neg h2]
    exact ⟨rfl, rfl⟩
  have HR2 : Hid (chkMsg id code typ name rs = 0 → 512 < (⟨(wallL id code typ ans cut name rs).toArray⟩ : ByteArray).size → wrT id code typ ans cut name rs = ⟨#[]⟩ ∧ wrE id code typ ans cut name rs = 2) := fun h1 h2 => by
    rw [hWL] at h2
    unfold wrT wrE
    rw [if_pos h1, if_pos h1, if_pos h2, if_pos h2]
    exact ⟨rfl, rfl⟩
  have HR3 : Hid (chkMsg id code typ name rs ≠ 0 → wrT id code typ ans cut name rs = ⟨#[]⟩ ∧ wrE id code typ ans cut name rs = chkMsg id code typ name rs) := fun h1 => by
    unfold wrT wrE
    rw [if_neg h1, if_neg h1]
    exact ⟨rfl, rfl⟩
  obtain ⟨pa, cap, hvv, _, _⟩ := hv
  clear hm hs hrs hWL
  generalize chkMsg id code typ name rs = E at *
  generalize (⟨(wallL id code typ ans cut name rs).toArray⟩ : ByteArray) = T at *
  generalize wrT id code typ ans cut name rs = RT at *
  generalize wrE id code typ ans cut name rs = RE at *
  subst hvv
  generalize rs.length = n at *
  go_enter Tryd.func4, Tryd.ntmps4
  go_wp2_with fail
  obtain ⟨w0, hw0⟩ : ∃ w0, w0 = w.alloc (.cells #[.int .i64 id, .bool ans, .bool cut, .int .i64 code, .string name, .int .i64 typ, .slice pa n cap] 30) := ⟨_, rfl⟩
  have hg0 : w0.heap[w.heap.size]? = some (.cells #[.int .i64 id, .bool ans, .bool cut, .int .i64 code, .string name, .int .i64 typ, .slice pa n cap] 30 (0, 0)) := by rw [hw0]; exact heap_alloc_new w _
  have HB0 : Hid (Below w.heap.size w w0) := (show Below _ _ _ by rw [hw0]; exact (Below.refl _ _).alloc (Nat.le_refl _) _)
  have hl0 : w.heap.size < w0.heap.size := (Array.getElem?_eq_some_iff.1 hg0).1
  rw [← hw0]
  clear hw0
  refine (HW.out w0 HB0.out).mono ?_
  rintro e w1 ⟨rfl, hb1⟩
  have HB1 : Hid (Below w.heap.size w w1) := HB0.out.trans (hb1.mono HB0.out.size)
  have hg1 := (hb1.block _ hl0).trans hg0
  have hl1 : w.heap.size < w1.heap.size := (Array.getElem?_eq_some_iff.1 hg1).1
  clear hb1 hg0
  have c0 : w1.cell? ⟨w.heap.size, 0, none⟩ = some (.int .i64 id) := cellsAt hg1 0
  have c1 : w1.cell? ⟨w.heap.size, 1, none⟩ = some (.bool ans) := cellsAt hg1 1
  have c2 : w1.cell? ⟨w.heap.size, 2, none⟩ = some (.bool cut) := cellsAt hg1 2
  have c3 : w1.cell? ⟨w.heap.size, 3, none⟩ = some (.int .i64 code) := cellsAt hg1 3
  have c4 : w1.cell? ⟨w.heap.size, 4, none⟩ = some (.string name) := cellsAt hg1 4
  have c5 : w1.cell? ⟨w.heap.size, 5, none⟩ = some (.int .i64 typ) := cellsAt hg1 5
  have c6 : w1.cell? ⟨w.heap.size, 6, none⟩ = some (.slice pa n cap) := cellsAt hg1 6
  go_wp2_with fail
  refine (HC.out w1 HB1.out).mono ?_
  rintro e w2 ⟨rfl, hb2⟩
  have HB2 : Hid (Below w.heap.size w w2) := HB1.out.trans (hb2.mono HB1.out.size)
  have hg2 := (hb2.block _ hl1).trans hg1
  clear hb2 hg1 c0 c1 c2 c3 c4 c5 c6
  by_cases h0 : E = 0
  · have hEq : (E == 0) = true := by simpa using h0
    have HM2 := HM.out h0 w2 HB2.out
    have HM3 : Hid (Calls Tryd.prog 14 #[.agg #[.int .i64 id, .bool ans, .bool cut, .int .i64 code, .string name, .int .i64 typ, .slice pa n cap]] w2 fun e w' => e = .returned (.string T) ∧ Below w2.heap.size w2 w') := HM2
    have K1 : Hid (¬ 512 < T.size → RT = T ∧ RE = 0) := HR1.out h0
    have K2 : Hid (512 < T.size → RT = ⟨#[]⟩ ∧ RE = 2) := HR2.out h0
    clear HM2 HM HR1 HR2 HR3 hEq
    subst h0
    have c0 : w2.cell? ⟨w.heap.size, 0, none⟩ = some (.int .i64 id) := cellsAt hg2 0
    have c1 : w2.cell? ⟨w.heap.size, 1, none⟩ = some (.bool ans) := cellsAt hg2 1
    have c2 : w2.cell? ⟨w.heap.size, 2, none⟩ = some (.bool cut) := cellsAt hg2 2
    have c3 : w2.cell? ⟨w.heap.size, 3, none⟩ = some (.int .i64 code) := cellsAt hg2 3
    have c4 : w2.cell? ⟨w.heap.size, 4, none⟩ = some (.string name) := cellsAt hg2 4
    have c5 : w2.cell? ⟨w.heap.size, 5, none⟩ = some (.int .i64 typ) := cellsAt hg2 5
    have c6 : w2.cell? ⟨w.heap.size, 6, none⟩ = some (.slice pa n cap) := cellsAt hg2 6
    go_wp2_with fail
    refine HM3.out.mono ?_
    rintro e w3 ⟨rfl, hb3⟩
    have HB3 : Hid (Below w.heap.size w w3) := HB2.out.trans (hb3.mono HB2.out.size)
    clear hb3 c0 c1 c2 c3 c4 c5 c6
    by_cases hT : 512 < T.size
    · obtain ⟨e1, e2⟩ := K2.out hT
      subst e1
      subst e2
      have hcmp : decide (512 < (T.size : Int)) = true := by simp; omega
      go_wp2_with fail
      refine (HBG.out w3 HB3.out).mono ?_
      rintro e w4 ⟨rfl, hb4⟩
      have HB4 : Hid (Below w.heap.size w w4) := HB3.out.trans (hb4.mono HB3.out.size)
      clear hb4
      go_wp2_with fail
      refine (textIs_bad 2 T w4 (by decide)).mono ?_
      rintro e w5 ⟨rfl, hw5⟩
      subst hw5
      go_wp2_with fail
      go_ret
      exact ⟨rfl, HB4.out⟩
    · obtain ⟨e1, e2⟩ := K1.out hT
      subst e1
      subst e2
      have hcmp : decide (512 < (RT.size : Int)) = false := by simp; omega
      go_wp2_with fail
      refine (HBG.out w3 HB3.out).mono ?_
      rintro e w4 ⟨rfl, hb4⟩
      have HB4 : Hid (Below w.heap.size w w4) := HB3.out.trans (hb4.mono HB3.out.size)
      clear hb4
      go_wp2_with fail
      refine (textIs_ok RT w4).mono ?_
      rintro e w5 ⟨rfl, hw5⟩
      subst hw5
      go_wp2_with fail
      go_ret
      exact ⟨rfl, HB4.out⟩
  · have hEq : (E == 0) = false := by simpa using h0
    obtain ⟨e1, e2⟩ := HR3.out h0
    subst e1
    subst e2
    have H0 : Hid (¬ RE = 0) := h0
    go_wp2_with fail
    refine (HBG.out w2 HB2.out).mono ?_
    rintro e w4 ⟨rfl, hb4⟩
    have HB4 : Hid (Below w.heap.size w w4) := HB2.out.trans (hb4.mono HB2.out.size)
    clear hb4
    go_wp2_with fail
    refine (textIs_bad RE ⟨#[]⟩ w4 H0.out).mono ?_
    rintro e w5 ⟨rfl, hw5⟩
    subst hw5
    go_wp2_with fail
    go_ret
    exact ⟨rfl, HB4.out⟩

end Go.Proofs.YtogmkdhljifbpaaDoor

/- DnsFits. -/
namespace Go.Proofs.YtogmkdhljifbpaaDoor
open Go.RowKit

theorem fit_empty {id code typ size : Int} {ans cut : Bool} {name : ByteArray} {rs : List Rc.Rec} (h : fitE id code typ ans cut name rs size ≠ 0) : fitT id code typ ans cut name rs size = ⟨#[]⟩ := by
  unfold fitE at h
  unfold fitT
  split at h
  · rename_i h1; rw [if_pos h1]
  · rename_i h1
    rw [if_neg h1]
    split at h
    · rename_i h2
      rw [if_pos h2]
      split at h
      · exact absurd rfl h
      · rename_i h3
        simp at h3
        rw [h3]
        rfl
    · rename_i h2; rw [if_neg h2]

set_option maxHeartbeats 1600000 in
set_option maxRecDepth 100000 in
theorem dnsFits_walk (id code typ size : Int) (ans cut : Bool) (name : ByteArray) (rs : List Rc.Rec) (pa : Option Addr) (cap : Nat) (w : World) (hm : ML w) (hs : name.size ≤ 2000000) (hrs : ∀ r ∈ rs, r.name.size ≤ 2000000 ∧ r.target.size ≤ 2000000) (hv : Rc.Sl w (.slice pa rs.length cap) rs) (hcap : rs.length ≤ cap) :
    Calls Tryd.prog 6 #[.agg #[.int .i64 id, .bool ans, .bool cut, .int .i64 code, .string name, .int .i64 typ, .slice pa rs.length cap], .int .i64 size] w fun e w' => e = .returned (.bool true) ∧ Below w.heap.size w w' := by
  have HW : Hid (∀ W, Below w.heap.size w W → Calls Tryd.prog 19 #[.agg #[.int .i64 id, .bool ans, .bool cut, .int .i64 code, .string name, .int .i64 typ, .slice pa rs.length cap], .int .i64 size] W fun e w' => e = .returned (.tuple #[.string (fitT id code typ ans cut name rs size), .int .i64 (fitE id code typ ans cut name rs size)]) ∧ Below W.heap.size W w') := fun W hW => fit_any id code typ size ans cut name rs pa cap W (hm.below hW) (by unfold maxLen; omega) (hv.below hW) hcap
  have HC : Hid (∀ W, Below w.heap.size w W → Calls Tryd.prog 20 #[.agg #[.int .i64 id, .bool ans, .bool cut, .int .i64 code, .string name, .int .i64 typ, .slice pa rs.length cap], .int .i64 size] W fun e w' => e = .returned (.tuple #[.string (fitT id code typ ans cut name rs size), .int .i64 (fitE id code typ ans cut name rs size)]) ∧ Below W.heap.size W w') := fun W hW => fitOf_any id code typ size ans cut name rs pa cap W hs hrs (hv.below hW) hcap
  have HBG : Hid (∀ W, Below w.heap.size w W → Calls Tryd.prog 9 #[] W fun e w' => e = .returned (.bool true) ∧ Below W.heap.size W w') := fun W hW => dnsBegun_any W (hm.below hW)
  have HT : Hid (∀ W, Calls Tryd.prog 15 #[.string (fitT id code typ ans cut name rs size), .int .i64 (fitE id code typ ans cut name rs size), .int .i64 (fitE id code typ ans cut name rs size), .string (fitT id code typ ans cut name rs size)] W fun e w' => e = .returned (.bool true) ∧ w' = W) := fun W => by
    by_cases h : fitE id code typ ans cut name rs size = 0
    · rw [h]; exact textIs_ok _ W
    · rw [fit_empty h]; exact textIs_bad _ _ W h
  clear hm hs hrs hv
  generalize fitT id code typ ans cut name rs size = RT at *
  generalize fitE id code typ ans cut name rs size = RE at *
  generalize rs.length = n at *
  go_enter Tryd.func6, Tryd.ntmps6
  go_wp2_with fail
  obtain ⟨w0, hw0⟩ : ∃ w0, w0 = w.alloc (.cells #[.int .i64 id, .bool ans, .bool cut, .int .i64 code, .string name, .int .i64 typ, .slice pa n cap] 30) := ⟨_, rfl⟩
  have hg0 : w0.heap[w.heap.size]? = some (.cells #[.int .i64 id, .bool ans, .bool cut, .int .i64 code, .string name, .int .i64 typ, .slice pa n cap] 30 (0, 0)) := by rw [hw0]; exact heap_alloc_new w _
  have HB0 : Hid (Below w.heap.size w w0) := (show Below _ _ _ by rw [hw0]; exact (Below.refl _ _).alloc (Nat.le_refl _) _)
  have hl0 : w.heap.size < w0.heap.size := (Array.getElem?_eq_some_iff.1 hg0).1
  rw [← hw0]
  clear hw0
  refine (HW.out w0 HB0.out).mono ?_
  rintro e w1 ⟨rfl, hb1⟩
  have HB1 : Hid (Below w.heap.size w w1) := HB0.out.trans (hb1.mono HB0.out.size)
  have hg1 := (hb1.block _ hl0).trans hg0
  clear hb1 hg0
  have c0 : w1.cell? ⟨w.heap.size, 0, none⟩ = some (.int .i64 id) := cellsAt hg1 0
  have c1 : w1.cell? ⟨w.heap.size, 1, none⟩ = some (.bool ans) := cellsAt hg1 1
  have c2 : w1.cell? ⟨w.heap.size, 2, none⟩ = some (.bool cut) := cellsAt hg1 2
  have c3 : w1.cell? ⟨w.heap.size, 3, none⟩ = some (.int .i64 code) := cellsAt hg1 3
  have c4 : w1.cell? ⟨w.heap.size, 4, none⟩ = some (.string name) := cellsAt hg1 4
  have c5 : w1.cell? ⟨w.heap.size, 5, none⟩ = some (.int .i64 typ) := cellsAt hg1 5
  have c6 : w1.cell? ⟨w.heap.size, 6, none⟩ = some (.slice pa n cap) := cellsAt hg1 6
  go_wp2_with fail
  refine (HC.out w1 HB1.out).mono ?_
  rintro e w2 ⟨rfl, hb2⟩
  have HB2 : Hid (Below w.heap.size w w2) := HB1.out.trans (hb2.mono HB1.out.size)
  clear hb2 hg1 c0 c1 c2 c3 c4 c5 c6
  go_wp2_with fail
  refine (HBG.out w2 HB2.out).mono ?_
  rintro e w4 ⟨rfl, hb4⟩
  have HB4 : Hid (Below w.heap.size w w4) := HB2.out.trans (hb4.mono HB2.out.size)
  clear hb4
  go_wp2_with fail
  refine (HT.out w4).mono ?_
  rintro e w5 ⟨rfl, hw5⟩
  subst hw5
  go_wp2_with fail
  go_ret
  exact ⟨rfl, HB4.out⟩

end Go.Proofs.YtogmkdhljifbpaaDoor

/- records: are two lists the same? -/
namespace Go.Proofs.YtogmkdhljifbpaaDoor
namespace Rc
open Go.RowKit

set_option maxHeartbeats 800000 in
theorem same_any (a b : List Rec) (va vb : Value) (w : World) (ha : Sl w va a) (hb : Sl w vb b) (hsm : a.length ≤ 1000) :
    Calls Tryd.prog 21 #[va, vb] w fun e w' => ∃ r : Bool, e = .returned (.bool r) ∧ (r = true ↔ a = b) ∧ Below w.heap.size w w' := by
  obtain ⟨pa, ca, rfl, _, ha⟩ := ha
  obtain ⟨pv, cb, rfl, _, hb⟩ := hb
  by_cases hl : a.length = b.length
  · have HA : Hid (a = [] ∨ ∃ b off, pa = some ⟨b, off, none⟩ ∧ b < w.heap.size ∧ Row w b off a) := ha
    have HB : Hid (b = [] ∨ ∃ b_1 off, pv = some ⟨b_1, off, none⟩ ∧ b_1 < w.heap.size ∧ Row w b_1 off b) := hb
    have HL : Hid (a.length = b.length) := hl
    clear ha hb
    rw [← hl]
    clear hl
    generalize hna : a.length = n at *
    have HN : Hid (a.length = n) := hna
    clear hna
    have hg28 : Tryd.prog.eqGuardType Tryd.prog.depth 54 = false := by kernel_rfl
    go_enter Tryd.func21, Tryd.ntmps21
    go_wp2_with fail
    go_loopw [5] (fun i w' => ∃ k : Nat, k ≤ n ∧ i = .int .i64 k ∧ Below w.heap.size w w' ∧ Hid (∀ j, j < k → a.getD j dm = b.getD j dm)) (fun i _ => n - (intOf i).toNat)
    case atStart => exact ⟨0, Nat.zero_le _, rfl, Below.refl _ _, fun j h => absurd h (Nat.not_lt_zero _)⟩
    case round =>
      obtain ⟨k, hk, rfl, hbl, hz⟩ := hrel
      obtain ⟨hbc, hbf⟩ := bcell hbl
      have hsz := hbl.size
      by_cases hlt : k < n
      · obtain ⟨b1, o1, hp1, hl1, hr1⟩ : ∃ b off, pa = some ⟨b, off, none⟩ ∧ b < w.heap.size ∧ Row w b off a := by
          rcases HA.out with h | h
          · have := HN.out; rw [h] at this; simp at this; omega
          · exact h
        obtain ⟨b2, o2, hp2, hl2, hr2⟩ : ∃ b_1 off, pv = some ⟨b_1, off, none⟩ ∧ b_1 < w.heap.size ∧ Row w b_1 off b := by
          rcases HB.out with h | h
          · have h2 := HN.out; have h3 := HL.out; rw [h] at h3; simp at h3; omega
          · exact h
        subst hp1
        subst hp2
        obtain ⟨c0, c1, c2, c3, c4, c5, c6⟩ := hr1 k (by rw [HN.out]; exact hlt)
        obtain ⟨d0, d1, d2, d3, d4, d5, d6⟩ := hr2 k (by have h2 := HN.out; have h3 := HL.out; omega)
        clear hr1 hr2
        have HF : Hid (a.getD k dm ≠ b.getD k dm → a ≠ b) := fun h e => h (by rw [e])
        have HZ : Hid (a.getD k dm = b.getD k dm → ∀ j, j < k + 1 → a.getD j dm = b.getD j dm) := fun h j hj => by
          rcases Nat.lt_succ_iff_lt_or_eq.1 hj with h2 | rfl
          · exact hz.out j h2
          · exact h
        have hneq := neqE (a.getD k dm) (b.getD k dm)
        generalize a.getD k dm = m1 at *
        generalize b.getD k dm = m2 at *
        rcases hs : sameM m1 m2 with _ | _
        · rw [hs] at hneq
          have hne : Hid (a ≠ b) := HF.out (fun e => by rw [← sameM_iff, hs] at e; cases e)
          go_wp2_with fail
          go_quiet (fail)
          go_wp2_with fail
          go_ret
          exact ⟨false, rfl, ⟨fun h => (by cases h), fun h => absurd h hne.out⟩, below_drewN hbl _⟩
        · rw [hs] at hneq
          have heq : Hid (m1 = m2) := (sameM_iff m1 m2).1 hs
          go_wp2_with fail
          go_quiet (fail)
          go_wp2_with fail
          go_roundw
          case rel => exact ⟨k + 1, by omega, by go_num, below_drewN hbl _, HZ.out heq.out⟩
          case measure => simp [intOf]; omega
      · have hfin : Hid (a = b) := by
          apply List.ext_getElem (HN.out.trans HL.out)
          intro j h1 h2
          have := hz.out j (by have := HN.out; omega)
          simpa [List.getD, List.getElem?_eq_getElem h1, List.getElem?_eq_getElem h2] using this
        go_wp2_with fail
        go_ret
        exact ⟨true, rfl, ⟨fun _ => hfin.out, fun _ => rfl⟩, hbl⟩
  · have hne : ((a.length : Int) != (b.length : Int)) = true := by rw [bne_iff_ne]; omega
    have HF : Hid (a ≠ b) := fun e => hl (by rw [e])
    clear ha hb
    go_enter Tryd.func21, Tryd.ntmps21
    go_wp2_with fail
    go_ret
    exact ⟨false, rfl, ⟨fun h => (by cases h), fun h => absurd h HF.out⟩, Below.refl _ _⟩

end Rc
end Go.Proofs.YtogmkdhljifbpaaDoor

/- DnsCuts. -/
namespace Go.Proofs.YtogmkdhljifbpaaDoor
open Go.RowKit

theorem fitN_some {f : Nat → List UInt8} {size : Int} : ∀ {n : Nat}, (fitN f size n).isSome = true → ∃ j, j ≤ n ∧ fitN f size n = some (f j) ∧ ((f j).length : Int) ≤ size
  | 0, h => by
    simp only [fitN] at h ⊢
    split at h
    · rename_i h1; exact ⟨0, Nat.le_refl _, by rw [if_pos h1], h1⟩
    · cases h
  | n + 1, h => by
    simp only [fitN] at h ⊢
    split at h
    · rename_i h1; exact ⟨n + 1, Nat.le_refl _, by rw [if_pos h1], h1⟩
    · rename_i h1
      obtain ⟨j, h2, h3, h4⟩ := fitN_some h
      exact ⟨j, by omega, by rw [if_neg h1]; exact h3, h4⟩
theorem fit_good {id code typ size : Int} {ans cut : Bool} {name : ByteArray} {rs : List Rc.Rec} (h : fitE id code typ ans cut name rs size = 0) : chkMsg id code typ name rs = 0 ∧ size ≤ 512 ∧ ∃ j, j ≤ rs.length ∧ fitT id code typ ans cut name rs size = ⟨(fitB id code typ ans cut name rs j).toArray⟩ ∧ ((fitB id code typ ans cut name rs j).length : Int) ≤ size := by
  unfold fitE at h
  unfold fitT
  split at h
  · omega
  · rename_i h1
    have h1' : within size 12 512 = true := by simpa using h1
    simp only [within, Bool.and_eq_true, decide_eq_true_eq] at h1'
    rw [if_neg h1]
    split at h
    · rename_i h2
      rw [if_pos h2]
      split at h
      · rename_i h3
        obtain ⟨j, h4, h5, h6⟩ := fitN_some h3
        exact ⟨h2, h1'.2, j, h4, by rw [h5]; rfl, h6⟩
      · omega
    · rename_i h2
      exact absurd h h2

set_option maxHeartbeats 3200000 in
set_option maxRecDepth 100000 in
theorem dnsCuts_walk (id code typ size : Int) (ans cut : Bool) (name : ByteArray) (rs : List Rc.Rec) (pa : Option Addr) (cap : Nat) (w : World) (hm : ML w) (hs : name.size ≤ maxLen) (hv : Rc.Sl w (.slice pa rs.length cap) rs) (hcap : rs.length ≤ cap) :
    Calls Tryd.prog 8 #[.agg #[.int .i64 id, .bool ans, .bool cut, .int .i64 code, .string name, .int .i64 typ, .slice pa rs.length cap], .int .i64 size] w fun e w' => e = .returned (.bool true) ∧ Below w.heap.size w w' := by
  have HF : Hid (∀ W, Below w.heap.size w W → Calls Tryd.prog 19 #[.agg #[.int .i64 id, .bool ans, .bool cut, .int .i64 code, .string name, .int .i64 typ, .slice pa rs.length cap], .int .i64 size] W fun e w' => e = .returned (.tuple #[.string (fitT id code typ ans cut name rs size), .int .i64 (fitE id code typ ans cut name rs size)]) ∧ Below W.heap.size W w') := fun W hW => fit_any id code typ size ans cut name rs pa cap W (hm.below hW) hs (hv.below hW) hcap
  have HBG : Hid (Calls Tryd.prog 9 #[] (w.alloc (.cells #[.int .i64 id, .bool ans, .bool cut, .int .i64 code, .string name, .int .i64 typ, .slice pa rs.length cap] 30)) fun e w' => e = .returned (.bool true) ∧ Below ((w.alloc (.cells #[.int .i64 id, .bool ans, .bool cut, .int .i64 code, .string name, .int .i64 typ, .slice pa rs.length cap] 30))).heap.size ((w.alloc (.cells #[.int .i64 id, .bool ans, .bool cut, .int .i64 code, .string name, .int .i64 typ, .slice pa rs.length cap] 30))) w') := dnsBegun_any _ (hm.below ((Below.refl _ _).alloc (Nat.le_refl _) _))
  have HE : Hid (fitE id code typ ans cut name rs size ≠ 0 → fitT id code typ ans cut name rs size = ⟨#[]⟩) := fun h => fit_empty h
  have HG : Hid (fitE id code typ ans cut name rs size = 0 → ∃ j, j ≤ rs.length ∧ (∃ T : ByteArray, fitT id code typ ans cut name rs size = T ∧ (T.size : Int) ≤ size ∧ ∀ W, Calls Tryd.prog 16 #[.string T] W fun e w' => ∃ v, e = .returned (.tuple #[.agg #[.int .i64 id, .bool ans, .bool (cut || decide (j < rs.length)), .int .i64 code, .string name, .int .i64 typ, v], .int .i64 0]) ∧ Below W.heap.size W w' ∧ Hid (Rc.Own W.heap.size w' v (rs.take j))) ∧ (∀ i, ((rs.take j).getD i Rc.dm).ok) ∧ rs.length ≤ 20) := fun h => by
    obtain ⟨h1, h2, j, h3, h4, h5⟩ := fit_good h
    have hct := chkMsg_take h1 j
    have hts : (⟨(fitB id code typ ans cut name rs j).toArray⟩ : ByteArray).size = (fitB id code typ ans cut name rs j).length := by simp [ByteArray.size]
    refine ⟨j, h3, ⟨_, h4, by rw [hts]; exact h5, fun W => ?_⟩, recs_ok (chkMsg_facts hct).2.2, (chkMsg_facts h1).1⟩
    exact read_any id code typ ans _ name _ (rs.take j) W (reads_written hct (by unfold fitB at h5; omega)) (by rw [hts]; omega) hct
  have HSL : Hid (∀ W, Below w.heap.size w W → ∀ j, j ≤ rs.length → Rc.Sl W (.slice pa j cap) (rs.take j)) := fun W hW j hj => by
    have hl : (rs.take j).length = j := by rw [List.length_take]; omega
    obtain ⟨pa', cap', heq, hok, hrow⟩ := hv
    injection heq with q1 q2 q3
    subst q1
    refine ⟨pa, cap, by rw [hl], fun k => ?_, ?_⟩
    · by_cases hk : k < j
      · have : (rs.take j).getD k Rc.dm = rs.getD k Rc.dm := by simp [List.getD, hk]
        rw [this]; exact hok k
      · have : (rs.take j).getD k Rc.dm = Rc.dm := by simp [List.getD, List.getElem?_eq_none (by rw [hl]; omega : (rs.take j).length ≤ k)]
        rw [this]; exact Rc.dm_ok
    · rcases hrow with h | ⟨b, off, h1, h2, h3⟩
      · exact .inl (by rw [h]; simp)
      · exact .inr ⟨b, off, h1, Nat.lt_of_lt_of_le h2 hW.size, row_take (row_below h3 hW h2) j⟩
  have HTL : Hid (∀ j, j ≤ rs.length → (rs.take j).length = j) := fun j hj => by rw [List.length_take]; omega
  clear hm hs hv
  generalize fitT id code typ ans cut name rs size = RT at *
  generalize fitE id code typ ans cut name rs size = RE at *
  generalize rs.length = n at *
  go_enter Tryd.func8, Tryd.ntmps8
  go_wp2_with fail
  obtain ⟨w0, hw0⟩ : ∃ w0, w0 = w.alloc (.cells #[.int .i64 id, .bool ans, .bool cut, .int .i64 code, .string name, .int .i64 typ, .slice pa n cap] 30) := ⟨_, rfl⟩
  have hg0 : w0.heap[w.heap.size]? = some (.cells #[.int .i64 id, .bool ans, .bool cut, .int .i64 code, .string name, .int .i64 typ, .slice pa n cap] 30 (0, 0)) := by rw [hw0]; exact heap_alloc_new w _
  have HB0 : Hid (Below w.heap.size w w0) := (show Below _ _ _ by rw [hw0]; exact (Below.refl _ _).alloc (Nat.le_refl _) _)
  have hl0 : w.heap.size < w0.heap.size := (Array.getElem?_eq_some_iff.1 hg0).1
  rw [← hw0] at HBG ⊢
  clear hw0
  refine HBG.out.mono ?_
  rintro e w1 ⟨rfl, hb1⟩
  have HB1 : Hid (Below w.heap.size w w1) := HB0.out.trans (hb1.mono HB0.out.size)
  have hg1 := (hb1.block _ hl0).trans hg0
  have hl1 : w.heap.size < w1.heap.size := (Array.getElem?_eq_some_iff.1 hg1).1
  clear hb1 hg0 HBG
  have c0 : w1.cell? ⟨w.heap.size, 0, none⟩ = some (.int .i64 id) := cellsAt hg1 0
  have c1 : w1.cell? ⟨w.heap.size, 1, none⟩ = some (.bool ans) := cellsAt hg1 1
  have c2 : w1.cell? ⟨w.heap.size, 2, none⟩ = some (.bool cut) := cellsAt hg1 2
  have c3 : w1.cell? ⟨w.heap.size, 3, none⟩ = some (.int .i64 code) := cellsAt hg1 3
  have c4 : w1.cell? ⟨w.heap.size, 4, none⟩ = some (.string name) := cellsAt hg1 4
  have c5 : w1.cell? ⟨w.heap.size, 5, none⟩ = some (.int .i64 typ) := cellsAt hg1 5
  have c6 : w1.cell? ⟨w.heap.size, 6, none⟩ = some (.slice pa n cap) := cellsAt hg1 6
  go_wp2_with fail
  refine (HF.out w1 HB1.out).mono ?_
  rintro e w2 ⟨rfl, hb2⟩
  have HB2 : Hid (Below w.heap.size w w2) := HB1.out.trans (hb2.mono HB1.out.size)
  have HG2 : Hid (w2.heap[w.heap.size]? = some (.cells #[.int .i64 id, .bool ans, .bool cut, .int .i64 code, .string name, .int .i64 typ, .slice pa n cap] 30 (0, 0))) := (hb2.block _ hl1).trans hg1
  clear hb2 hg1 HF c0 c1 c2 c3 c4 c5 c6
  by_cases h0 : RE = 0
  · obtain ⟨j, hj, ⟨T, hT, hTs, hrd⟩, hok, h20⟩ := HG.out h0
    have HRD : Hid (∀ W, Calls Tryd.prog 16 #[.string T] W fun e w' => ∃ v, e = .returned (.tuple #[.agg #[.int .i64 id, .bool ans, .bool (cut || decide (j < n)), .int .i64 code, .string name, .int .i64 typ, v], .int .i64 0]) ∧ Below W.heap.size W w' ∧ Hid (Rc.Own W.heap.size w' v (rs.take j))) := hrd
    have HOK : Hid (∀ i, ((rs.take j).getD i Rc.dm).ok) := hok
    subst hT
    subst h0
    have hlj := HTL.out j hj
    clear HG HE hrd hok
    go_wp2_with fail
    refine (HRD.out w2).mono ?_
    rintro e w3 ⟨v, rfl, hb3, ho3⟩
    have HB3 : Hid (Below w.heap.size w w3) := HB2.out.trans (hb3.mono HB2.out.size)
    have hl2 : w.heap.size < w2.heap.size := (Array.getElem?_eq_some_iff.1 HG2.out).1
    have HG3 : Hid (w3.heap[w.heap.size]? = some (.cells #[.int .i64 id, .bool ans, .bool cut, .int .i64 code, .string name, .int .i64 typ, .slice pa n cap] 30 (0, 0))) := (hb3.block _ hl2).trans HG2.out
    obtain ⟨av, lv, cv, hvv⟩ : ∃ a l c, v = .slice a l c := by
      rcases ho3.out.2 with ⟨hv, _⟩ | ⟨gq, cq, _, hv, _⟩
      · exact ⟨_, _, _, hv⟩
      · exact ⟨_, _, _, hv⟩
    subst hvv
    have hlv : lv = j := by
      rcases ho3.out.2 with ⟨hv, h5⟩ | ⟨gq, cq, _, hv, _⟩
      · injection hv with _ h6 _; rw [hlj] at h5; omega
      · injection hv with _ h6 _; rw [hlj] at h6; exact h6
    subst hlv
    clear hb3
    have hd1 : decide ((RT.size : Int) ≤ size) = true := by simpa using hTs
    have hd2 : decide ((lv : Int) ≤ (n : Int)) = true := by simp; omega
    have hk0 : (0 : Int) ≤ (lv : Int) := by omega
    have hk1 : (lv : Int) ≤ (cap : Int) := by omega
    have hk2 : ((lv : Int)).toNat = lv := by omega
    cases cut
    · by_cases hjn : lv < n
      · have hd3 : decide ((lv : Int) < (n : Int)) = true := by simp; omega
        rw [show (false || decide (lv < n)) = true by simp <;> omega]
        obtain ⟨w4, hw4⟩ : ∃ w4, w4 = w3.alloc (.cells #[.int .i64 id, .bool ans, .bool true, .int .i64 code, .string name, .int .i64 typ, .slice av lv cv] 30) := ⟨_, rfl⟩
        have hx4 : w4.heap[w3.heap.size]? = some (.cells #[.int .i64 id, .bool ans, .bool true, .int .i64 code, .string name, .int .i64 typ, .slice av lv cv] 30 (0, 0)) := by rw [hw4]; exact heap_alloc_new w3 _
        have hm4 : w4.heap[w.heap.size]? = some (.cells #[.int .i64 id, .bool ans, .bool false, .int .i64 code, .string name, .int .i64 typ, .slice pa n cap] 30 (0, 0)) := by rw [hw4]; exact (Lib.alloc_old w3 _ _ (by have := (Array.getElem?_eq_some_iff.1 HG3.out).1; omega)).trans HG3.out
        have HB4 : Hid (Below w.heap.size w w4) := (show Below _ _ _ by rw [hw4]; exact HB3.out.alloc HB3.out.size _)
        have hb34 : Below w3.heap.size w3 w4 := by rw [hw4]; exact (Below.refl _ _).alloc (Nat.le_refl _) _
        have ho4 : Rc.Own w2.heap.size w4 (.slice av lv cv) (rs.take lv) := ho3.out.below hb34
        go_wp2_with fail
        rw [← hw4]
        clear hw4 hb34
        have F0 : ∀ d os, (Go.Sort.grow (redrawn w4 d) os).cell? ⟨w.heap.size, 0, none⟩ = some (.int .i64 id) := cell_regrown (cellsAt hm4 0)
        have F2 : ∀ d os, (Go.Sort.grow (redrawn w4 d) os).cell? ⟨w.heap.size, 2, none⟩ = some (.bool false) := cell_regrown (cellsAt hm4 2)
        have F4 : ∀ d os, (Go.Sort.grow (redrawn w4 d) os).cell? ⟨w.heap.size, 4, none⟩ = some (.string name) := cell_regrown (cellsAt hm4 4)
        have F5 : ∀ d os, (Go.Sort.grow (redrawn w4 d) os).cell? ⟨w.heap.size, 5, none⟩ = some (.int .i64 typ) := cell_regrown (cellsAt hm4 5)
        have F6 : ∀ d os, (Go.Sort.grow (redrawn w4 d) os).cell? ⟨w.heap.size, 6, none⟩ = some (.slice pa n cap) := cell_regrown (cellsAt hm4 6)
        have X0 : ∀ d os, (Go.Sort.grow (redrawn w4 d) os).cell? ⟨w3.heap.size, 0, none⟩ = some (.int .i64 id) := cell_regrown (cellsAt hx4 0)
        have X2 : ∀ d os, (Go.Sort.grow (redrawn w4 d) os).cell? ⟨w3.heap.size, 2, none⟩ = some (.bool true) := cell_regrown (cellsAt hx4 2)
        have X4 : ∀ d os, (Go.Sort.grow (redrawn w4 d) os).cell? ⟨w3.heap.size, 4, none⟩ = some (.string name) := cell_regrown (cellsAt hx4 4)
        have X5 : ∀ d os, (Go.Sort.grow (redrawn w4 d) os).cell? ⟨w3.heap.size, 5, none⟩ = some (.int .i64 typ) := cell_regrown (cellsAt hx4 5)
        have X6 : ∀ d os, (Go.Sort.grow (redrawn w4 d) os).cell? ⟨w3.heap.size, 6, none⟩ = some (.slice av lv cv) := cell_regrown (cellsAt hx4 6)
        have hS : ∀ d os, Calls Tryd.prog 21 #[.slice av lv cv, .slice pa lv cap] (Go.Sort.grow (redrawn w4 d) os) fun e w'' => e = .returned (.bool true) ∧ ∃ p : Regrown, w'' = Go.Sort.grow (redrawn w4 p.d) p.os := fun d os => Calls.regrown_of (by
          have hb := below_regrown w4 d os
          refine (Rc.same_any (rs.take lv) (rs.take lv) _ _ _ ((ho4.below hb).sl HOK.out) (HSL.out _ (HB4.out.trans (hb.mono HB4.out.size)) lv hj) (by rw [hlj]; omega)).mono ?_
          rintro e w9 ⟨r, rfl, hr, hb9⟩
          rw [hr.2 rfl]
          exact ⟨rfl, hb9⟩)
        clear ho4 hx4 hm4 HSL HTL HRD
        refine wp_region_quiet_below (by kernel_rfl) (by kernel_rfl) ?_
        repeat (quiet_step (fail))
        quiet_step (exact hS _ _)
        repeat (quiet_step (fail))
        refine wpQuiet_nil ?_
        intro _ hw'
        obtain ⟨⟨dq, osq⟩, hw''⟩ := hw'
        subst hw''
        have HBQ : Hid (Below w4.heap.size w4 (Go.Sort.grow (redrawn w4 dq) osq)) := below_regrown w4 dq osq
        clear F0 F2 F4 F5 F6 X0 X2 X4 X5 X6 hS
        go_wp2_with fail
        go_ret
        exact ⟨rfl, HB4.out.trans (HBQ.out.mono HB4.out.size)⟩
      · have hd3 : decide ((lv : Int) < (n : Int)) = false := by simp; omega
        rw [show (false || decide (lv < n)) = false by simp <;> omega]
        obtain ⟨w4, hw4⟩ : ∃ w4, w4 = w3.alloc (.cells #[.int .i64 id, .bool ans, .bool false, .int .i64 code, .string name, .int .i64 typ, .slice av lv cv] 30) := ⟨_, rfl⟩
        have hx4 : w4.heap[w3.heap.size]? = some (.cells #[.int .i64 id, .bool ans, .bool false, .int .i64 code, .string name, .int .i64 typ, .slice av lv cv] 30 (0, 0)) := by rw [hw4]; exact heap_alloc_new w3 _
        have hm4 : w4.heap[w.heap.size]? = some (.cells #[.int .i64 id, .bool ans, .bool false, .int .i64 code, .string name, .int .i64 typ, .slice pa n cap] 30 (0, 0)) := by rw [hw4]; exact (Lib.alloc_old w3 _ _ (by have := (Array.getElem?_eq_some_iff.1 HG3.out).1; omega)).trans HG3.out
        have HB4 : Hid (Below w.heap.size w w4) := (show Below _ _ _ by rw [hw4]; exact HB3.out.alloc HB3.out.size _)
        have hb34 : Below w3.heap.size w3 w4 := by rw [hw4]; exact (Below.refl _ _).alloc (Nat.le_refl _) _
        have ho4 : Rc.Own w2.heap.size w4 (.slice av lv cv) (rs.take lv) := ho3.out.below hb34
        go_wp2_with fail
        rw [← hw4]
        clear hw4 hb34
        have F0 : ∀ d os, (Go.Sort.grow (redrawn w4 d) os).cell? ⟨w.heap.size, 0, none⟩ = some (.int .i64 id) := cell_regrown (cellsAt hm4 0)
        have F2 : ∀ d os, (Go.Sort.grow (redrawn w4 d) os).cell? ⟨w.heap.size, 2, none⟩ = some (.bool false) := cell_regrown (cellsAt hm4 2)
        have F4 : ∀ d os, (Go.Sort.grow (redrawn w4 d) os).cell? ⟨w.heap.size, 4, none⟩ = some (.string name) := cell_regrown (cellsAt hm4 4)
        have F5 : ∀ d os, (Go.Sort.grow (redrawn w4 d) os).cell? ⟨w.heap.size, 5, none⟩ = some (.int .i64 typ) := cell_regrown (cellsAt hm4 5)
        have F6 : ∀ d os, (Go.Sort.grow (redrawn w4 d) os).cell? ⟨w.heap.size, 6, none⟩ = some (.slice pa n cap) := cell_regrown (cellsAt hm4 6)
        have X0 : ∀ d os, (Go.Sort.grow (redrawn w4 d) os).cell? ⟨w3.heap.size, 0, none⟩ = some (.int .i64 id) := cell_regrown (cellsAt hx4 0)
        have X2 : ∀ d os, (Go.Sort.grow (redrawn w4 d) os).cell? ⟨w3.heap.size, 2, none⟩ = some (.bool false) := cell_regrown (cellsAt hx4 2)
        have X4 : ∀ d os, (Go.Sort.grow (redrawn w4 d) os).cell? ⟨w3.heap.size, 4, none⟩ = some (.string name) := cell_regrown (cellsAt hx4 4)
        have X5 : ∀ d os, (Go.Sort.grow (redrawn w4 d) os).cell? ⟨w3.heap.size, 5, none⟩ = some (.int .i64 typ) := cell_regrown (cellsAt hx4 5)
        have X6 : ∀ d os, (Go.Sort.grow (redrawn w4 d) os).cell? ⟨w3.heap.size, 6, none⟩ = some (.slice av lv cv) := cell_regrown (cellsAt hx4 6)
        have hS : ∀ d os, Calls Tryd.prog 21 #[.slice av lv cv, .slice pa lv cap] (Go.Sort.grow (redrawn w4 d) os) fun e w'' => e = .returned (.bool true) ∧ ∃ p : Regrown, w'' = Go.Sort.grow (redrawn w4 p.d) p.os := fun d os => Calls.regrown_of (by
          have hb := below_regrown w4 d os
          refine (Rc.same_any (rs.take lv) (rs.take lv) _ _ _ ((ho4.below hb).sl HOK.out) (HSL.out _ (HB4.out.trans (hb.mono HB4.out.size)) lv hj) (by rw [hlj]; omega)).mono ?_
          rintro e w9 ⟨r, rfl, hr, hb9⟩
          rw [hr.2 rfl]
          exact ⟨rfl, hb9⟩)
        clear ho4 hx4 hm4 HSL HTL HRD
        refine wp_region_quiet_below (by kernel_rfl) (by kernel_rfl) ?_
        repeat (quiet_step (fail))
        quiet_step (exact hS _ _)
        repeat (quiet_step (fail))
        refine wpQuiet_nil ?_
        intro _ hw'
        obtain ⟨⟨dq, osq⟩, hw''⟩ := hw'
        subst hw''
        have HBQ : Hid (Below w4.heap.size w4 (Go.Sort.grow (redrawn w4 dq) osq)) := below_regrown w4 dq osq
        clear F0 F2 F4 F5 F6 X0 X2 X4 X5 X6 hS
        go_wp2_with fail
        go_ret
        exact ⟨rfl, HB4.out.trans (HBQ.out.mono HB4.out.size)⟩
    · rw [show (true || decide (lv < n)) = true by simp <;> omega]
      obtain ⟨w4, hw4⟩ : ∃ w4, w4 = w3.alloc (.cells #[.int .i64 id, .bool ans, .bool true, .int .i64 code, .string name, .int .i64 typ, .slice av lv cv] 30) := ⟨_, rfl⟩
      have hx4 : w4.heap[w3.heap.size]? = some (.cells #[.int .i64 id, .bool ans, .bool true, .int .i64 code, .string name, .int .i64 typ, .slice av lv cv] 30 (0, 0)) := by rw [hw4]; exact heap_alloc_new w3 _
      have hm4 : w4.heap[w.heap.size]? = some (.cells #[.int .i64 id, .bool ans, .bool true, .int .i64 code, .string name, .int .i64 typ, .slice pa n cap] 30 (0, 0)) := by rw [hw4]; exact (Lib.alloc_old w3 _ _ (by have := (Array.getElem?_eq_some_iff.1 HG3.out).1; omega)).trans HG3.out
      have HB4 : Hid (Below w.heap.size w w4) := (show Below _ _ _ by rw [hw4]; exact HB3.out.alloc HB3.out.size _)
      have hb34 : Below w3.heap.size w3 w4 := by rw [hw4]; exact (Below.refl _ _).alloc (Nat.le_refl _) _
      have ho4 : Rc.Own w2.heap.size w4 (.slice av lv cv) (rs.take lv) := ho3.out.below hb34
      go_wp2_with fail
      rw [← hw4]
      clear hw4 hb34
      have F0 : ∀ d os, (Go.Sort.grow (redrawn w4 d) os).cell? ⟨w.heap.size, 0, none⟩ = some (.int .i64 id) := cell_regrown (cellsAt hm4 0)
      have F2 : ∀ d os, (Go.Sort.grow (redrawn w4 d) os).cell? ⟨w.heap.size, 2, none⟩ = some (.bool true) := cell_regrown (cellsAt hm4 2)
      have F4 : ∀ d os, (Go.Sort.grow (redrawn w4 d) os).cell? ⟨w.heap.size, 4, none⟩ = some (.string name) := cell_regrown (cellsAt hm4 4)
      have F5 : ∀ d os, (Go.Sort.grow (redrawn w4 d) os).cell? ⟨w.heap.size, 5, none⟩ = some (.int .i64 typ) := cell_regrown (cellsAt hm4 5)
      have F6 : ∀ d os, (Go.Sort.grow (redrawn w4 d) os).cell? ⟨w.heap.size, 6, none⟩ = some (.slice pa n cap) := cell_regrown (cellsAt hm4 6)
      have X0 : ∀ d os, (Go.Sort.grow (redrawn w4 d) os).cell? ⟨w3.heap.size, 0, none⟩ = some (.int .i64 id) := cell_regrown (cellsAt hx4 0)
      have X2 : ∀ d os, (Go.Sort.grow (redrawn w4 d) os).cell? ⟨w3.heap.size, 2, none⟩ = some (.bool true) := cell_regrown (cellsAt hx4 2)
      have X4 : ∀ d os, (Go.Sort.grow (redrawn w4 d) os).cell? ⟨w3.heap.size, 4, none⟩ = some (.string name) := cell_regrown (cellsAt hx4 4)
      have X5 : ∀ d os, (Go.Sort.grow (redrawn w4 d) os).cell? ⟨w3.heap.size, 5, none⟩ = some (.int .i64 typ) := cell_regrown (cellsAt hx4 5)
      have X6 : ∀ d os, (Go.Sort.grow (redrawn w4 d) os).cell? ⟨w3.heap.size, 6, none⟩ = some (.slice av lv cv) := cell_regrown (cellsAt hx4 6)
      have hS : ∀ d os, Calls Tryd.prog 21 #[.slice av lv cv, .slice pa lv cap] (Go.Sort.grow (redrawn w4 d) os) fun e w'' => e = .returned (.bool true) ∧ ∃ p : Regrown, w'' = Go.Sort.grow (redrawn w4 p.d) p.os := fun d os => Calls.regrown_of (by
        have hb := below_regrown w4 d os
        refine (Rc.same_any (rs.take lv) (rs.take lv) _ _ _ ((ho4.below hb).sl HOK.out) (HSL.out _ (HB4.out.trans (hb.mono HB4.out.size)) lv hj) (by rw [hlj]; omega)).mono ?_
        rintro e w9 ⟨r, rfl, hr, hb9⟩
        rw [hr.2 rfl]
        exact ⟨rfl, hb9⟩)
      clear ho4 hx4 hm4 HSL HTL HRD
      refine wp_region_quiet_below (by kernel_rfl) (by kernel_rfl) ?_
      repeat (quiet_step (fail))
      quiet_step (exact hS _ _)
      repeat (quiet_step (fail))
      refine wpQuiet_nil ?_
      intro _ hw'
      obtain ⟨⟨dq, osq⟩, hw''⟩ := hw'
      subst hw''
      have HBQ : Hid (Below w4.heap.size w4 (Go.Sort.grow (redrawn w4 dq) osq)) := below_regrown w4 dq osq
      clear F0 F2 F4 F5 F6 X0 X2 X4 X5 X6 hS
      go_wp2_with fail
      go_ret
      exact ⟨rfl, HB4.out.trans (HBQ.out.mono HB4.out.size)⟩
  · have HEE : Hid (RT = ⟨#[]⟩) := HE.out h0
    have h1 : (RE != 0) = true := by simpa using h0
    obtain ⟨RT2, hRT⟩ : ∃ x, x = RT := ⟨_, rfl⟩
    have e1 : RT.toList = [] := by rw [HEE.out, Lib.toList_data]
    have e2 : RT.toList.isEmpty = true := by rw [e1]; rfl
    clear e1
    go_wp2_with fail
    go_ret
    exact ⟨by first | rfl | simp [e2], HB2.out⟩

end Go.Proofs.YtogmkdhljifbpaaDoor

/- What the laws of messages are handed: a message, read out of memory, and its bulk. -/
namespace Go.Proofs.YtogmkdhljifbpaaDoor
open Go.ChangeShapes Go.WideShapes Go.ChangeAt Go.RowKit

section
variable {H : Type} {enc : TypeId × Value → H} {w : World} {base : Nat} {spare : Nat → Bool} {held : Bool}

theorem Tryd.cellsRec : Tryd.prog.cellsOf 54 = 7 := by kernel_rfl
theorem Tryd.cellsQue : Tryd.prog.cellsOf 27 = 2 := by kernel_rfl
theorem Tryd.cellsMsg : Tryd.prog.cellsOf 30 = 7 := by kernel_rfl
theorem Tryd.cellsRecs : Tryd.prog.cellsOf 28 = 1 := by kernel_rfl
theorem Tryd.cellsC9 : Tryd.prog.cellsOf 9 = 1 := by kernel_rfl
theorem Tryd.cellsC3 : Tryd.prog.cellsOf 3 = 1 := by kernel_rfl
theorem Tryd.cellsC4 : Tryd.prog.cellsOf 4 = 1 := by kernel_rfl

set_option maxRecDepth 100000 in
theorem rec_of_trod {fuel : Nat} {cs : List Value} {x : DataW H × List MemPlace} (h : DataW.trod enc Tryd.prog w base spare held fuel 54 cs = some x) :
    ∃ m : Rc.Rec, cs = m.cs ∧ m.ok ∧ m.name.size + m.text.size + m.target.size ≤ Rows.uptoBulk x.1 := by
  obtain ⟨xs, n, _, hx, hl, hlen, hf⟩ := DataW.trod_struct Tryd.underlying54 h
  rw [Tryd.cellsRec] at hl
  match cs, hl with
  | [c0, c1, c2, c3, c4, c5, c6], _ =>
    match xs, hlen with
    | [y0, y1, y2, y3, y4, y5, y6], _ =>
      have h0 := hf 0 _ rfl
      have h1 := hf 1 _ rfl
      have h2 := hf 2 _ rfl
      have h3 := hf 3 _ rfl
      have h4 := hf 4 _ rfl
      have h5 := hf 5 _ rfl
      have h6 := hf 6 _ rfl
      simp [Tryd.cellsC9] at h0
      simp [Tryd.cellsC3] at h1
      simp [Tryd.cellsC3] at h2
      simp [Tryd.cellsC3] at h3
      simp [Tryd.cellsC9] at h4
      simp [Tryd.cellsC3] at h5
      simp [Tryd.cellsC9] at h6
      obtain ⟨a0, e0, d0, w0⟩ := DataW.trod_string Tryd.underlying9 h0
      obtain ⟨a1, e1, _⟩ := DataW.trod_int Tryd.underlying3 h1
      obtain ⟨a2, e2, _⟩ := DataW.trod_int Tryd.underlying3 h2
      obtain ⟨a3, e3, _⟩ := DataW.trod_int Tryd.underlying3 h3
      obtain ⟨a4, e4, d4, w4⟩ := DataW.trod_string Tryd.underlying9 h4
      obtain ⟨a5, e5, _⟩ := DataW.trod_int Tryd.underlying3 h5
      obtain ⟨a6, e6, d6, w6⟩ := DataW.trod_string Tryd.underlying9 h6
      simp only [List.cons.injEq, and_true] at e0 e1 e2 e3 e4 e5 e6
      subst e0 e1 e2 e3 e4 e5 e6
      refine ⟨⟨a0, a1, a2, a3, a4, a5, a6⟩, rfl, ⟨w0, w4, w6⟩, ?_⟩
      have z0 : a0.data.toList.length = a0.size := by simp
      have z4 : a4.data.toList.length = a4.size := by simp
      have z6 : a6.data.toList.length = a6.size := by simp
      rw [hx, d0, d4, d6]
      simp only [List.map_cons, List.map_nil, Rows.uptoBulk, Rows.uptoBulkAll, z0, z4, z6]
      omega

theorem bulk_mem : ∀ (l : List (DataW H)) (d : DataW H), d ∈ l → Rows.uptoBulk d ≤ Rows.uptoBulkAll l
  | [], _, h => by cases h
  | x :: r, d, h => by
    rcases List.mem_cons.1 h with rfl | h
    · simp only [Rows.uptoBulkAll]; omega
    · have := bulk_mem r d h
      simp only [Rows.uptoBulkAll]; omega

theorem recs_of_trod {fuel : Nat} {cs : List Value} {x : DataW H × List MemPlace} (h : DataW.trod enc Tryd.prog w base spare held fuel 28 cs = some x) :
    ∃ (v : Value) (ms : List Rc.Rec), cs = [v] ∧ Rc.Sl w v ms ∧ (∃ pa cap, v = .slice pa ms.length cap ∧ ms.length ≤ cap) ∧ ∀ r ∈ ms, r.name.size + r.text.size + r.target.size ≤ Rows.uptoBulk x.1 := by
  rcases Go.Deep.open_slice Tryd.underlying28 h with ⟨hcs, _⟩ | ⟨x0, len, cap, m, n, D, Pl, hcs, hb, hl, hm, hmm, hx1, hx⟩
  · exact ⟨_, [], hcs, ⟨none, 0, rfl, Rc.ns_get (by simp), .inl rfl⟩, ⟨none, 0, rfl, by simp⟩, by simp⟩
  · have hlm : len ≤ m := by rw [hmm]; split <;> omega
    have hall : ∀ i, i < len → ∃ q : Rc.Rec, (∀ t, t < 7 → w.cell? (x0.add (i * 7 + t)) = q.cs[t]?) ∧ q.ok ∧ q.name.size + q.text.size + q.target.size ≤ Rows.uptoBulk (D i) := fun i hi => by
      obtain ⟨cs', h1, h2⟩ := hx i (by omega)
      obtain ⟨q, hq, hs, hz⟩ := rec_of_trod h2
      rw [Tryd.cellsRec] at h1
      obtain ⟨_, _, h3⟩ := World.cells?_some h1
      refine ⟨q, fun t ht => ?_, hs, hz⟩
      rw [← Go.Deep.add_add, h3 t ht, hq]
    have hinh : Inhabited Rc.Rec := ⟨Rc.dm⟩
    obtain ⟨F, hF⟩ := Go.Deep.choose_lt (α := Rc.Rec) (p := fun i q => (∀ t, t < 7 → w.cell? (x0.add (i * 7 + t)) = q.cs[t]?) ∧ q.ok ∧ q.name.size + q.text.size + q.target.size ≤ Rows.uptoBulk (D i)) hall
    have hget : ∀ j, j < len → ((List.range len).map F).getD j Rc.dm = F j := fun j hj => by simp [List.getD, hj]
    refine ⟨_, (List.range len).map F, hcs, ⟨some x0, cap, by simp, Rc.ns_get (fun q hq => ?_), ?_⟩, ⟨some x0, cap, by simp, by simpa using hl⟩, fun q hq => ?_⟩
    · obtain ⟨j, hj, rfl⟩ := List.mem_map.1 hq
      exact (hF j (List.mem_range.1 hj)).2.1
    · by_cases h0 : len = 0
      · left; simp [h0]
      · right
        obtain ⟨b, off, spot⟩ := x0
        have hc0 := (hF 0 (by omega)).1 0 (by omega)
        have hspot : spot = none := by simpa [Addr.add] using World.cell?_spot hc0
        subst hspot
        have hcell : ∀ j, j < len → ∀ t, t < 7 → w.cell? ⟨b, off + j * 7 + t, none⟩ = (F j).cs[t]? := fun j hj t ht => by
          have := (hF j hj).1 t ht
          rwa [Go.WideShapes.add_plain, ← Nat.add_assoc] at this
        refine ⟨b, off, rfl, World.block_lt_of_cell? w ⟨b, off + 0 * 7 + 0, none⟩ (hcell 0 (by omega) 0 (by omega)), fun j hj => ?_⟩
        have hj' : j < len := by simpa using hj
        rw [hget j hj']
        exact ⟨hcell j hj' 0 (by omega), hcell j hj' 1 (by omega), hcell j hj' 2 (by omega), hcell j hj' 3 (by omega), hcell j hj' 4 (by omega), hcell j hj' 5 (by omega), hcell j hj' 6 (by omega)⟩
    · obtain ⟨j, hj, rfl⟩ := List.mem_map.1 hq
      have hj2 := List.mem_range.1 hj
      have h1 := (hF j hj2).2.2
      have h2 := bulk_mem ((List.range len).map D) (D j) (List.mem_map.2 ⟨j, hj, rfl⟩)
      rw [hx1]
      simp only [Rows.uptoBulk]
      omega

set_option maxRecDepth 100000 in
theorem msg_of_trod {fuel : Nat} {cs : List Value} {x : DataW H × List MemPlace} (h : DataW.trod enc Tryd.prog w base spare held fuel 30 cs = some x) :
    ∃ (id code typ : Int) (ans cut : Bool) (name : ByteArray) (v : Value) (rs : List Rc.Rec), cs = [.int .i64 id, .bool ans, .bool cut, .int .i64 code, .string name, .int .i64 typ, v] ∧ name.size ≤ maxLen ∧ Rc.Sl w v rs ∧ (∃ pa cap, v = .slice pa rs.length cap ∧ rs.length ≤ cap) ∧ name.size ≤ Rows.uptoBulk x.1 ∧ ∀ r ∈ rs, r.name.size + r.text.size + r.target.size ≤ Rows.uptoBulk x.1 := by
  obtain ⟨xs, n, _, hx, hl, hlen, hf⟩ := DataW.trod_struct Tryd.underlying30 h
  rw [Tryd.cellsMsg] at hl
  match cs, hl with
  | [c0, c1, c2, c3, c4, c5, c6], _ =>
    match xs, hlen with
    | [y0, y1, y2, y3, y4, y5], _ =>
      have h0 := hf 0 _ rfl
      have h1 := hf 1 _ rfl
      have h2 := hf 2 _ rfl
      have h3 := hf 3 _ rfl
      have h4 := hf 4 _ rfl
      have h5 := hf 5 _ rfl
      simp [Tryd.cellsC3] at h0
      simp [Tryd.cellsC4] at h1
      simp [Tryd.cellsC4] at h2
      simp [Tryd.cellsC3] at h3
      simp [Tryd.cellsQue] at h4
      simp [Tryd.cellsRecs] at h5
      obtain ⟨a0, e0, _⟩ := DataW.trod_int Tryd.underlying3 h0
      obtain ⟨a1, e1, _⟩ := DataW.trod_bool Tryd.underlying4 h1
      obtain ⟨a2, e2, _⟩ := DataW.trod_bool Tryd.underlying4 h2
      obtain ⟨a3, e3, _⟩ := DataW.trod_int Tryd.underlying3 h3
      obtain ⟨v, rs, e5, hsl, hcp, hbk⟩ := recs_of_trod h5
      obtain ⟨zs, n2, _, hx2, hl2, hlen2, hf2⟩ := DataW.trod_struct Tryd.underlying27 h4
      match zs, hlen2 with
      | [u0, u1], _ =>
        have g0 := hf2 0 _ rfl
        have g1 := hf2 1 _ rfl
        simp [Tryd.cellsC9] at g0
        simp [Tryd.cellsC3] at g1
        obtain ⟨a4, e4, d4, w4⟩ := DataW.trod_string Tryd.underlying9 g0
        obtain ⟨a5, e6, _⟩ := DataW.trod_int Tryd.underlying3 g1
        simp only [List.cons.injEq, and_true] at e0 e1 e2 e3 e4 e5 e6
        subst e0 e1 e2 e3 e4 e5 e6
        have z4 : a4.data.toList.length = a4.size := by simp
        have hz : a4.size ≤ Rows.uptoBulk x.1 ∧ Rows.uptoBulk y5.1 ≤ Rows.uptoBulk x.1 := by
          rw [hx]
          simp only [List.map_cons, List.map_nil, Rows.uptoBulk, Rows.uptoBulkAll, hx2, d4, z4]
          omega
        exact ⟨a0, a3, a5, a1, a2, a4, _, rs, rfl, w4, hsl, hcp, hz.1, fun r hr => Nat.le_trans (hbk r hr) hz.2⟩

set_option maxRecDepth 100000 in
theorem open_msgc {r : Reach} {b0 : Nat} {v : Value} {d : DataW H} {p : List MemPlace} (hv : Value.okWide Tryd.prog w r b0 30 v) (h : DataW.Trod enc Tryd.prog w base spare held 30 v d p) :
    ∃ (id code typ : Int) (ans cut : Bool) (name : ByteArray) (u : Value) (rs : List Rc.Rec), v = .agg #[.int .i64 id, .bool ans, .bool cut, .int .i64 code, .string name, .int .i64 typ, u] ∧ name.size ≤ maxLen ∧ Rc.Sl w u rs ∧ (∃ pa cap, u = .slice pa rs.length cap ∧ rs.length ≤ cap) ∧ name.size ≤ Rows.uptoBulk d ∧ ∀ r ∈ rs, r.name.size + r.text.size + r.target.size ≤ Rows.uptoBulk d := by
  obtain ⟨cs, rfl, hsz⟩ := okWide_struct Tryd.underlying30 hv
  obtain ⟨fuel, hf⟩ := h
  obtain ⟨id, code, typ, ans, cut, name, u, rs, hm, h1, h2, hc, h3, h4⟩ := msg_of_trod hf
  refine ⟨id, code, typ, ans, cut, name, u, rs, ?_, h1, h2, hc, h3, h4⟩
  simp only [Value.cells] at hm
  congr 1
  apply Array.ext'
  exact hm

set_option maxRecDepth 100000 in
theorem open_msg {r : Reach} {b0 : Nat} {v : Value} {d : DataW H} {p : List MemPlace} (hv : Value.okWide Tryd.prog w r b0 30 v) (h : DataW.Trod enc Tryd.prog w base spare held 30 v d p) :
    ∃ (id code typ : Int) (ans cut : Bool) (name : ByteArray) (u : Value) (rs : List Rc.Rec), v = .agg #[.int .i64 id, .bool ans, .bool cut, .int .i64 code, .string name, .int .i64 typ, u] ∧ name.size ≤ maxLen ∧ Rc.Sl w u rs ∧ name.size ≤ Rows.uptoBulk d ∧ ∀ r ∈ rs, r.name.size + r.text.size + r.target.size ≤ Rows.uptoBulk d := by
  obtain ⟨id, code, typ, ans, cut, name, u, rs, hm, h1, h2, _, h3, h4⟩ := open_msgc hv h
  exact ⟨id, code, typ, ans, cut, name, u, rs, hm, h1, h2, h3, h4⟩

end

end Go.Proofs.YtogmkdhljifbpaaDoor

/- Contracts of the library, laid at this program. -/
namespace Go.Proofs
open Go.Shelf
def Tryd.laysM146_ren : Go.Shelf.Ren := ⟨fun | 146 => 80 | 221 => 90 | 268 => 94 | 138 => 25 | 143 => 47 | 195 => 45 | 197 => 96 | 218 => 46 | 219 => 63 | 260 => 97 | 217 => 75 | 225 => 76 | 224 => 77 | 267 => 78 | 266 => 87 | 314 => 88 | n => n, fun | 9 => 9 | 31 => 46 | 3 => 3 | 4 => 4 | 0 => 0 | 105 => 112 | 21 => 21 | 5 => 5 | 46 => 91 | 119 => 114 | 139 => 117 | 138 => 116 | 146 => 105 | 51 => 104 | n => n, fun | 1 => 0 | 3 => 1 | 4 => 2 | n => n⟩
theorem Tryd.laysM146 : Go.Proofs.LaysM.n146 Tryd.prog Tryd.laysM146_ren := {
  mixed := by kernel_rfl
  f138 := Tryd.func25.trans (congrArg some (by kernel_rfl))
  f143 := Tryd.func47.trans (congrArg some (by kernel_rfl))
  f146 := Tryd.func80.trans (congrArg some (by kernel_rfl))
  f195 := Tryd.func45.trans (congrArg some (by kernel_rfl))
  f197 := Tryd.func96.trans (congrArg some (by kernel_rfl))
  f217 := Tryd.func75.trans (congrArg some (by kernel_rfl))
  f218 := Tryd.func46.trans (congrArg some (by kernel_rfl))
  f219 := Tryd.func63.trans (congrArg some (by kernel_rfl))
  f221 := Tryd.func90.trans (congrArg some (by kernel_rfl))
  f224 := Tryd.func77.trans (congrArg some (by kernel_rfl))
  f225 := Tryd.func76.trans (congrArg some (by kernel_rfl))
  f260 := Tryd.func97.trans (congrArg some (by kernel_rfl))
  f266 := Tryd.func87.trans (congrArg some (by kernel_rfl))
  f267 := Tryd.func78.trans (congrArg some (by kernel_rfl))
  f268 := Tryd.func94.trans (congrArg some (by kernel_rfl))
  f314 := Tryd.func88.trans (congrArg some (by kernel_rfl))
  t0 := Tryd.underlying0
  a0 := Tryd.isAgg0
  z0 := Tryd.sizeOf0
  v0 := Tryd.zeroValue0
  t3 := Tryd.underlying3
  a3 := Tryd.isAgg3
  z3 := Tryd.sizeOf3
  v3 := Tryd.zeroValue3
  t4 := Tryd.underlying4
  a4 := Tryd.isAgg4
  z4 := Tryd.sizeOf4
  v4 := Tryd.zeroValue4
  t5 := Tryd.underlying5
  a5 := Tryd.isAgg5
  z5 := Tryd.sizeOf5
  v5 := Tryd.zeroValue5
  t9 := Tryd.underlying9
  a9 := Tryd.isAgg9
  z9 := Tryd.sizeOf9
  v9 := Tryd.zeroValue9
  t21 := Tryd.underlying21
  a21 := Tryd.isAgg21
  z21 := Tryd.sizeOf21
  v21 := Tryd.zeroValue21
  t31 := Tryd.underlying46
  a31 := Tryd.isAgg46
  z31 := Tryd.sizeOf46
  v31 := Tryd.zeroValue46
  t46 := Tryd.underlying91
  a46 := Tryd.isAgg91
  z46 := Tryd.sizeOf91
  v46 := Tryd.zeroValue91
  t51 := Tryd.underlying104
  a51 := Tryd.isAgg104
  z51 := Tryd.sizeOf104
  v51 := Tryd.zeroValue104
  t105 := Tryd.underlying112
  a105 := Tryd.isAgg112
  z105 := Tryd.sizeOf112
  v105 := Tryd.zeroValue112
  t119 := Tryd.underlying114
  a119 := Tryd.isAgg114
  z119 := Tryd.sizeOf114
  t138 := Tryd.underlying116
  a138 := Tryd.isAgg116
  z138 := Tryd.sizeOf116
  v138 := Tryd.zeroValue116
  t139 := Tryd.underlying117
  a139 := Tryd.isAgg117
  z139 := Tryd.sizeOf117
  v139 := Tryd.zeroValue117
  t146 := Tryd.underlying105
  a146 := Tryd.isAgg105
  z146 := Tryd.sizeOf105
  v146 := Tryd.zeroValue105
  g1 := by kernel_rfl
  g3 := by kernel_rfl
  g4 := by kernel_rfl
  i0 := by kernel_rfl
  i3 := by kernel_rfl
  i4 := by kernel_rfl
  i5 := by kernel_rfl
  i9 := by kernel_rfl
  i21 := by kernel_rfl
  i31 := by kernel_rfl
  i46 := by kernel_rfl
  i51 := by kernel_rfl
  i105 := by kernel_rfl
  i138 := by kernel_rfl
  i139 := by kernel_rfl
  i146 := by kernel_rfl
  m1 := by kernel_rfl
  s1_3 := fun w h => Go.Proofs.cell_of_shapedOpen_int (zero := #[.int .i64 0]) (t := 3) h (of_decide_eq_true (by kernel_rfl)) (by kernel_rfl) rfl (by kernel_rfl) (by kernel_rfl) Tryd.underlying3
  m3 := by kernel_rfl
  m4 := by kernel_rfl }
open Go.RowKit Go.Lib in
theorem Tryd.strings_Split_shaped (s sep : ByteArray) (w : World) (h : w.ShapedOpen Tryd.prog) (hs : s.size < 4294967281) (h1 : 1 ≤ sep.size) :
    Calls Tryd.prog 80 #[.string s, .string sep] w fun e w' =>
      e = .returned (.slice (some ⟨w.heap.size, 0, none⟩) (Lib.countB s sep + 1) (Lib.countB s sep + 1)) ∧ w' = w.alloc (.cells ((Lib.splitB sep 0 (Lib.countB s sep) s).map Value.string).toArray 9) := Any.strings_Split_shaped Tryd.laysM146 s sep w h hs h1
end Go.Proofs

/- MaxLen's cell, in a world that is as worlds are. -/
namespace Go.Proofs.YtogmkdhljifbpaaDoor
open Go.ChangeShapes Go.WideShapes Go.ChangeAt Go.RowKit

theorem ml_of {W : World} (h : W.ShapedOpen Tryd.prog) : ML W := by
  obtain ⟨m, hm⟩ := Tryd.laysM146.s1_3 W h
  have hm2 : W.cell? ⟨0, 0, none⟩ = some (.int .i64 m) := hm
  exact ⟨World.block_lt_of_cell? W ⟨0, 0, none⟩ hm2, m, hm2⟩

end Go.Proofs.YtogmkdhljifbpaaDoor

/- A law that is handed what its row says of variables, in a world that is as worlds are. -/
namespace Go.Proofs.YtogmkdhljifbpaaDoor
open Go.ChangeShapes Go.WideShapes Go.ChangeAt Go.RowKit

/-- A law that is handed what its row says of variables, in a world that is as worlds are. -/
theorem returns_of_shaped {H : Type} {enc : TypeId × Value → H} {a : Assume} {C : Checked} {os : Os} {f : FuncId} {fn : Func} {s : ChangeSpec} {conds : List PathCond} {apart fresh handsOn again : Bool} {X : World → Array Value → Prop}
    (own : ownKnob C.prog.godebug = none) (started : os.Started) (noInit : C.prog.inits.idxOf? f = none) (hfn : C.prog.funcs[f]? = some fn)
    (witness : ∃ (w : World) (tape : Tape) (i : Input), w.os = os ∧ (w.forCall tape i).Shaped C.prog ∧ i.vars = [] ∧ Input.okWide C.prog (w.forCall tape i) .any w.heap.size f i ∧
      ((s.pre enc C.prog fn conds apart (w.forCall tape i).memory i.args ∧ X (w.forCall tape i).memory i.args) ∧ sizedMet enc C.prog fn (OpenSpec.ofChange s) apart (w.forCall tape i).memory i.args) ∧ a.holds C.prog (lone (Frame.enter C.prog f i.args .normal) [] (w.forCall tape i)))
    (contract : ∀ (W : World) (base : Nat) (args : Array Value) (ds gs : List (DataW H)) (before : List MemPlace), W.ShapedOpen C.prog →
      (∀ (j : Nat) t v, fn.params[j]? = some t → args[j]? = some v → Value.okWide C.prog W .any base t v) →
      DataW.Whole enc C.prog fn.params.toList s.vars apart W args.toList ds gs before →
      Calls C.prog f args W fun e W' => ∃ v, e = .returned v ∧ s.post enc C.prog fn apart fresh handsOn again W args v W') :
    ReturnsInHanded a C os f .any (fun w args => (s.pre enc C.prog fn conds apart w args ∧ X w args) ∧ sizedMet enc C.prog fn (OpenSpec.ofChange s) apart w args) (s.post enc C.prog fn apart fresh handsOn again) := by
  refine returnsInHanded_of_calls own started noInit witness ?_
  intro w tape i _ hsh _ hok hpre _
  obtain ⟨_, _, _, fn', hfn', _, _, _, _, hval⟩ := hok
  have e : fn' = fn := Option.some.inj (hfn'.symm.trans hfn)
  subst e
  obtain ⟨⟨⟨ds, gs, before, hw, _⟩, _⟩, _⟩ := hpre
  refine (contract (w.forCall tape i) w.heap.size i.args ds gs before hsh hval (DataW.Whole.of_heap (w' := w.forCall tape i) (by rfl) hw)).mono fun e W' ⟨v, he, hp⟩ => ?_
  subst he
  exact ChangeSpec.post_blind hp

end Go.Proofs.YtogmkdhljifbpaaDoor

