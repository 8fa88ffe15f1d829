/- Q1, Q2, F2, FM, GU, GV, ShelfC, SP -/
import Derived.Test.YtigffgjkakalfaaGreatDoorV11
import Derived.Test.YtigffgjkakalfaaGreatDoorV5
import Derived.Lib.Split
import Derived.OwnWalk
import Derived.Test.YtigffgjkakalfaaGreatDoorV10
import Derived.Deep.RegionHeld3
import Derived.StillTactics
import Derived.Shelf.Strings.Builder1
import Derived.Shelf.Strings.Builder2
import Derived.Shelf.Strings.OnBuilder
import Derived.Shelf.Small.Bits
import Derived.Shelf.Small.Strs
import Derived.Shelf.Small.Wraps
import Derived.Shelf.Strconv.Itoa0
import Derived.Shelf.LaysM
import Derived.Shelf.Strconv.Clone
import Derived.Shelf.Strings.Search1
import Derived.Shelf.Strings.Search2
import Derived.Shelf.Strings.Search3
import Derived.Shelf.Strings.Cut
import Derived.Shelf.Strings.Count
import Derived.Shelf.Strings.Shaped
import Derived.Shelf.Strings.Split
import Derived.Shelf.Strings.SplitShaped
import Derived.Shelf.Unicode.DecodeSlow
import Derived.Ground.SlsfProg
import Derived.Shelf.SlSortCmp.Insertion
import Derived.Shelf.SlSortCmp.SiftDown1
import Derived.Shelf.SlSortCmp.HeapSort1
import Derived.Shelf.SlSortCmp.Insertion1
import Derived.Shelf.SlSortCmp.Median1
import Derived.Shelf.SlSortCmp.Pivot1
import Derived.Shelf.SlSortCmp.ReverseRange1
import Derived.Shelf.SlSortCmp.PartialInsertion1
import Derived.Shelf.SlSortCmp.PartitionEqual1
import Derived.Shelf.SlSortCmp.Partition1
import Derived.Shelf.SlSortCmp.Pdq1
import Derived.Shelf.SlSortCmp.Whole1
import Derived.Shelf.SlSortCmp.NoneTotal
import Derived.Test.YtigffgjkakalfaaGreatDoorProg
import Derived.Lib.SplitLaws
import Derived.Lib.IndexBytes
import Derived.Below
/- strings.Cut at a dot; whether a name has a label of some kind; what is wrong with a name. -/
namespace Go.Proofs.YtigffgjkakalfaaGreatDoor
open Go.RowKit

theorem belowN {B : Nat} {w w1 : World} (h : Below B w w1) (m : Nat) : Below B w (w1.drewN m) := ⟨h.os, h.tape, h.output, h.size, h.block⟩
theorem ext_to (s : ByteArray) (i : Nat) : s.extract 0 i = mk (s.data.toList.take i) := by
  rw [← mk_data (s.extract 0 i), Lib.extract_from_zero]
theorem ext_from (s : ByteArray) (i : Nat) : s.extract i s.size = mk (s.data.toList.drop i) := by
  rw [← mk_data (s.extract i s.size), Lib.extract_to_end]

set_option maxHeartbeats 800000 in
theorem scut_none (s : ByteArray) (w : World) (h : Lib.indexByte s.data.toList 46 = -1) :
    Calls Tryz.prog 146 #[.string s, .string ⟨#[46]⟩] w fun e w' => e = .returned (.tuple #[.string s, .string ⟨#[]⟩, .bool false]) ∧ w' = w := by
  go_enter Tryz.func146, Tryz.ntmps146
  go_wp2_with (go_at_call 147; refine (Tryz.stringslite_Index_one s 46 _).mono ?_; rintro e w' ⟨rfl, rfl⟩; rw [h])
  go_ret3
  exact ⟨rfl, rfl⟩

set_option maxHeartbeats 1600000 in
theorem scut_some (s : ByteArray) (i : Nat) (w : World) (h : Lib.indexByte s.data.toList 46 = (i : Int)) (hs : s.size ≤ maxLen) :
    Calls Tryz.prog 146 #[.string s, .string ⟨#[46]⟩] w fun e w' => e = .returned (.tuple #[.string (s.extract 0 i), .string (s.extract (i + 1) s.size), .bool true]) ∧ ∃ n, w' = w.drewN n := by
  have hi : i < s.size := by have := (ix_some h).1; simpa using this
  unfold maxLen at hs
  have h0 : ((i : Int)).toNat = i := by omega
  have h1 : IntKind.i64.wrap ((i : Int) + 1) = ((i + 1 : Nat) : Int) := by rw [IntKind.wrap_i64]; omega
  have h2 : (((i + 1 : Nat) : Int)).toNat = i + 1 := by omega
  have h3 : ((s.size : Int)).toNat = s.size := by omega
  go_enter Tryz.func146, Tryz.ntmps146
  go_wp2_with (go_at_call 147; refine (Tryz.stringslite_Index_one s 46 _).mono ?_; rintro e w' ⟨rfl, rfl⟩; rw [h])
  go_quiet (fail)
  go_wp2_with fail
  go_ret3
  exact ⟨rfl, ⟨_, rfl⟩⟩

set_option maxHeartbeats 800000 in
theorem cut_none (s : ByteArray) (w : World) (h : Lib.indexByte s.data.toList 46 = -1) :
    Calls Tryz.prog 137 #[.string s, .string ⟨#[46]⟩] w fun e w' => e = .returned (.tuple #[.string s, .string ⟨#[]⟩, .bool false]) ∧ Below w.heap.size w w' := by
  go_enter Tryz.func137, Tryz.ntmps137
  go_wp2_with (go_at_call 146; refine (scut_none s _ h).mono ?_; rintro e w' ⟨rfl, rfl⟩)
  go_ret3
  exact ⟨rfl, Below.refl _ _⟩

set_option maxHeartbeats 800000 in
theorem cut_some (s : ByteArray) (i : Nat) (w : World) (h : Lib.indexByte s.data.toList 46 = (i : Int)) (hs : s.size ≤ maxLen) :
    Calls Tryz.prog 137 #[.string s, .string ⟨#[46]⟩] w fun e w' => e = .returned (.tuple #[.string (s.extract 0 i), .string (s.extract (i + 1) s.size), .bool true]) ∧ Below w.heap.size w w' := by
  go_enter Tryz.func137, Tryz.ntmps137
  go_wp2_with (go_at_call 146; refine (scut_some s i _ h hs).mono ?_; rintro e w' ⟨rfl, n, rfl⟩)
  go_ret3
  exact ⟨rfl, belowN (Below.refl _ _) _⟩

set_option maxHeartbeats 400000 in
theorem isNone_any (s : ByteArray) (w : World) (hs : s.size ≤ maxLen) :
    Calls Tryz.prog 119 #[.string s] w fun e w' => e = .returned (.bool (!labB s)) ∧ w' = w := by
  go_enter Tryz.func119, Tryz.ntmps119
  go_wp2_with (go_at_call 43; refine (label_any _ _ hs).mono ?_; rintro e w' ⟨rfl, rfl⟩)
  go_ret
  exact ⟨rfl, rfl⟩

def szOf : Value → Nat
  | .string r => r.size
  | _ => 0
def tOf : Value → Nat
  | .bool true => 1
  | _ => 0

theorem sz_end (r : ByteArray) : szOf (.string ⟨#[]⟩) + tOf (.bool false) < szOf (.string r) + tOf (.bool true) := by
  show 0 + 0 < r.size + 1
  omega

set_option maxHeartbeats 1600000 in
theorem hasLabel_any (s : ByteArray) (w : World) (hs : s.size ≤ maxLen) :
    Calls Tryz.prog 120 #[.string s, .func (.func 119) #[] #[]] w fun e w' => e = .returned (.bool (!(spl s.data.toList).all labL)) ∧ Below w.heap.size w w' := by
  have H0 : Hid ((spl s.data.toList).all labL = (spl s.data.toList).all labL) := rfl
  have HS : Hid (∀ r : ByteArray, r = s → r.size ≤ maxLen) := fun r h => by rw [h]; exact hs
  have HS0 := HS.out s rfl
  generalize hres : (spl s.data.toList).all labL = res at *
  have H1 : Hid (res = (spl s.data.toList).all labL) := hres.symm
  clear hres H0 HS hs
  go_enter Tryz.func120, Tryz.ntmps120
  go_wp2_with fail
  go_loopw [0, 5] (fun nm mo wr => ∃ r : ByteArray, nm = .string r ∧ r.size ≤ maxLen ∧ ((mo = .bool true ∧ Hid (res = (spl r.data.toList).all labL)) ∨ (mo = .bool false ∧ Hid (res = true))) ∧ Below w.heap.size w wr) (fun nm mo _ => szOf nm + tOf mo)
  case atStart => exact ⟨s, rfl, HS0, .inl ⟨rfl, H1⟩, Below.refl _ _⟩
  case round =>
    obtain ⟨r, rfl, hr, hmo, hbl⟩ := hrel
    have HB : Hid (Below w.heap.size w wr) := hbl
    clear hbl
    rcases hmo with ⟨rfl, hres⟩ | ⟨rfl, hres⟩
    · have hge := Lib.indexByte_ge r.data.toList 46
      by_cases hi : Lib.indexByte r.data.toList 46 = -1
      · have hL : res = labB r := by rw [hres.out, spl_none _ (ix_none hi)]; simp [labL, mk_data]
        have HC : Hid (∀ W, Calls Tryz.prog 137 #[.string r, .string ⟨#[46]⟩] W fun e w' => e = .returned (.tuple #[.string r, .string ⟨#[]⟩, .bool false]) ∧ Below W.heap.size W w') := fun W => cut_none r W hi
        clear hi hge hres
        rcases hb : labB r with _ | _
        · rw [hb] at hL
          have HL : Hid (res = false) := hL
          clear hL
          go_wp2_with (first | (go_at_call 137; refine (HC.out _).mono ?_; rintro e w1 ⟨rfl, hb1⟩) | (go_at_call 119; refine (isNone_any r _ hr).mono ?_; rintro e w2 ⟨rfl, rfl⟩; rw [hb]))
          go_ret
          exact ⟨ret_bool (by rw [HL.out]; rfl), HB.out.trans (hb1.mono HB.out.size)⟩
        · rw [hb] at hL
          have HL : Hid (res = true) := hL
          clear hL
          go_wp2_with (first | (go_at_call 137; refine (HC.out _).mono ?_; rintro e w1 ⟨rfl, hb1⟩) | (go_at_call 119; refine (isNone_any r _ hr).mono ?_; rintro e w2 ⟨rfl, rfl⟩; rw [hb]))
          exact ⟨⟨⟨#[]⟩, rfl, by decide, .inr ⟨rfl, HL⟩, HB.out.trans (hb1.mono HB.out.size)⟩, sz_end r⟩
      · obtain ⟨i, hi2⟩ : ∃ i : Nat, Lib.indexByte r.data.toList 46 = (i : Int) := ⟨(Lib.indexByte r.data.toList 46).toNat, by omega⟩
        obtain ⟨h1, h2, h3⟩ := ix_some hi2
        have hlt : i < r.size := by simpa using h1
        have hL : res = (labB (r.extract 0 i) && (spl (r.extract (i + 1) r.size).data.toList).all labL) := by
          rw [hres.out, ext_to, ext_from, data_mk]
          conv => lhs; rw [h2]
          rw [spl_app _ _ h3, List.all_cons]; rfl
        have hz1 : (r.extract 0 i).size ≤ maxLen := by rw [ext_to, mk_size, List.length_take]; simp; unfold maxLen at *; omega
        have hz2 : (r.extract (i + 1) r.size).size ≤ maxLen := by rw [ext_from, mk_size, List.length_drop]; simp; unfold maxLen at *; omega
        have hz3 : (r.extract (i + 1) r.size).size < r.size := by rw [ext_from, mk_size, List.length_drop]; simp; omega
        have HC : Hid (∀ W, Calls Tryz.prog 137 #[.string r, .string ⟨#[46]⟩] W fun e w' => e = .returned (.tuple #[.string (r.extract 0 i), .string (r.extract (i + 1) r.size), .bool true]) ∧ Below W.heap.size W w') := fun W => cut_some r i W hi2 hr
        clear hi hi2 hge hres h1 h2 h3
        generalize r.extract 0 i = la at *
        generalize r.extract (i + 1) r.size = re at *
        rcases hb : labB la with _ | _
        · rw [hb] at hL
          have HL : Hid (res = false) := hL
          clear hL
          go_wp2_with (first | (go_at_call 137; refine (HC.out _).mono ?_; rintro e w1 ⟨rfl, hb1⟩) | (go_at_call 119; refine (isNone_any la _ hz1).mono ?_; rintro e w2 ⟨rfl, rfl⟩; rw [hb]))
          go_ret
          exact ⟨ret_bool (by rw [HL.out]; rfl), HB.out.trans (hb1.mono HB.out.size)⟩
        · rw [hb, Bool.true_and] at hL
          have HL : Hid (res = (spl re.data.toList).all labL) := hL
          clear hL
          go_wp2_with (first | (go_at_call 137; refine (HC.out _).mono ?_; rintro e w1 ⟨rfl, hb1⟩) | (go_at_call 119; refine (isNone_any la _ hz1).mono ?_; rintro e w2 ⟨rfl, rfl⟩; rw [hb]))
          exact ⟨⟨re, rfl, hz2, .inl ⟨rfl, HL⟩, HB.out.trans (hb1.mono HB.out.size)⟩, by simp [szOf, tOf]; omega⟩
    · go_wp2_with fail
      go_ret
      exact ⟨ret_bool (by rw [hres.out]; rfl), HB.out⟩

end Go.Proofs.YtigffgjkakalfaaGreatDoor

/- dns.Check. -/
namespace Go.Proofs.YtigffgjkakalfaaGreatDoor
open Go.RowKit

theorem nempty {s : ByteArray} (h : s.size ≠ 0) : (s.toList == []) = false ∧ ¬ s.toList = [] := by
  have h3 : ¬ s.toList = [] := fun e => h (by
    rw [Lib.toList_data] at e
    have : s.data.toList.length = 0 := by rw [e]; rfl
    simpa using this)
  exact ⟨by simpa using h3, h3⟩
theorem isempty {s : ByteArray} (h : s.size = 0) : s = ⟨#[]⟩ := by
  cases s with
  | mk a => simp [ByteArray.size] at h; subst h; rfl

set_option maxHeartbeats 1600000 in
theorem dnsCheck_any (s : ByteArray) (w : World) (hs : s.size ≤ maxLen) :
    Calls Tryz.prog 96 #[.string s] w fun e w' => e = .returned (.int .i64 (chkN s)) ∧ Below w.heap.size w w' := by
  by_cases h0 : s.size = 0
  · have e0 : chkN s = 0 := by unfold chkN; rw [if_pos h0]
    rw [e0]
    have := isempty h0
    subst this
    clear e0 h0 hs
    go_enter Tryz.func96, Tryz.ntmps96
    go_wp2_with fail
    go_ret
    exact ⟨rfl, Below.refl _ _⟩
  · obtain ⟨n1, n2⟩ := nempty h0
    have HL : Hid (∀ W, Calls Tryz.prog 120 #[.string s, .func (.func 119) #[] #[]] W fun e w' => e = .returned (.bool (!(spl s.data.toList).all labL)) ∧ Below W.heap.size W w') := fun W => hasLabel_any s W hs
    have HE : Hid (chkN s = if (spl s.data.toList).all labL = false then 1 else if 8 < (spl s.data.toList).length ∨ 120 < s.size then 2 else 0) := (show chkN s = _ by unfold chkN; rw [if_neg h0])
    have hlen := spl_len s.data.toList
    unfold maxLen at hs
    clear h0
    generalize chkN s = r at *
    cases hall : (spl s.data.toList).all labL with
    | false =>
      have HR : Hid (r = 1) := (show r = 1 by rw [HE.out, if_pos hall])
      rw [hall] at HL
      clear HE
      go_enter Tryz.func96, Tryz.ntmps96
      go_wp2_with (go_at_call 120; refine (HL.out _).mono ?_; rintro e w1 ⟨rfl, hb1⟩)
      go_ret
      exact ⟨ret_int HR.out.symm, hb1⟩
    | true =>
      rw [hall] at HL
      have HE2 : Hid (r = if 8 < s.data.toList.count 46 + 1 ∨ 120 < s.size then 2 else 0) := (show r = _ by rw [HE.out, hall, hlen]; rfl)
      have hcl : s.data.toList.count 46 ≤ s.size := by have := List.count_le_length (a := (46 : UInt8)) (l := s.data.toList); simpa using this
      clear HE hlen hall
      have HCT : Hid (∀ W, Calls Tryz.prog 121 #[.string s, .string ⟨#[46]⟩] W fun e w' => e = .returned (.int .i64 ((s.data.toList.count 46 : Nat) : Int)) ∧ w' = W) := fun W => Tryz.strings_Count_one s 46 W
      generalize s.data.toList.count 46 = cn at *
      by_cases h1 : 8 ≤ cn
      · have HR : Hid (r = 2) := (show r = 2 by rw [HE2.out, if_pos (.inl (by omega))])
        clear HE2
        have h2 : decide (8 ≤ (cn : Int)) = true := by simp; omega
        go_enter Tryz.func96, Tryz.ntmps96
        go_wp2_with (first | (go_at_call 120; refine (HL.out _).mono ?_; rintro e w1 ⟨rfl, hb1⟩) | (go_at_call 121; refine (HCT.out _).mono ?_; rintro e w2 ⟨rfl, rfl⟩))
        go_ret
        exact ⟨ret_int HR.out.symm, hb1⟩
      · have h2 : decide (8 ≤ (cn : Int)) = false := by simp; omega
        by_cases h3 : 120 < s.size
        · have HR : Hid (r = 2) := (show r = 2 by rw [HE2.out, if_pos (.inr h3)])
          clear HE2
          have h4 : decide (120 < (s.size : Int)) = true := by simp; omega
          go_enter Tryz.func96, Tryz.ntmps96
          go_wp2_with (first | (go_at_call 120; refine (HL.out _).mono ?_; rintro e w1 ⟨rfl, hb1⟩) | (go_at_call 121; refine (HCT.out _).mono ?_; rintro e w2 ⟨rfl, rfl⟩))
          go_ret
          exact ⟨ret_int HR.out.symm, hb1⟩
        · have HR : Hid (r = 0) := (show r = 0 by rw [HE2.out, if_neg (by omega)])
          clear HE2
          have h4 : decide (120 < (s.size : Int)) = false := by simp; omega
          go_enter Tryz.func96, Tryz.ntmps96
          go_wp2_with (first | (go_at_call 120; refine (HL.out _).mono ?_; rintro e w1 ⟨rfl, hb1⟩) | (go_at_call 121; refine (HCT.out _).mono ?_; rintro e w2 ⟨rfl, rfl⟩))
          go_ret
          exact ⟨ret_int HR.out.symm, hb1⟩

end Go.Proofs.YtigffgjkakalfaaGreatDoor

/- dns.check of a message with no records. -/
namespace Go.Proofs.YtigffgjkakalfaaGreatDoor
open Go.RowKit

set_option maxHeartbeats 800000 in
theorem checkName_ok (s : ByteArray) (w : World) (hs : s.size ≤ maxLen) (h : chkN s = 0) :
    Calls Tryz.prog 68 #[.string s] w fun r w' => r = .returned (.tuple #[]) ∧ Below w.heap.size w w' := by
  have HC : Hid (Calls Tryz.prog 96 #[.string s] w fun e w' => e = .returned (.int .i64 0) ∧ Below w.heap.size w w') := (show Calls _ _ _ _ _ by have h2 := dnsCheck_any s w hs; rwa [h] at h2)
  go_enter Tryz.func68, Tryz.ntmps68
  go_wp2_with fail
  refine HC.out.mono ?_
  rintro e w1 ⟨rfl, hb1⟩
  go_wp2_with (go_at_call 63; refine (need_ok _ _).mono ?_; rintro e w2 ⟨rfl, rfl⟩)
  simp [bodyPost, results, Tryz.results68]
  exact hb1

set_option maxHeartbeats 800000 in
theorem rtype_any (n : Int) (w : World) :
    Calls Tryz.prog 69 #[.int .i64 n] w fun e w' => e = .returned (.bool (decide (n = 1) || decide (n = 16) || decide (n = 33))) ∧ w' = w := by
  go_enter Tryz.func69, Tryz.ntmps69
  go_wp2
  all_goals
    go_ret
    exact ⟨ret_bool (by rw [Bool.eq_iff_iff]; simp; try omega), rfl⟩

set_option maxHeartbeats 1600000 in
set_option maxRecDepth 100000 in
theorem dcheck_none (id code typ : Int) (ans cut : Bool) (name : ByteArray) (w : World) (h1 : within id 0 65535 = true) (h2 : within code 0 15 = true) (hs : name.size ≤ maxLen) (hn : chkN name = 0) (ht : (decide (typ = 1) || decide (typ = 16) || decide (typ = 33)) = true) :
    Calls Tryz.prog 33 #[.agg #[.int .i64 id, .bool ans, .bool cut, .int .i64 code, .string name, .int .i64 typ, .slice none 0 0]] w fun r w' => r = .returned (.tuple #[]) ∧ Below w.heap.size w w' := by
  go_enter Tryz.func33, Tryz.ntmps33
  go_wp2_with fail
  refine (within_any _ _ _ _).mono ?_
  rintro e w' ⟨rfl, rfl⟩
  rw [h1]
  go_wp2_with fail
  refine (within_any _ _ _ _).mono ?_
  rintro e w' ⟨rfl, rfl⟩
  rw [h2]
  go_wp2_with fail
  refine (need_ok _ _).mono ?_
  rintro e w' ⟨rfl, rfl⟩
  go_wp2_with fail
  refine (need_ok _ _).mono ?_
  rintro e w' ⟨rfl, rfl⟩
  go_wp2_with fail
  refine (checkName_ok name _ hs hn).mono ?_
  rintro e w1 ⟨rfl, hb1⟩
  have hg : w1.heap[w.heap.size]? = some (.cells #[.int .i64 id, .bool ans, .bool cut, .int .i64 code, .string name, .int .i64 typ, .slice none 0 0] 38 (0, 0)) := (hb1.block _ (by simp)).trans (heap_alloc_new w _)
  have f5 : w1.cell? ⟨w.heap.size, 5, none⟩ = some (.int .i64 typ) := cellsAt hg 5
  have f6 : w1.cell? ⟨w.heap.size, 6, none⟩ = some (.slice none 0 0) := cellsAt hg 6
  have HB1 : Hid (Below w.heap.size w w1) := ((Below.refl _ _).alloc (Nat.le_refl _) _).trans (hb1.mono (by simp))
  clear hb1 hg
  go_wp2_with fail
  refine (rtype_any _ _).mono ?_
  rintro e w' ⟨rfl, rfl⟩
  rw [ht]
  go_wp2_with fail
  refine (need_ok _ _).mono ?_
  rintro e w' ⟨rfl, rfl⟩
  go_wp2_with fail
  go_loopw [30] (fun i wr => i = .int .i64 0 ∧ Hid (Below w.heap.size w wr)) (fun _ _ => 0)
  case atStart => exact ⟨rfl, HB1⟩
  case round =>
    obtain ⟨rfl, HBR⟩ := hrel
    go_wp2_with fail
    simp [bodyPost, results, Tryz.results33]
    exact HBR.out

end Go.Proofs.YtigffgjkakalfaaGreatDoor

/- dns.check, both ways: what a call gives up with. -/
namespace Go.Proofs.YtigffgjkakalfaaGreatDoor
open Go.RowKit

/-- How a check ends: it returns, or gives up by e. -/
def outE (e : Int) : Ending := if e = 0 then .returned (.tuple #[]) else .panicked [{ v := .iface 113 (.agg #[.int .i64 e]), recovered := false }]
theorem outE_0 : outE 0 = .returned (.tuple #[]) := rfl
theorem outE_ne {e : Int} (h : e ≠ 0) : outE e = .panicked [{ v := .iface 113 (.agg #[.int .i64 e]), recovered := false }] := if_neg h

set_option maxHeartbeats 800000 in
theorem checkName_any (s : ByteArray) (w : World) (hs : s.size ≤ maxLen) :
    Calls Tryz.prog 68 #[.string s] w fun r w' => r = outE (chkN s) ∧ Below w.heap.size w w' := by
  by_cases h : chkN s = 0
  · rw [h]
    exact checkName_ok s w hs h
  · have HC : Hid (Calls Tryz.prog 96 #[.string s] w fun e w' => e = .returned (.int .i64 (chkN s)) ∧ Below w.heap.size w w') := dnsCheck_any s w hs
    rw [outE_ne h]
    generalize chkN s = E at *
    have h2 : (E == 0) = false := by simpa using h
    go_enter Tryz.func68, Tryz.ntmps68
    go_wp2_with fail
    refine HC.out.mono ?_
    rintro e w1 ⟨rfl, hb1⟩
    have HB1 : Hid (Below w.heap.size w w1) := hb1
    clear hb1
    go_wp2_with fail
    refine (need_no _ _).mono ?_
    rintro e w2 ⟨rfl, rfl⟩
    exact ⟨rfl, rfl, HB1.out⟩

def typB (n : Int) : Bool := decide (n = 1) || decide (n = 16) || decide (n = 33)
/-- The record without what its type does not name. -/
def ownF (r : Rc.Rec) : Rc.Rec := if r.typ = 1 then ⟨r.name, r.typ, r.lasts, r.addr, ⟨#[]⟩, 0, ⟨#[]⟩⟩ else if r.typ = 16 then ⟨r.name, r.typ, r.lasts, 0, r.text, 0, ⟨#[]⟩⟩ else if r.typ = 33 then ⟨r.name, r.typ, r.lasts, 0, ⟨#[]⟩, r.port, r.target⟩ else ⟨r.name, r.typ, r.lasts, 0, ⟨#[]⟩, 0, ⟨#[]⟩⟩
abbrev recV (r : Rc.Rec) : Value := .agg #[.string r.name, .int .i64 r.typ, .int .i64 r.lasts, .int .i64 r.addr, .string r.text, .int .i64 r.port, .string r.target]

set_option maxHeartbeats 1600000 in
set_option maxRecDepth 100000 in
theorem ownFields_any (r : Rc.Rec) (w : World) :
    Calls Tryz.prog 97 #[recV r] w fun e w' => e = .returned (recV (ownF r)) ∧ Below w.heap.size w w' := by
  obtain ⟨name, typ, lasts, addr, text, port, target⟩ := r
  unfold ownF
  simp only
  by_cases h1 : typ = 1
  · subst h1
    go_enter Tryz.func97, Tryz.ntmps97
    go_wp2_with fail
    refine bodyPost_ret (v := .agg #[.string name, .int .i64 1, .int .i64 lasts, .int .i64 addr, .string ⟨#[]⟩, .int .i64 0, .string ⟨#[]⟩]) ?_ rfl ⟨rfl, ?_⟩
    · simp [results, Tryz.results97, go_sem]
    · first | exact (((Below.refl _ _).alloc (Nat.le_refl _) _).alloc (by simp) _).alloc (by simp; omega) _ | exact ((((Below.refl _ _).alloc (Nat.le_refl _) _).alloc (by simp) _).alloc (by simp; omega) _).drew
  rw [if_neg h1]
  have e1 : (typ == 1) = false := by simpa using h1
  by_cases h2 : typ = 16
  · subst h2
    clear e1
    go_enter Tryz.func97, Tryz.ntmps97
    go_wp2_with fail
    refine bodyPost_ret (v := .agg #[.string name, .int .i64 16, .int .i64 lasts, .int .i64 0, .string text, .int .i64 0, .string ⟨#[]⟩]) ?_ rfl ⟨rfl, ?_⟩
    · simp [results, Tryz.results97, go_sem]
    · first | exact (((Below.refl _ _).alloc (Nat.le_refl _) _).alloc (by simp) _).alloc (by simp; omega) _ | exact ((((Below.refl _ _).alloc (Nat.le_refl _) _).alloc (by simp) _).alloc (by simp; omega) _).drew
  rw [if_neg h2]
  have e2 : (typ == 16) = false := by simpa using h2
  by_cases h3 : typ = 33
  · subst h3
    clear e1 e2
    go_enter Tryz.func97, Tryz.ntmps97
    go_wp2_with fail
    go_region
    go_wp2_with fail
    refine bodyPost_ret (v := .agg #[.string name, .int .i64 33, .int .i64 lasts, .int .i64 0, .string ⟨#[]⟩, .int .i64 port, .string target]) ?_ rfl ⟨rfl, ?_⟩
    · simp [results, Tryz.results97, go_sem]
    · first | exact (((Below.refl _ _).alloc (Nat.le_refl _) _).alloc (by simp) _).alloc (by simp; omega) _ | exact ((((Below.refl _ _).alloc (Nat.le_refl _) _).alloc (by simp) _).alloc (by simp; omega) _).drew
  rw [if_neg h3]
  have e3 : (typ == 33) = false := by simpa using h3
  · clear h1 h2 h3
    go_enter Tryz.func97, Tryz.ntmps97
    go_wp2_with fail
    refine bodyPost_ret (v := .agg #[.string name, .int .i64 typ, .int .i64 lasts, .int .i64 0, .string ⟨#[]⟩, .int .i64 0, .string ⟨#[]⟩]) ?_ rfl ⟨rfl, ?_⟩
    · simp [results, Tryz.results97, go_sem]
    · first | exact (((Below.refl _ _).alloc (Nat.le_refl _) _).alloc (by simp) _).alloc (by simp; omega) _ | exact ((((Below.refl _ _).alloc (Nat.le_refl _) _).alloc (by simp) _).alloc (by simp; omega) _).drew

end Go.Proofs.YtigffgjkakalfaaGreatDoor

/- The reader's moves, where the text is at its end: it gives up. -/
namespace Go.Proofs.YtigffgjkakalfaaGreatDoor
open Go.RowKit

set_option maxHeartbeats 1600000 in
set_option maxRecDepth 100000 in
theorem take_no (g a n : Nat) (t : ByteArray) (w : World) (c0 : w.cell? ⟨g, 0, none⟩ = some (.string t)) (c1 : w.cell? ⟨g, 1, none⟩ = some (.int .i64 a)) (hs : t.size ≤ 1000) (ha : a ≤ t.size) (han : ¬ a + n ≤ t.size) :
    Calls Tryz.prog 90 #[.pointer (some ⟨g, 0, none⟩), .int .i64 n] w fun e w' => e = outE 1 ∧ ∃ m, w' = w.drewN m := by
  have h1 : IntKind.i64.wrap ((t.size : Int) - (a : Int)) = (t.size : Int) - (a : Int) := by rw [IntKind.wrap_i64]; omega
  have h2 : decide ((n : Int) ≤ (t.size : Int) - (a : Int)) = false := by simp; omega
  go_enter Tryz.func90, Tryz.ntmps90
  go_wp2_with fail
  refine wp_region_held_drew (S := fun W => W.cell? ⟨g, 0, none⟩ = some (.string t) ∧ W.cell? ⟨g, 1, none⟩ = some (.int .i64 a)) (by kernel_rfl) ⟨c0, c1⟩ (fun hHeld => ?_)
  refine wpAnyH_take (i := 0) (v := ?v0) rfl (by kernel_rfl) (by kernel_rfl) (by kernel_rfl) (fun _ _ _ h => h) (Or.inl ⟨by rfl, ?hy0⟩) (by assumption) ?_
  case hy0 => (intro W hSw; obtain ⟨d0, d1⟩ := hSw; go_simp; try with_reducible rfl)
  refine wpAnyH_take (i := 1) (v := ?v1) rfl (by kernel_rfl) (by kernel_rfl) (by kernel_rfl) (fun _ _ _ h => h) (Or.inl ⟨by rfl, ?hy1⟩) (by assumption) ?_
  case hy1 => (intro W hSw; obtain ⟨d0, d1⟩ := hSw; go_simp; try with_reducible rfl)
  refine wpAnyH_take (i := 2) (v := ?v2) rfl (by kernel_rfl) (by kernel_rfl) (by kernel_rfl) (fun _ _ _ h => h) (Or.inl ⟨by rfl, ?hy2⟩) (by assumption) ?_
  case hy2 => (intro W hSw; obtain ⟨d0, d1⟩ := hSw; go_simp; try with_reducible rfl)
  refine wpAnyH_take (i := 3) (v := ?v3) rfl (by kernel_rfl) (by kernel_rfl) (by kernel_rfl) (fun _ _ _ h => h) (Or.inl ⟨by rfl, ?hy3⟩) (by assumption) ?_
  case hy3 => (intro W hSw; obtain ⟨d0, d1⟩ := hSw; go_simp; try with_reducible rfl)
  refine wpAnyH_take (i := 4) (v := ?v4) rfl (by kernel_rfl) (by kernel_rfl) (by kernel_rfl) (fun _ _ _ h => h) (Or.inl ⟨by rfl, ?hy4⟩) (by assumption) ?_
  case hy4 => (intro W hSw; obtain ⟨d0, d1⟩ := hSw; go_simp; try with_reducible rfl)
  refine wpAnyH_take (i := 5) (v := ?v5) rfl (by kernel_rfl) (by kernel_rfl) (by kernel_rfl) (fun _ _ _ h => h) (Or.inl ⟨by rfl, ?hy5⟩) (by assumption) ?_
  case hy5 => (intro W hSw; obtain ⟨d0, d1⟩ := hSw; go_simp; try with_reducible rfl)
  refine wpAnyH_take (i := 6) (v := ?v6) rfl (by kernel_rfl) (by kernel_rfl) (by kernel_rfl) (fun _ _ _ h => h) (Or.inl ⟨by rfl, ?hy6⟩) (by assumption) ?_
  case hy6 => (intro W hSw; obtain ⟨d0, d1⟩ := hSw; go_simp; try with_reducible rfl)
  refine wpAnyH_take (i := 7) (v := ?v7) rfl (by kernel_rfl) (by kernel_rfl) (by kernel_rfl) (fun _ _ _ h => h) (Or.inl ⟨by rfl, ?hy7⟩) (by assumption) ?_
  case hy7 => (intro W hSw; obtain ⟨d0, d1⟩ := hSw; go_simp; try with_reducible rfl)
  refine wpAnyH_take (i := 8) (v := ?v8) rfl (by kernel_rfl) (by kernel_rfl) (by kernel_rfl) (fun _ _ _ h => h) (Or.inl ⟨by rfl, ?hy8⟩) (by assumption) ?_
  case hy8 => (intro W hSw; obtain ⟨d0, d1⟩ := hSw; go_simp; try with_reducible rfl)
  refine wpAnyH_take (i := 9) (v := ?v9) rfl (by kernel_rfl) (by kernel_rfl) (by kernel_rfl) (fun _ _ _ h => h) (Or.inl ⟨by rfl, ?hy9⟩) (by assumption) ?_
  case hy9 => (intro W hSw; obtain ⟨d0, d1⟩ := hSw; go_simp; try with_reducible rfl)
  refine wpAnyH_take (i := 10) (v := ?v10) rfl (by kernel_rfl) (by kernel_rfl) (by kernel_rfl) (fun _ _ _ h => h) (Or.inl ⟨by rfl, ?hy10⟩) (by assumption) ?_
  case hy10 => (intro W hSw; obtain ⟨d0, d1⟩ := hSw; go_simp; try with_reducible rfl)
  refine wpAnyH_take (i := 11) (v := ?v11) rfl (by kernel_rfl) (by kernel_rfl) (by kernel_rfl) (fun _ _ _ h => h) (Or.inl ⟨by rfl, ?hy11⟩) (by assumption) ?_
  case hy11 => (intro W hSw; obtain ⟨d0, d1⟩ := hSw; go_simp; try with_reducible rfl)
  refine wpAnyH_ready (rs := [12]) (by kernel_rfl) (by simp) ?_
  refine AllReadyH.cons rfl (fun K hK => ?_) AllReadyH.nil
  go_simp
  refine (need_no _ _).mono ?_
  rintro e w5 ⟨rfl, rfl⟩
  exact ⟨rfl, rfl, 1, rfl⟩

set_option maxHeartbeats 1600000 in
set_option maxRecDepth 100000 in
theorem peek_no (g a : Nat) (t : ByteArray) (w : World) (c0 : w.cell? ⟨g, 0, none⟩ = some (.string t)) (c1 : w.cell? ⟨g, 1, none⟩ = some (.int .i64 a)) (ha : ¬ a < t.size) :
    Calls Tryz.prog 91 #[.pointer (some ⟨g, 0, none⟩)] w fun e w' => e = outE 1 ∧ ∃ m, w' = w.drewN m := by
  have h2 : decide ((a : Int) < (t.size : Int)) = false := by simp; omega
  go_enter Tryz.func91, Tryz.ntmps91
  go_wp2_with fail
  refine wp_region_held_drew (S := fun W => W.cell? ⟨g, 0, none⟩ = some (.string t) ∧ W.cell? ⟨g, 1, none⟩ = some (.int .i64 a)) (by kernel_rfl) ⟨c0, c1⟩ (fun hHeld => ?_)
  refine wpAnyH_take (i := 0) (v := ?v0) rfl (by kernel_rfl) (by kernel_rfl) (by kernel_rfl) (fun _ _ _ h => h) (Or.inl ⟨by rfl, ?hy0⟩) (by assumption) ?_
  case hy0 => (intro W hSw; obtain ⟨d0, d1⟩ := hSw; go_simp; try with_reducible rfl)
  refine wpAnyH_take (i := 1) (v := ?v1) rfl (by kernel_rfl) (by kernel_rfl) (by kernel_rfl) (fun _ _ _ h => h) (Or.inl ⟨by rfl, ?hy1⟩) (by assumption) ?_
  case hy1 => (intro W hSw; obtain ⟨d0, d1⟩ := hSw; go_simp; try with_reducible rfl)
  refine wpAnyH_take (i := 2) (v := ?v2) rfl (by kernel_rfl) (by kernel_rfl) (by kernel_rfl) (fun _ _ _ h => h) (Or.inl ⟨by rfl, ?hy2⟩) (by assumption) ?_
  case hy2 => (intro W hSw; obtain ⟨d0, d1⟩ := hSw; go_simp; try with_reducible rfl)
  refine wpAnyH_take (i := 3) (v := ?v3) rfl (by kernel_rfl) (by kernel_rfl) (by kernel_rfl) (fun _ _ _ h => h) (Or.inl ⟨by rfl, ?hy3⟩) (by assumption) ?_
  case hy3 => (intro W hSw; obtain ⟨d0, d1⟩ := hSw; go_simp; try with_reducible rfl)
  refine wpAnyH_take (i := 4) (v := ?v4) rfl (by kernel_rfl) (by kernel_rfl) (by kernel_rfl) (fun _ _ _ h => h) (Or.inl ⟨by rfl, ?hy4⟩) (by assumption) ?_
  case hy4 => (intro W hSw; obtain ⟨d0, d1⟩ := hSw; go_simp; try with_reducible rfl)
  refine wpAnyH_take (i := 5) (v := ?v5) rfl (by kernel_rfl) (by kernel_rfl) (by kernel_rfl) (fun _ _ _ h => h) (Or.inl ⟨by rfl, ?hy5⟩) (by assumption) ?_
  case hy5 => (intro W hSw; obtain ⟨d0, d1⟩ := hSw; go_simp; try with_reducible rfl)
  refine wpAnyH_take (i := 6) (v := ?v6) rfl (by kernel_rfl) (by kernel_rfl) (by kernel_rfl) (fun _ _ _ h => h) (Or.inl ⟨by rfl, ?hy6⟩) (by assumption) ?_
  case hy6 => (intro W hSw; obtain ⟨d0, d1⟩ := hSw; go_simp; try with_reducible rfl)
  refine wpAnyH_take (i := 7) (v := ?v7) rfl (by kernel_rfl) (by kernel_rfl) (by kernel_rfl) (fun _ _ _ h => h) (Or.inl ⟨by rfl, ?hy7⟩) (by assumption) ?_
  case hy7 => (intro W hSw; obtain ⟨d0, d1⟩ := hSw; go_simp; try with_reducible rfl)
  refine wpAnyH_take (i := 8) (v := ?v8) rfl (by kernel_rfl) (by kernel_rfl) (by kernel_rfl) (fun _ _ _ h => h) (Or.inl ⟨by rfl, ?hy8⟩) (by assumption) ?_
  case hy8 => (intro W hSw; obtain ⟨d0, d1⟩ := hSw; go_simp; try with_reducible rfl)
  refine wpAnyH_take (i := 9) (v := ?v9) rfl (by kernel_rfl) (by kernel_rfl) (by kernel_rfl) (fun _ _ _ h => h) (Or.inl ⟨by rfl, ?hy9⟩) (by assumption) ?_
  case hy9 => (intro W hSw; obtain ⟨d0, d1⟩ := hSw; go_simp; try with_reducible rfl)
  refine wpAnyH_ready (rs := [10]) (by kernel_rfl) (by simp) ?_
  refine AllReadyH.cons rfl (fun K hK => ?_) AllReadyH.nil
  go_simp
  refine (need_no _ _).mono ?_
  rintro e w5 ⟨rfl, rfl⟩
  exact ⟨rfl, rfl, 1, rfl⟩

theorem rd_drewN (g : Nat) (w : World) (m : Nat) : Rd g w (w.drewN m) := Rd.ext ⟨rfl, rfl, rfl, Nat.le_refl _, fun _ _ => rfl, fun _ _ => rfl, fun _ _ => rfl⟩

set_option maxHeartbeats 800000 in
theorem number_no (g a n : Nat) (t : ByteArray) (w : World) (h : IsR g t a w) (hs : t.size ≤ 1000) (ha : a ≤ t.size) (han : ¬ a + n ≤ t.size) :
    Calls Tryz.prog 62 #[.pointer (some ⟨g, 0, none⟩), .int .i64 n] w fun e w' => e = outE 1 ∧ Hid (Rd g w w') := by
  have HT : Hid (Calls Tryz.prog 90 #[.pointer (some ⟨g, 0, none⟩), .int .i64 n] w fun e w' => e = outE 1 ∧ ∃ m, w' = w.drewN m) := take_no g a n t w h.c0 h.c1 hs ha han
  clear h
  go_enter Tryz.func62, Tryz.ntmps62
  go_wp2_with fail
  refine HT.out.mono ?_
  rintro e w1 ⟨rfl, m, rfl⟩
  exact ⟨rfl, rfl, rd_drewN g w m⟩

/-- A number is read, or there is none. -/
theorem number_b (g a n : Nat) (t : ByteArray) (w : World) (h : IsR g t a w) (hs : t.size ≤ 1000) (ha : a ≤ t.size) (hn : n ≤ 4) :
    Calls Tryz.prog 62 #[.pointer (some ⟨g, 0, none⟩), .int .i64 n] w fun e w' => Hid (Rd g w w') ∧ ((a + n ≤ t.size ∧ e = .returned (.int .i64 (rnum t a n)) ∧ Hid (IsR g t (a + n) w')) ∨ (¬ a + n ≤ t.size ∧ e = outE 1)) := by
  by_cases han : a + n ≤ t.size
  · refine (number_r g a n t w h hs han hn).mono ?_
    rintro e w' ⟨rfl, h1, h2⟩
    exact ⟨h2, .inl ⟨han, rfl, h1⟩⟩
  · refine (number_no g a n t w h hs ha han).mono ?_
    rintro e w' ⟨rfl, h2⟩
    exact ⟨h2, .inr ⟨han, rfl⟩⟩

theorem peek_b (g a : Nat) (t : ByteArray) (w : World) (h : IsR g t a w) :
    Calls Tryz.prog 91 #[.pointer (some ⟨g, 0, none⟩)] w fun e w' => Hid (Rd g w w') ∧ ((a < t.size ∧ e = .returned (.int .u8 (rnum t a 1 : Nat)) ∧ Hid (IsR g t a w')) ∨ (¬ a < t.size ∧ e = outE 1)) := by
  by_cases han : a < t.size
  · refine (peek_r g a t w h han).mono ?_
    rintro e w' ⟨rfl, h1, h2⟩
    exact ⟨h2, .inl ⟨han, rfl, h1⟩⟩
  · refine (peek_no g a t w h.c0 h.c1 han).mono ?_
    rintro e w' ⟨rfl, m, rfl⟩
    exact ⟨rd_drewN g w m, .inr ⟨han, rfl⟩⟩

set_option maxHeartbeats 800000 in
theorem expect_b (g a n : Nat) (x : Int) (t : ByteArray) (w : World) (h : IsR g t a w) (hs : t.size ≤ 1000) (ha : a ≤ t.size) (hn : n ≤ 4) :
    Calls Tryz.prog 65 #[.pointer (some ⟨g, 0, none⟩), .int .i64 n, .int .i64 x] w fun e w' => Hid (Rd g w w') ∧ (((a + n ≤ t.size ∧ (rnum t a n : Int) = x) ∧ e = .returned (.tuple #[]) ∧ Hid (IsR g t (a + n) w')) ∨ (¬ (a + n ≤ t.size ∧ (rnum t a n : Int) = x) ∧ e = outE 1)) := by
  have HT : Hid (Calls Tryz.prog 62 #[.pointer (some ⟨g, 0, none⟩), .int .i64 n] w fun e w' => Hid (Rd g w w') ∧ ((a + n ≤ t.size ∧ e = .returned (.int .i64 (rnum t a n)) ∧ Hid (IsR g t (a + n) w')) ∨ (¬ a + n ≤ t.size ∧ e = outE 1))) := number_b g a n t w h hs ha hn
  clear h
  go_enter Tryz.func65, Tryz.ntmps65
  go_wp2_with fail
  refine HT.out.mono ?_
  rintro e w1 ⟨HD, ⟨han, rfl, HI⟩ | ⟨han, rfl⟩⟩
  · by_cases hx : (rnum t a n : Int) = x
    · have hb : ((rnum t a n : Int) == x) = true := by simpa using hx
      have HX : Hid ((rnum t a n : Int) = x) := hx
      clear hx
      go_wp2_with fail
      refine (need_ok _ _).mono ?_
      rintro e w5 ⟨rfl, rfl⟩
      go_wp2_with fail
      simp [bodyPost, results, Tryz.results65]
      exact ⟨HD, .inl ⟨⟨han, HX.out⟩, HI⟩⟩
    · have hb : ((rnum t a n : Int) == x) = false := by simpa using hx
      have HX : Hid (¬ (rnum t a n : Int) = x) := hx
      clear hx
      go_wp2_with fail
      refine (need_no _ _).mono ?_
      rintro e w5 ⟨rfl, rfl⟩
      exact ⟨rfl, HD, .inr ⟨fun h => HX.out h.2, rfl⟩⟩
  · exact ⟨rfl, HD, .inr ⟨fun h => han h.1, rfl⟩⟩

set_option maxHeartbeats 800000 in
theorem counted_no (g a : Nat) (t : ByteArray) (w : World) (h : IsR g t a w) (hs : t.size ≤ 1000) (ha : a ≤ t.size) (han : ¬ a + 1 + rnum t a 1 ≤ t.size) :
    Calls Tryz.prog 94 #[.pointer (some ⟨g, 0, none⟩)] w fun e w' => e = outE 1 ∧ Hid (Rd g w w') := by
  have HT : Hid (Calls Tryz.prog 62 #[.pointer (some ⟨g, 0, none⟩), .int .i64 1] w fun e w' => Hid (Rd g w w') ∧ ((a + 1 ≤ t.size ∧ e = .returned (.int .i64 (rnum t a 1)) ∧ Hid (IsR g t (a + 1) w')) ∨ (¬ a + 1 ≤ t.size ∧ e = outE 1))) := number_b g a 1 t w h hs ha (by omega)
  clear h
  go_enter Tryz.func94, Tryz.ntmps94
  go_wp2_with fail
  refine HT.out.mono ?_
  rintro e w1 ⟨HD, ⟨h1, rfl, HI⟩ | ⟨h1, rfl⟩⟩
  · have HT2 : Hid (Calls Tryz.prog 90 #[.pointer (some ⟨g, 0, none⟩), .int .i64 (rnum t a 1 : Nat)] w1 fun e w' => e = outE 1 ∧ ∃ m, w' = w1.drewN m) := take_no g (a + 1) (rnum t a 1) t w1 HI.out.c0 HI.out.c1 hs h1 han
    go_wp2_with fail
    refine HT2.out.mono ?_
    rintro e w2 ⟨rfl, m, rfl⟩
    exact ⟨rfl, rfl, HD.out.trans (rd_drewN g w1 m)⟩
  · exact ⟨rfl, rfl, HD⟩

/-- A text with its length ahead is read, or there is none. -/
theorem counted_b (g a : Nat) (t : ByteArray) (w : World) (h : IsR g t a w) (hs : t.size ≤ 1000) (ha : a ≤ t.size) :
    Calls Tryz.prog 94 #[.pointer (some ⟨g, 0, none⟩)] w fun e w' => Hid (Rd g w w') ∧ ((a + 1 + rnum t a 1 ≤ t.size ∧ e = .returned (.string (t.extract (a + 1) (a + 1 + rnum t a 1))) ∧ Hid (IsR g t (a + 1 + rnum t a 1) w')) ∨ (¬ a + 1 + rnum t a 1 ≤ t.size ∧ e = outE 1)) := by
  by_cases han : a + 1 + rnum t a 1 ≤ t.size
  · refine (counted_r g a _ t _ w h hs rfl han rfl).mono ?_
    rintro e w' ⟨rfl, h1, h2⟩
    exact ⟨h2, .inl ⟨han, rfl, h1⟩⟩
  · refine (counted_no g a t w h hs ha han).mono ?_
    rintro e w' ⟨rfl, h2⟩
    exact ⟨h2, .inr ⟨han, rfl⟩⟩

end Go.Proofs.YtigffgjkakalfaaGreatDoor

/- dns.small, of whatever text. -/
namespace Go.Proofs.YtigffgjkakalfaaGreatDoor
open Go.RowKit

/-- A capital's small letter; any other byte is as it was. -/
def lwb (c : UInt8) : UInt8 := if 65 ≤ c.toNat ∧ c.toNat ≤ 90 then (c.toNat + 32).toUInt8 else c
def lwS (s : ByteArray) : ByteArray := mk (s.data.toList.map lwb)
theorem lwS_size (s : ByteArray) : (lwS s).size = s.size := by unfold lwS; rw [mk_size]; simp
/-- The row while it is made small: k bytes are. -/
def lwAt (s : ByteArray) (k j : Nat) : Nat := if j < k then (lwb (s.data.toList.getD j 0)).toNat else (s.data.toList.getD j 0).toNat
theorem lwAt_end (s : ByteArray) (j : Nat) (hj : j < s.size) : lwAt s s.size j = ((lwS s).data.toList.getD j 0).toNat := by
  have hj2 : j < s.data.toList.length := by simpa using hj
  unfold lwAt lwS
  rw [if_pos hj, data_mk]
  simp only [List.getD_eq_getElem?_getD, List.getElem?_map, List.getElem?_eq_getElem hj2]
  rfl
theorem lwAt_keep (s : ByteArray) (k j : Nat) (hl : ¬ (65 ≤ (s.data.toList.getD k 0).toNat ∧ (s.data.toList.getD k 0).toNat ≤ 90)) : lwAt s (k + 1) j = lwAt s k j := by
  unfold lwAt
  by_cases h1 : j < k
  · rw [if_pos h1, if_pos (by omega)]
  · by_cases h2 : j = k
    · subst h2
      rw [if_pos (by omega), if_neg (by omega)]
      unfold lwb
      rw [if_neg hl]
    · rw [if_neg h1, if_neg (by omega)]
theorem lwAt_turn (s : ByteArray) (k : Nat) (hl : 65 ≤ (s.data.toList.getD k 0).toNat ∧ (s.data.toList.getD k 0).toNat ≤ 90) : lwAt s (k + 1) k = (s.data.toList.getD k 0).toNat + 32 := by
  unfold lwAt lwb
  rw [if_pos (by omega), if_pos hl]
  show ((s.data.toList.getD k 0).toNat + 32) % 256 = _
  omega
theorem lwAt_else (s : ByteArray) (k j : Nat) (h : j ≠ k) : lwAt s (k + 1) j = lwAt s k j := by
  unfold lwAt
  by_cases h1 : j < k
  · rw [if_pos h1, if_pos (by omega)]
  · rw [if_neg h1, if_neg (by omega)]

set_option maxHeartbeats 1600000 in
set_option maxRecDepth 100000 in
theorem small_any (s : ByteArray) (w : World) (hs : s.size ≤ 1000) :
    Calls Tryz.prog 93 #[.string s] w fun e w' => e = .returned (.string (lwS s)) ∧ Below w.heap.size w w' := by
  have hcv := fun w s => Lib.run_convert_string_bytes (P := Tryz.prog) w 9 117 5 s (u := .string) Tryz.underlying9 Tryz.underlying117 Tryz.underlying5
  have HB0 : Hid (∀ j, j < s.size → (Lib.bytesWorld w 5 s).cell? ⟨w.heap.size, j, none⟩ = some (.int .u8 (lwAt s 0 j : Nat))) := fun j hj => Lib.bytesWorld_cell w 5 s j hj
  have HF0 : Hid (∀ j, j < s.size → (Lib.bytesWorld w 5 s).frozen? ⟨w.heap.size, j, none⟩ = false) := fun j hj => by
    have h := Lib.bytesWorld_at_new w 5 s
    have h2 : s.size ≤ (Lib.bytesCells w 5 s).size := by simp [Lib.bytesCells]
    simp only [World.frozen?, h]
    simp
    omega
  have hX : Below w.heap.size w (Lib.bytesWorld w 5 s) := by
    rw [← run_bytesW w s]
    exact ((Below.refl _ _).drew).alloc (Nat.le_refl _) _
  have HX0 : Hid (Below w.heap.size w (Lib.bytesWorld w 5 s)) := hX
  clear hX
  obtain ⟨W1, hW1⟩ : ∃ W1, W1 = Lib.bytesWorld w 5 s := ⟨_, rfl⟩
  go_enter Tryz.func93, Tryz.ntmps93
  go_wp2_with fail
  rw [← hW1] at HB0 HX0 HF0 ⊢
  clear hcv hW1
  have hsz2 : (lwS s).data.toList.length = s.size := by have := lwS_size s; simpa using this
  have HBK : Hid (∀ cap W, (∀ j, j < s.size → W.cell? ⟨w.heap.size, j, none⟩ = some (.int .u8 (lwAt s s.size j : Nat))) → (convert 117 9 (.slice (some ⟨w.heap.size, 0, none⟩) s.size cap)).run Tryz.prog W = .ok (.string (lwS s)) W) := fun cap W hW => by
    have h := run_convert_bytes_back (P := Tryz.prog) W 117 9 5 ⟨w.heap.size, 0, none⟩ cap (lwS s).data.toList Tryz.underlying117 Tryz.underlying5 Tryz.underlying9 (fun j hj => by
      have h2 := hW j (by omega)
      rw [lwAt_end s j (by omega), List.getD_eq_getElem?_getD, List.getElem?_eq_getElem hj] at h2
      have ha : (⟨w.heap.size, 0, none⟩ : Addr).add j = ⟨w.heap.size, j, none⟩ := by
        by_cases hj0 : j = 0 <;> simp [Addr.add, hj0]
      rw [ha]
      simpa using h2)
    rw [hsz2] at h
    exact h
  clear hsz2
  go_loopw [10] (fun vi wr => ∃ (k : Nat), vi = .int .i64 k ∧ k ≤ s.size ∧ Hid (∀ j, j < s.size → wr.cell? ⟨w.heap.size, j, none⟩ = some (.int .u8 (lwAt s k j : Nat))) ∧ Hid (∀ j, j < s.size → wr.frozen? ⟨w.heap.size, j, none⟩ = false) ∧ Hid (Below w.heap.size w wr))
    (fun vi _ => s.size - (intOf vi).toNat)
  case atStart => exact ⟨0, rfl, by omega, HB0, HF0, HX0⟩
  case round =>
    obtain ⟨k, rfl, hk, HB, HF, HX⟩ := hrel
    by_cases hkn : k < s.size
    · have hc : decide ((k : Int) < (s.size : Int)) = true := by simp; omega
      have hcell := HB.out k hkn
      have hfz := HF.out k hkn
      have hi0 : (0 : Int) ≤ (k : Int) := by omega
      have hi1 : (k : Int) < (s.size : Int) := by omega
      have hi2 : ((k : Int)).toNat = k := by omega
      have HV : Hid (lwAt s k k = (s.data.toList.getD k 0).toNat) := (show _ = _ by unfold lwAt; rw [if_neg (by omega)])
      rw [HV.out] at hcell
      have hb256 := (s.data.toList.getD k 0).toNat_lt
      by_cases hl : 65 ≤ (s.data.toList.getD k 0).toNat ∧ (s.data.toList.getD k 0).toNat ≤ 90
      · have HT : Hid (lwAt s (k + 1) k = (s.data.toList.getD k 0).toNat + 32) := lwAt_turn s k hl
        generalize hb : (s.data.toList.getD k 0).toNat = b at *
        clear hb
        have hd1 : decide ((65 : Int) ≤ (b : Int)) = true := by simp; omega
        have hd2 : decide ((b : Int) ≤ 90) = true := by simp; omega
        have hw1 : IntKind.u8.wrap ((b : Int) - 65) = (b : Int) - 65 := by rw [IntKind.wrap_u8]; omega
        have hw2 : IntKind.u8.wrap ((b : Int) - 65 + 97) = ((b + 32 : Nat) : Int) := by rw [IntKind.wrap_u8]; omega
        go_wp2_with fail
        refine ⟨⟨k + 1, by simp, by omega, ?_, ?_, ?_⟩, by simp [intOf]; omega⟩
        · show ∀ _, _
          intro j hj
          by_cases hjk : j = k
          · subst hjk
            rw [World.cell?_setCell_same _ _ _ hcell, HT.out]
            simp
          · refine (World.cell?_setCell_other _ _ _ _ (fun e => by injection e with e1 e2; exact hjk e2.symm)).trans ?_
            rw [lwAt_else s k j hjk]
            exact HB.out j hj
        · show ∀ _, _
          intro j hj
          simpa using HF.out j hj
        · exact HX.out.setCell (p := ⟨w.heap.size, k, none⟩) (Nat.le_refl _) _
      · have HT : Hid (∀ j, lwAt s (k + 1) j = lwAt s k j) := fun j => lwAt_keep s k j hl
        generalize hb : (s.data.toList.getD k 0).toNat = b at *
        clear hb
        have HB1 : Hid (∀ j, j < s.size → wr.cell? ⟨w.heap.size, j, none⟩ = some (.int .u8 (lwAt s (k + 1) j : Nat))) := fun j hj => by rw [HT.out j]; exact HB.out j hj
        by_cases h65 : 65 ≤ b
        · have hd1 : decide ((65 : Int) ≤ (b : Int)) = true := by simp; omega
          have hd2 : decide ((b : Int) ≤ 90) = false := by simp; omega
          go_wp2_with fail
          refine ⟨⟨k + 1, by simp, by omega, HB1, HF, HX⟩, by simp [intOf]; omega⟩
        · have hd1 : decide ((65 : Int) ≤ (b : Int)) = false := by simp; omega
          go_wp2_with fail
          refine ⟨⟨k + 1, by simp, by omega, HB1, HF, HX⟩, by simp [intOf]; omega⟩
    · have hc : decide ((k : Int) < (s.size : Int)) = false := by simp; omega
      have hkn2 : k = s.size := by omega
      subst hkn2
      have hbk := fun cap => HBK.out cap wr HB.out
      go_wp2_with fail
      simp [bodyPost, results, Tryz.results93]
      exact HX.out

end Go.Proofs.YtigffgjkakalfaaGreatDoor

/- Contracts of the library, laid at this program. -/
namespace Go.Proofs
open Go.Shelf
def Tryz.lays156_ren : Go.Shelf.Ren := ⟨fun | 156 => 92 | 165 => 116 | 166 => 117 | 169 => 85 | 240 => 134 | 241 => 135 | 276 => 144 | 277 => 145 | n => n, fun | 31 => 115 | 9 => 9 | 3 => 3 | 4 => 4 | 0 => 0 | 20 => 20 | 72 => 125 | 76 => 157 | 70 => 123 | 37 => 117 | 75 => 156 | 127 => 141 | 164 => 177 | 5 => 5 | 80 => 78 | n => n, fun | n => n⟩
theorem Tryz.lays156 : Go.Proofs.Lays.n156 Tryz.prog Tryz.lays156_ren := {
  mixed := by kernel_rfl
  f156 := Tryz.func92.trans (congrArg some (by kernel_rfl))
  f165 := Tryz.func116.trans (congrArg some (by kernel_rfl))
  f166 := Tryz.func117.trans (congrArg some (by kernel_rfl))
  f169 := Tryz.func85.trans (congrArg some (by kernel_rfl))
  f240 := Tryz.func134.trans (congrArg some (by kernel_rfl))
  f241 := Tryz.func135.trans (congrArg some (by kernel_rfl))
  f276 := Tryz.func144.trans (congrArg some (by kernel_rfl))
  f277 := Tryz.func145.trans (congrArg some (by kernel_rfl))
  t0 := Tryz.underlying0
  a0 := Tryz.isAgg0
  z0 := Tryz.sizeOf0
  v0 := Tryz.zeroValue0
  t3 := Tryz.underlying3
  a3 := Tryz.isAgg3
  z3 := Tryz.sizeOf3
  v3 := Tryz.zeroValue3
  t4 := Tryz.underlying4
  a4 := Tryz.isAgg4
  z4 := Tryz.sizeOf4
  v4 := Tryz.zeroValue4
  t9 := Tryz.underlying9
  a9 := Tryz.isAgg9
  z9 := Tryz.sizeOf9
  v9 := Tryz.zeroValue9
  t20 := Tryz.underlying20
  a20 := Tryz.isAgg20
  z20 := Tryz.sizeOf20
  v20 := Tryz.zeroValue20
  t31 := Tryz.underlying115
  a31 := Tryz.isAgg115
  z31 := Tryz.sizeOf115
  v31 := Tryz.zeroValue115
  t37 := Tryz.underlying117
  a37 := Tryz.isAgg117
  z37 := Tryz.sizeOf117
  v37 := Tryz.zeroValue117
  t70 := Tryz.underlying123
  a70 := Tryz.isAgg123
  z70 := Tryz.sizeOf123
  v70 := Tryz.zeroValue123
  t72 := Tryz.underlying125
  a72 := Tryz.isAgg125
  z72 := Tryz.sizeOf125
  v72 := Tryz.zeroValue125
  t75 := Tryz.underlying156
  a75 := Tryz.isAgg156
  z75 := Tryz.sizeOf156
  v75 := Tryz.zeroValue156
  t76 := Tryz.underlying157
  a76 := Tryz.isAgg157
  z76 := Tryz.sizeOf157
  v76 := Tryz.zeroValue157
  t127 := Tryz.underlying141
  a127 := Tryz.isAgg141
  z127 := Tryz.sizeOf141
  v127 := Tryz.zeroValue141
  t164 := Tryz.underlying177
  a164 := Tryz.isAgg177
  z164 := Tryz.sizeOf177
  v164 := Tryz.zeroValue177 }
theorem Tryz.Builder_Extra_156 : Builder.Extra Tryz.prog Tryz.lays156_ren := {
  sizeBuilder := by kernel_rfl
  liesBuilder := by kernel_rfl
  t5 := Tryz.underlying5
  a5 := Tryz.isAgg5
  z5 := Tryz.sizeOf5
  v5 := Tryz.zeroValue5
  infoByte := by kernel_rfl
  cellsByte := by kernel_rfl
  sizeByte := by kernel_rfl
  neB5 := by decide }
open Go.RowKit in
theorem Tryz.strings_Join (bk o c : Nat) (xs : List ByteArray) (sep : ByteArray) (w : World) (hcells : ∀ (j : Nat) x, xs[j]? = some x → w.cell? ⟨bk, o + j, none⟩ = some (.string x)) (hbk : bk < w.heap.size) (hN : xs.length ≤ 140737488355328) (hcap : xs.length ≤ c) (hlen : (Lib.join (xs.map (·.data.toList)) sep.data.toList).length ≤ 140737488355328) :
    Calls Tryz.prog 92 #[.slice (some ⟨bk, o, none⟩) xs.length c, .string sep] w fun e w' => e = .returned (.string ⟨(Lib.join (xs.map (·.data.toList)) sep.data.toList).toArray⟩) ∧ Below w.heap.size w w' := Any.strings_Join Tryz.lays156 Tryz.Builder_Extra_156 bk o c xs sep w hcells hbk hN hcap hlen
def Tryz.lays146_ren : Go.Shelf.Ren := ⟨fun | 146 => 124 | 221 => 141 | 268 => 148 | 138 => 121 | 143 => 140 | 195 => 138 | 197 => 153 | 218 => 139 | 219 => 147 | 260 => 156 | 217 => 149 | 225 => 150 | 224 => 151 | 267 => 152 | 266 => 154 | 314 => 155 | n => n, fun | 9 => 9 | 31 => 115 | 3 => 3 | 4 => 4 | 0 => 0 | 105 => 181 | 21 => 21 | 5 => 5 | 46 => 131 | 119 => 185 | 139 => 188 | 138 => 187 | 146 => 183 | 51 => 151 | n => n, fun | 1 => 0 | 3 => 1 | 4 => 2 | n => n⟩
theorem Tryz.lays146 : Go.Proofs.Lays.n146 Tryz.prog Tryz.lays146_ren := {
  mixed := by kernel_rfl
  f138 := Tryz.func121.trans (congrArg some (by kernel_rfl))
  f143 := Tryz.func140.trans (congrArg some (by kernel_rfl))
  f146 := Tryz.func124.trans (congrArg some (by kernel_rfl))
  f195 := Tryz.func138.trans (congrArg some (by kernel_rfl))
  f197 := Tryz.func153.trans (congrArg some (by kernel_rfl))
  f217 := Tryz.func149.trans (congrArg some (by kernel_rfl))
  f218 := Tryz.func139.trans (congrArg some (by kernel_rfl))
  f219 := Tryz.func147.trans (congrArg some (by kernel_rfl))
  f221 := Tryz.func141.trans (congrArg some (by kernel_rfl))
  f224 := Tryz.func151.trans (congrArg some (by kernel_rfl))
  f225 := Tryz.func150.trans (congrArg some (by kernel_rfl))
  f260 := Tryz.func156.trans (congrArg some (by kernel_rfl))
  f266 := Tryz.func154.trans (congrArg some (by kernel_rfl))
  f267 := Tryz.func152.trans (congrArg some (by kernel_rfl))
  f268 := Tryz.func148.trans (congrArg some (by kernel_rfl))
  f314 := Tryz.func155.trans (congrArg some (by kernel_rfl))
  t0 := Tryz.underlying0
  a0 := Tryz.isAgg0
  z0 := Tryz.sizeOf0
  v0 := Tryz.zeroValue0
  t3 := Tryz.underlying3
  a3 := Tryz.isAgg3
  z3 := Tryz.sizeOf3
  v3 := Tryz.zeroValue3
  t4 := Tryz.underlying4
  a4 := Tryz.isAgg4
  z4 := Tryz.sizeOf4
  v4 := Tryz.zeroValue4
  t5 := Tryz.underlying5
  a5 := Tryz.isAgg5
  z5 := Tryz.sizeOf5
  v5 := Tryz.zeroValue5
  t9 := Tryz.underlying9
  a9 := Tryz.isAgg9
  z9 := Tryz.sizeOf9
  v9 := Tryz.zeroValue9
  t21 := Tryz.underlying21
  a21 := Tryz.isAgg21
  z21 := Tryz.sizeOf21
  v21 := Tryz.zeroValue21
  t31 := Tryz.underlying115
  a31 := Tryz.isAgg115
  z31 := Tryz.sizeOf115
  v31 := Tryz.zeroValue115
  t46 := Tryz.underlying131
  a46 := Tryz.isAgg131
  z46 := Tryz.sizeOf131
  v46 := Tryz.zeroValue131
  t51 := Tryz.underlying151
  a51 := Tryz.isAgg151
  z51 := Tryz.sizeOf151
  v51 := Tryz.zeroValue151
  t105 := Tryz.underlying181
  a105 := Tryz.isAgg181
  z105 := Tryz.sizeOf181
  v105 := Tryz.zeroValue181
  t119 := Tryz.underlying185
  a119 := Tryz.isAgg185
  z119 := Tryz.sizeOf185
  t138 := Tryz.underlying187
  a138 := Tryz.isAgg187
  z138 := Tryz.sizeOf187
  v138 := Tryz.zeroValue187
  t139 := Tryz.underlying188
  a139 := Tryz.isAgg188
  z139 := Tryz.sizeOf188
  v139 := Tryz.zeroValue188
  t146 := Tryz.underlying183
  a146 := Tryz.isAgg183
  z146 := Tryz.sizeOf183
  v146 := Tryz.zeroValue183
  g1 := by kernel_rfl
  g3 := by kernel_rfl
  g4 := by kernel_rfl }
open Go.RowKit Go.Lib in
theorem Tryz.strings_Split (s sep : ByteArray) (m : Int) (w : World) (hs : s.size < 4294967281) (hm : w.cell? ⟨0, 0, none⟩ = some (.int .i64 m)) (h1 : 1 ≤ sep.size) :
    Calls Tryz.prog 124 #[.string s, .string sep] w fun e w' =>
      e = .returned (.slice (some ⟨w.heap.size, 0, none⟩) (Lib.countB s sep + 1) (Lib.countB s sep + 1)) ∧ w' = w.alloc (.cells ((Lib.splitB sep 0 (Lib.countB s sep) s).map Value.string).toArray 9) := Any.strings_Split Tryz.lays146 (by kernel_rfl) s sep m w hs hm h1
end Go.Proofs

/- strings.Split at dots. -/
namespace Go.Proofs.YtigffgjkakalfaaGreatDoor
open Go.RowKit Go.Shelf Go.Lib

theorem splitK_spl : ∀ (k : Nat) (l : List UInt8), l.count 46 ≤ k → Lib.splitK [46] 0 k l = spl l
  | 0, l, h => by
    have : 46 ∉ l := fun hm => by have := List.count_pos_iff.2 hm; omega
    rw [spl_none l this]; rfl
  | k + 1, l, h => by
    have hge := Lib.indexByte_ge l 46
    unfold Lib.splitK
    rw [Lib.index_one]
    by_cases hi : Lib.indexByte l 46 = -1
    · rw [if_pos (by rw [hi]; rfl), spl_none l (ix_none hi)]
    · obtain ⟨i, hi2⟩ : ∃ i : Nat, Lib.indexByte l 46 = (i : Int) := ⟨(Lib.indexByte l 46).toNat, by omega⟩
      obtain ⟨h1, h2, h3⟩ := ix_some hi2
      rw [if_neg (by rw [hi2]; simp), hi2]
      have e : ((i : Int)).toNat = i := by omega
      rw [e]
      have hc : (l.drop (i + 1)).count 46 ≤ k := by
        have h4 := congrArg (List.count 46) h2
        rw [List.count_append, List.count_cons_self] at h4
        omega
      show l.take (i + 0) :: Lib.splitK [46] 0 k (l.drop (i + 1)) = spl l
      rw [splitK_spl k _ hc, Nat.add_zero]
      conv => rhs; rw [h2]
      rw [spl_app _ _ h3]
theorem splitB_spl (s : ByteArray) : Lib.splitB ⟨#[46]⟩ 0 (Lib.countB s ⟨#[46]⟩) s = (spl s.data.toList).map mk := by
  have h := Lib.splitB_data ⟨#[46]⟩ 0 (Lib.countB s ⟨#[46]⟩) s
  have hc : Lib.countB s ⟨#[46]⟩ = s.data.toList.count 46 := Lib.count_one 46 s.data.toList
  rw [show (ByteArray.mk #[46]).data.toList = [46] from rfl, splitK_spl _ _ (by rw [hc]; exact Nat.le_refl _)] at h
  rw [← h, List.map_map]
  have e : (mk ∘ fun x : ByteArray => x.data.toList) = id := by funext x; exact mk_data x
  rw [e, List.map_id]

/-- The cell of a variable of the library's, of which nothing but its kind is known. -/
def ML (w : World) : Prop := 0 < w.heap.size ∧ ∃ m, w.cell? ⟨0, 0, none⟩ = some (.int .i64 m)
theorem ML.below {w w' : World} (h : ML w) (hb : RowKit.Below w.heap.size w w') : ML w' := by
  obtain ⟨h1, m, h2⟩ := h
  exact ⟨Nat.lt_of_lt_of_le h1 hb.size, m, (hb.cell (p := ⟨0, 0, none⟩) h1).trans h2⟩
theorem split_any (s : ByteArray) (w : World) (hm : ML w) (hs : s.size ≤ 1000) :
    Calls Tryz.prog 124 #[.string s, .string ⟨#[46]⟩] w fun e w' => e = .returned (.slice (some ⟨w.heap.size, 0, none⟩) (spl s.data.toList).length (spl s.data.toList).length) ∧ w' = w.alloc (.cells (((spl s.data.toList).map mk).map Value.string).toArray 9) := by
  obtain ⟨_, m, h2⟩ := hm
  have h := Tryz.strings_Split s ⟨#[46]⟩ m w (by omega) h2 (by decide)
  rw [splitB_spl] at h
  have hc : Lib.countB s ⟨#[46]⟩ + 1 = (spl s.data.toList).length := by
    rw [spl_len]
    show Lib.count s.data.toList [46] + 1 = _
    rw [Lib.count_one]
  rw [hc] at h
  exact h

end Go.Proofs.YtigffgjkakalfaaGreatDoor

