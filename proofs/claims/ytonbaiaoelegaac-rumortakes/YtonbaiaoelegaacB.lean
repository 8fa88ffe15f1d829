
/- One member by itself, and which of two is newer. -/
import Derived.Test.YtonbaiaoelegaacA
namespace Go.Proofs.Ytonbaiaoelegaac
open Go.RowKit

/-- B1 of one member. -/
def oneE (nm : ByteArray) (st lf ad : Int) : Int :=
  if labB nm = true then (if within st 1 4 = true then (if within lf 1 1000000 = true then (if within ad 0 4294967295 = true then 0 else 3) else 3) else 7) else 1

/-- B2. -/
def newB (sa la aa : Int) (va : Bool) (sb lb ab : Int) (vb : Bool) : Bool :=
  if la = lb then (if sa = sb then (if aa = ab then (va && !vb) else decide (ab < aa)) else decide (sb < sa)) else decide (lb < la)

abbrev mcells (nm : ByteArray) (st lf ad : Int) (sv : Bool) : Array Value := #[.string nm, .int .i64 st, .int .i64 lf, .int .i64 ad, .bool sv]

theorem bcell {W w1 : World} (hb : Below W.heap.size W w1) : (∀ b o, b < W.heap.size → w1.cell? ⟨b, o, none⟩ = W.cell? ⟨b, o, none⟩) ∧ (∀ b o, b < W.heap.size → w1.frozen? ⟨b, o, none⟩ = W.frozen? ⟨b, o, none⟩) :=
  ⟨fun b o h => hb.cell (p := ⟨b, o, none⟩) h, fun b o h => hb.frozen (p := ⟨b, o, none⟩) h⟩

set_option maxHeartbeats 800000 in
theorem checkOne_any (nm : ByteArray) (st lf ad : Int) (sv : Bool) (w : World) (hs : nm.size ≤ maxLen) :
    Calls Try.prog 34 #[.agg #[.string nm, .int .i64 st, .int .i64 lf, .int .i64 ad, .bool sv]] w fun e w' => e = .returned (.int .i64 (oneE nm st lf ad)) ∧ w' = w.alloc (.cells #[.string nm, .int .i64 st, .int .i64 lf, .int .i64 ad, .bool sv] 24) := by
  rcases h1 : labB nm with _ | _
  · go_enter Try.func34, Try.ntmps34
    go_wp2_with (go_at_call 35; refine (label_any _ _ hs).mono ?_; rintro e w' ⟨rfl, rfl⟩; rw [h1])
    go_ret
    exact ⟨ret_int (by simp [oneE, h1]), rfl⟩
  · rcases h2 : within st 1 4 with _ | _
    · go_enter Try.func34, Try.ntmps34
      go_wp2_with (first | (go_at_call 35; refine (label_any _ _ hs).mono ?_; rintro e w' ⟨rfl, rfl⟩; rw [h1]) | (go_at_call 47; refine (within_any _ _ _ _).mono ?_; rintro e w' ⟨rfl, rfl⟩; rw [h2]))
      go_ret
      exact ⟨ret_int (by simp [oneE, h1, h2]), rfl⟩
    · rcases h3 : within lf 1 1000000 with _ | _
      · go_enter Try.func34, Try.ntmps34
        go_wp2_with (first | (go_at_call 35; refine (label_any _ _ hs).mono ?_; rintro e w' ⟨rfl, rfl⟩; rw [h1]) | (go_at_call 47; refine (within_any _ _ _ _).mono ?_; rintro e w' ⟨rfl, rfl⟩; first | rw [h2] | rw [h3]))
        go_ret
        exact ⟨ret_int (by simp [oneE, h1, h2, h3]), rfl⟩
      · rcases h4 : within ad 0 4294967295 with _ | _
        all_goals
          go_enter Try.func34, Try.ntmps34
          go_wp2_with (first | (go_at_call 35; refine (label_any _ _ hs).mono ?_; rintro e w' ⟨rfl, rfl⟩; rw [h1]) | (go_at_call 47; refine (within_any _ _ _ _).mono ?_; rintro e w' ⟨rfl, rfl⟩; first | rw [h2] | rw [h3]) | (go_at_call 56; refine (address_any _ _).mono ?_; rintro e w' ⟨rfl, rfl⟩; rw [h4]))
          go_ret
          exact ⟨ret_int (by simp [oneE, h1, h2, h3, h4]), rfl⟩

set_option maxHeartbeats 800000 in
theorem oneMember_any (nm : ByteArray) (st lf ad : Int) (sv : Bool) (w : World) (hs : nm.size ≤ maxLen) :
    Calls Try.prog 18 #[.agg #[.string nm, .int .i64 st, .int .i64 lf, .int .i64 ad, .bool sv]] w fun e w' => e = .returned (.int .i64 (oneE nm st lf ad)) ∧ w' = w.alloc (.cells #[.string nm, .int .i64 st, .int .i64 lf, .int .i64 ad, .bool sv] 24) := by
  rcases h1 : labB nm with _ | _
  · go_enter Try.func18, Try.ntmps18
    go_wp2_with (go_at_call 45; refine (isLabel_any _ _ hs).mono ?_; rintro e w' ⟨rfl, rfl⟩; rw [h1])
    go_ret
    exact ⟨ret_int (by simp [oneE, h1]), rfl⟩
  · rcases h2 : within st 1 4 with _ | _
    · go_enter Try.func18, Try.ntmps18
      go_wp2_with (first | (go_at_call 45; refine (isLabel_any _ _ hs).mono ?_; rintro e w' ⟨rfl, rfl⟩; rw [h1]) | (go_at_call 44; refine (between_any _ _ _ _).mono ?_; rintro e w' ⟨rfl, rfl⟩; rw [h2]))
      go_ret
      exact ⟨ret_int (by simp [oneE, h1, h2]), rfl⟩
    · rcases h3 : within lf 1 1000000 with _ | _
      · go_enter Try.func18, Try.ntmps18
        go_wp2_with (first | (go_at_call 45; refine (isLabel_any _ _ hs).mono ?_; rintro e w' ⟨rfl, rfl⟩; rw [h1]) | (go_at_call 44; refine (between_any _ _ _ _).mono ?_; rintro e w' ⟨rfl, rfl⟩; first | rw [h2] | rw [h3]))
        go_ret
        exact ⟨ret_int (by simp [oneE, h1, h2, h3]), rfl⟩
      · rcases h4 : within ad 0 4294967295 with _ | _
        all_goals
          go_enter Try.func18, Try.ntmps18
          go_wp2_with (first | (go_at_call 45; refine (isLabel_any _ _ hs).mono ?_; rintro e w' ⟨rfl, rfl⟩; rw [h1]) | (go_at_call 44; refine (between_any _ _ _ _).mono ?_; rintro e w' ⟨rfl, rfl⟩; first | rw [h2] | rw [h3]) | (go_at_call 46; refine (isAddress_any _ _).mono ?_; rintro e w' ⟨rfl, rfl⟩; rw [h4]))
          go_ret
          exact ⟨ret_int (by simp [oneE, h1, h2, h3, h4]), rfl⟩

set_option maxHeartbeats 800000 in
theorem newer_any (na nb : ByteArray) (sa la aa : Int) (va : Bool) (sb lb ab : Int) (vb : Bool) (w : World) :
    Calls Try.prog 61 #[.agg #[.string na, .int .i64 sa, .int .i64 la, .int .i64 aa, .bool va], .agg #[.string nb, .int .i64 sb, .int .i64 lb, .int .i64 ab, .bool vb]] w fun e w' => e = .returned (.bool (newB sa la aa va sb lb ab vb)) ∧ w' = (w.alloc (.cells #[.string na, .int .i64 sa, .int .i64 la, .int .i64 aa, .bool va] 24)).alloc (.cells #[.string nb, .int .i64 sb, .int .i64 lb, .int .i64 ab, .bool vb] 24) := by
  by_cases h1 : la = lb
  · subst h1
    by_cases h2 : sa = sb
    · subst h2
      by_cases h3 : aa = ab
      · subst h3
        cases va
        all_goals
          go_enter Try.func61, Try.ntmps61
          go_wp2
          go_ret
          exact ⟨ret_bool (by simp [newB]), rfl⟩
      · have h3' : (aa != ab) = true := by simpa using h3
        go_enter Try.func61, Try.ntmps61
        go_wp2
        go_ret
        exact ⟨ret_bool (by simp [newB, h3]), rfl⟩
    · have h2' : (sa != sb) = true := by simpa using h2
      go_enter Try.func61, Try.ntmps61
      go_wp2
      go_ret
      exact ⟨ret_bool (by simp [newB, h2]), rfl⟩
  · have h1' : (la != lb) = true := by simpa using h1
    go_enter Try.func61, Try.ntmps61
    go_wp2
    go_ret
    exact ⟨ret_bool (by simp [newB, h1]), rfl⟩

set_option maxHeartbeats 800000 in
theorem newerMember_any (na nb : ByteArray) (sa la aa : Int) (va : Bool) (sb lb ab : Int) (vb : Bool) (w : World) :
    Calls Try.prog 14 #[.agg #[.string na, .int .i64 sa, .int .i64 la, .int .i64 aa, .bool va], .agg #[.string nb, .int .i64 sb, .int .i64 lb, .int .i64 ab, .bool vb]] w fun e w' => e = .returned (.bool (newB sa la aa va sb lb ab vb)) ∧ w' = (w.alloc (.cells #[.string na, .int .i64 sa, .int .i64 la, .int .i64 aa, .bool va] 24)).alloc (.cells #[.string nb, .int .i64 sb, .int .i64 lb, .int .i64 ab, .bool vb] 24) := by
  by_cases h1 : la = lb
  · subst h1
    by_cases h2 : sa = sb
    · subst h2
      by_cases h3 : aa = ab
      · subst h3
        cases va
        all_goals
          go_enter Try.func14, Try.ntmps14
          go_wp2
          go_ret
          exact ⟨ret_bool (by simp [newB]), rfl⟩
      · have h3' : (aa != ab) = true := by simpa using h3
        go_enter Try.func14, Try.ntmps14
        go_wp2
        go_ret
        exact ⟨ret_bool (by simp [newB, h3]), rfl⟩
    · have h2' : (sa != sb) = true := by simpa using h2
      go_enter Try.func14, Try.ntmps14
      go_wp2
      go_ret
      exact ⟨ret_bool (by simp [newB, h2]), rfl⟩
  · have h1' : (la != lb) = true := by simpa using h1
    go_enter Try.func14, Try.ntmps14
    go_wp2
    go_ret
    exact ⟨ret_bool (by simp [newB, h1]), rfl⟩

end Go.Proofs.Ytonbaiaoelegaac
