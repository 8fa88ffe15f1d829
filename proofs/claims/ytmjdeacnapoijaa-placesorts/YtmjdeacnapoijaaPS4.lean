
/- How far a name is, and which of two names comes first: the closures of Sort. -/
import Derived.Test.YtmjdeacnapoijaaPS3
namespace Go.Proofs.Ytmjdeacnapoijaa
open Go.RowKit Go.WideMaps Go.Maps

def cmpZ (a b : Int) : Int := if a < b then -1 else if b < a then 1 else 0
set_option maxHeartbeats 800000 in
theorem compareZ_any (a b : Int) (w : World) :
    Calls Try.prog 39 #[.int .i64 a, .int .i64 b] w fun e w' => e = .returned (.int .i64 (cmpZ a b)) ∧ w' = w := by
  go_enter Try.func39, Try.ntmps39
  go_wp2
  all_goals
    go_ret
    exact ⟨ret_int (by unfold cmpZ; (repeat' split) <;> omega), rfl⟩

def orZ (a b : Int) : Int := if a = 0 then b else a
set_option maxHeartbeats 800000 in
theorem or_any (a b : Int) (g : Nat) (c : Nat) (w : World) (h0 : w.cell? ⟨g, 0, none⟩ = some (.int .i64 a)) (h1 : w.cell? ⟨g, 1, none⟩ = some (.int .i64 b)) :
    Calls Try.prog 38 #[.slice (some ⟨g, 0, none⟩) 2 c] w fun e w' => e = .returned (.int .i64 (orZ a b)) ∧ w' = w := by
  by_cases ha : a = 0
  · subst ha
    by_cases hb : b = 0
    · subst hb
      go_enter Try.func38, Try.ntmps38
      go_wp2_with fail
      refine wp_loop_rounds 3 ?_
      rw [rounds_succ]
      go_wp2_with fail
      rw [rounds_succ]
      go_wp2_with fail
      rw [rounds_succ]
      go_wp2_with fail
      go_ret
      exact ⟨rfl, rfl⟩
    · have hb' : (b != 0) = true := by simpa using hb
      go_enter Try.func38, Try.ntmps38
      go_wp2_with fail
      refine wp_loop_rounds 3 ?_
      rw [rounds_succ]
      go_wp2_with fail
      rw [rounds_succ]
      go_wp2_with fail
      go_ret
      exact ⟨rfl, rfl⟩
  · have ha' : (a != 0) = true := by simpa using ha
    go_enter Try.func38, Try.ntmps38
    go_wp2_with fail
    refine wp_loop_rounds 3 ?_
    rw [rounds_succ]
    go_wp2_with fail
    go_ret
    exact ⟨ret_int (by unfold orZ; rw [if_neg ha]), rfl⟩

/-- What the map tells of a name; the greatest number, if nothing. -/
def dV (D : DataW Unit) (s : ByteArray) : Int := if Maps.has D (kS s) = true then (match D.atKey (kS s) (.lit (.int .i64 0)) with | .lit (.int _ c) => c | _ => 0) else 9223372036854775807
theorem dV_is (f : Wh.Whe → Int) (ms : List Wh.Whe) (s : ByteArray) : dV (Dd f ms ms.length) s = (dstO f ms s).getD 9223372036854775807 := by
  obtain ⟨h1, h2⟩ := Dd_is f ms s (.lit (.int .i64 0)) ms.length (Nat.le_refl _)
  rw [List.take_length] at h1 h2
  unfold dV
  rw [h1]
  cases hd : dstO f ms s with
  | none => rfl
  | some d => rw [h2 d hd]; rfl

set_option maxHeartbeats 800000 in
theorem dist_any (s : ByteArray) (kb g n : Nat) (D : DataW Unit) (w : World) (hs : s.size ≤ maxLen) (hk : w.cell? ⟨kb, 0, none⟩ = some (.map (some g))) (hm : w.ownsMap Try.prog 9 (plainElem (H := Unit) Try.prog 3) g n D) :
    Calls Try.prog 34 #[.string s, .pointer (some ⟨kb, 0, none⟩)] w fun e w' => e = .returned (.int .i64 (dV D s)) ∧ w' = w := by
  obtain ⟨c, hl, hc⟩ := look_any hm hs
  have HV : Hid (dV D s = if Maps.has D (kS s) = true then c else 9223372036854775807) := by
    show dV D s = _
    unfold dV; rw [hc]
  clear hc hm
  rcases hh : Maps.has D (kS s) with _ | _
  · rw [hh] at hl
    have HV2 : Hid (dV D s = 9223372036854775807) := by have h := HV.out; rw [hh] at h; exact h
    clear HV
    go_enter Try.func34, Try.ntmps34
    go_wp2_with fail
    go_ret
    exact ⟨ret_int HV2.out.symm, rfl⟩
  · rw [hh] at hl
    have HV2 : Hid (dV D s = c) := by have h := HV.out; rw [hh] at h; exact h
    clear HV
    go_enter Try.func34, Try.ntmps34
    go_wp2_with fail
    go_ret
    exact ⟨ret_int HV2.out.symm, rfl⟩

set_option maxHeartbeats 3200000 in
set_option maxRecDepth 100000 in
theorem cmp2_any (a b : ByteArray) (db kb g n : Nat) (D : DataW Unit) (w : World) (ha : a.size ≤ maxLen) (hb : b.size ≤ maxLen) (hd : w.cell? ⟨db, 0, none⟩ = some (.func (.func 34) #[] #[.pointer (some ⟨kb, 0, none⟩)])) (hk : w.cell? ⟨kb, 0, none⟩ = some (.map (some g))) (hm : w.ownsMap Try.prog 9 (plainElem (H := Unit) Try.prog 3) g n D) :
    Calls Try.prog 37 #[.string a, .string b, .pointer (some ⟨db, 0, none⟩)] w fun e w' => e = .returned (.int .i64 (orZ (cmpZ (dV D a) (dV D b)) (cmpI a b))) ∧ w' = (w.alloc (.cells #[.int .i64 (cmpZ (dV D a) (dV D b)), .int .i64 (cmpI a b)] 3)).drew := by
  have HD : Hid (∀ s : ByteArray, (s = a ∨ s = b) → ∀ W : World, W.heap = w.heap → Calls Try.prog 34 #[.string s, .pointer (some ⟨kb, 0, none⟩)] W fun e w' => e = .returned (.int .i64 (dV D s)) ∧ w' = W) := fun s hs W hW => by
    have hsz : s.size ≤ maxLen := by rcases hs with rfl | rfl <;> assumption
    refine dist_any s kb g n D W hsz ?_ ?_
    · rw [← hk]; unfold World.cell?; rw [hW]
    · obtain ⟨es, cl, h1, h2⟩ := hm
      exact ⟨es, cl, by rw [hW]; exact h1, h2⟩
  have h1 := World.new_ne w _ hd
  clear hm hk
  go_enter Try.func37, Try.ntmps37
  go_wp2_with fail
  go_region_held3 (fun w' => w'.cell? ⟨db, 0, none⟩ = some (.func (.func 34) #[] #[.pointer (some ⟨kb, 0, none⟩)])) (go_keep) (first | (go_at_call 34; refine (HD.out _ ?_ _ ?_).mono ?_; (focus simp); (focus rfl); rintro e w' ⟨rfl, rfl⟩) | (go_at_call 39; refine (compareZ_any _ _ _).mono ?_; rintro e w' ⟨rfl, rfl⟩) | (go_at_call 40; refine (compare_any _ _ _).mono ?_; rintro e w' ⟨rfl, rfl⟩) | (go_at_call 38; refine (or_any (cmpZ (dV D a) (dV D b)) (cmpI a b) _ _ _ (cell_topL rfl) (cell_topL rfl)).mono ?_; rintro e w' ⟨rfl, rfl⟩))
  go_wp2_with fail
  go_ret
  exact ⟨rfl, rfl⟩

end Go.Proofs.Ytmjdeacnapoijaa
