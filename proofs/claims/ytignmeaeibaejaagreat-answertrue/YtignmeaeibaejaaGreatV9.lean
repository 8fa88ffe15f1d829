/- MKF, ANM, Q0, Q1, Q2 -/
import Derived.Test.YtignmeaeibaejaaGreatV8
import Derived.Test.YtignmeaeibaejaaGreatV5
import Derived.Test.YtignmeaeibaejaaGreatV7
import Derived.Test.YtignmeaeibaejaaGreatV1
import Derived.Lib.Split
import Derived.OwnWalk
/- Members as plain lists: what Check says, which of two is newer, what is known behind a rumor. -/
namespace Go.Proofs.YtignmeaeibaejaaGreat
open Go.RowKit

/-- B1 of one member. -/
def oneE (nm : ByteArray) (st lf ad : Int) : Int :=
  if labB nm = true then (if within st 1 4 = true then (if within lf 1 1000000 = true then (if within ad 0 4294967295 = true then 0 else 3) else 3) else 7) else 1

/-- B2. -/
def newB (sa la aa : Int) (va : Bool) (sb lb ab : Int) (vb : Bool) : Bool :=
  if la = lb then (if sa = sb then (if aa = ab then (va && !vb) else decide (ab < aa)) else decide (sb < sa)) else decide (lb < la)

abbrev mcells (nm : ByteArray) (st lf ad : Int) (sv : Bool) : Array Value := #[.string nm, .int .i64 st, .int .i64 lf, .int .i64 ad, .bool sv]

set_option maxHeartbeats 800000 in
theorem checkOne_any (nm : ByteArray) (st lf ad : Int) (sv : Bool) (w : World) (hs : nm.size ≤ maxLen) :
    Calls Tryz.prog 41 #[.agg #[.string nm, .int .i64 st, .int .i64 lf, .int .i64 ad, .bool sv]] w fun e w' => e = .returned (.int .i64 (oneE nm st lf ad)) ∧ w' = w.alloc (.cells #[.string nm, .int .i64 st, .int .i64 lf, .int .i64 ad, .bool sv] 44) := by
  rcases h1 : labB nm with _ | _
  · go_enter Tryz.func41, Tryz.ntmps41
    go_wp2_with (go_at_call 21; refine (label_any _ _ hs).mono ?_; rintro e w' ⟨rfl, rfl⟩; rw [h1])
    go_ret
    exact ⟨ret_int (by simp [oneE, h1]), rfl⟩
  · rcases h2 : within st 1 4 with _ | _
    · go_enter Tryz.func41, Tryz.ntmps41
      go_wp2_with (first | (go_at_call 21; refine (label_any _ _ hs).mono ?_; rintro e w' ⟨rfl, rfl⟩; rw [h1]) | (go_at_call 36; refine (within_any _ _ _ _).mono ?_; rintro e w' ⟨rfl, rfl⟩; rw [h2]))
      go_ret
      exact ⟨ret_int (by simp [oneE, h1, h2]), rfl⟩
    · rcases h3 : within lf 1 1000000 with _ | _
      · go_enter Tryz.func41, Tryz.ntmps41
        go_wp2_with (first | (go_at_call 21; refine (label_any _ _ hs).mono ?_; rintro e w' ⟨rfl, rfl⟩; rw [h1]) | (go_at_call 36; refine (within_any _ _ _ _).mono ?_; rintro e w' ⟨rfl, rfl⟩; first | rw [h2] | rw [h3]))
        go_ret
        exact ⟨ret_int (by simp [oneE, h1, h2, h3]), rfl⟩
      · rcases h4 : within ad 0 4294967295 with _ | _
        all_goals
          go_enter Tryz.func41, Tryz.ntmps41
          go_wp2_with (first | (go_at_call 21; refine (label_any _ _ hs).mono ?_; rintro e w' ⟨rfl, rfl⟩; rw [h1]) | (go_at_call 36; refine (within_any _ _ _ _).mono ?_; rintro e w' ⟨rfl, rfl⟩; first | rw [h2] | rw [h3]) | (go_at_call 60; refine (address_any _ _).mono ?_; rintro e w' ⟨rfl, rfl⟩; rw [h4]))
          go_ret
          exact ⟨ret_int (by simp [oneE, h1, h2, h3, h4]), rfl⟩

set_option maxHeartbeats 800000 in
theorem oneMember_any (nm : ByteArray) (st lf ad : Int) (sv : Bool) (w : World) (hs : nm.size ≤ maxLen) :
    Calls Tryz.prog 53 #[.agg #[.string nm, .int .i64 st, .int .i64 lf, .int .i64 ad, .bool sv]] w fun e w' => e = .returned (.int .i64 (oneE nm st lf ad)) ∧ w' = w.alloc (.cells #[.string nm, .int .i64 st, .int .i64 lf, .int .i64 ad, .bool sv] 44) := by
  rcases h1 : labB nm with _ | _
  · go_enter Tryz.func53, Tryz.ntmps53
    go_wp2_with (go_at_call 28; refine (isLabel_any _ _ hs).mono ?_; rintro e w' ⟨rfl, rfl⟩; rw [h1])
    go_ret
    exact ⟨ret_int (by simp [oneE, h1]), rfl⟩
  · rcases h2 : within st 1 4 with _ | _
    · go_enter Tryz.func53, Tryz.ntmps53
      go_wp2_with (first | (go_at_call 28; refine (isLabel_any _ _ hs).mono ?_; rintro e w' ⟨rfl, rfl⟩; rw [h1]) | (go_at_call 54; refine (between_any _ _ _ _).mono ?_; rintro e w' ⟨rfl, rfl⟩; rw [h2]))
      go_ret
      exact ⟨ret_int (by simp [oneE, h1, h2]), rfl⟩
    · rcases h3 : within lf 1 1000000 with _ | _
      · go_enter Tryz.func53, Tryz.ntmps53
        go_wp2_with (first | (go_at_call 28; refine (isLabel_any _ _ hs).mono ?_; rintro e w' ⟨rfl, rfl⟩; rw [h1]) | (go_at_call 54; refine (between_any _ _ _ _).mono ?_; rintro e w' ⟨rfl, rfl⟩; first | rw [h2] | rw [h3]))
        go_ret
        exact ⟨ret_int (by simp [oneE, h1, h2, h3]), rfl⟩
      · rcases h4 : within ad 0 4294967295 with _ | _
        all_goals
          go_enter Tryz.func53, Tryz.ntmps53
          go_wp2_with (first | (go_at_call 28; refine (isLabel_any _ _ hs).mono ?_; rintro e w' ⟨rfl, rfl⟩; rw [h1]) | (go_at_call 54; refine (between_any _ _ _ _).mono ?_; rintro e w' ⟨rfl, rfl⟩; first | rw [h2] | rw [h3]) | (go_at_call 74; refine (isAddress_any _ _).mono ?_; rintro e w' ⟨rfl, rfl⟩; rw [h4]))
          go_ret
          exact ⟨ret_int (by simp [oneE, h1, h2, h3, h4]), rfl⟩

def Mem.e (m : Mem) : Int := oneE m.name m.state m.life m.addr

def firstE : List Mem → Int
  | [] => 0
  | m :: r => if m.e = 0 then firstE r else m.e

theorem firstE_zero : ∀ (ms : List Mem), (∀ j, j < ms.length → (ms.getD j dm).e = 0) → firstE ms = 0
  | [], _ => rfl
  | m :: r, h => by
    have h0 := h 0 (by simp)
    simp only [List.getD_cons_zero] at h0
    rw [firstE, if_pos h0]
    exact firstE_zero r fun j hj => by have := h (j + 1) (by simpa using hj); simpa using this

theorem firstE_at : ∀ (ms : List Mem) (k : Nat), k < ms.length → (∀ j, j < k → (ms.getD j dm).e = 0) → (ms.getD k dm).e ≠ 0 → firstE ms = (ms.getD k dm).e
  | [], k, h, _, _ => by simp at h
  | m :: r, 0, _, _, hne => by
    simp only [List.getD_cons_zero] at hne ⊢
    rw [firstE, if_neg hne]
  | m :: r, k + 1, h, hz, hne => by
    have h0 := hz 0 (by omega)
    simp only [List.getD_cons_zero] at h0
    rw [firstE, if_pos h0, List.getD_cons_succ]
    rw [List.getD_cons_succ] at hne
    exact firstE_at r k (by simpa using h) (fun j hj => by have := hz (j + 1) (by omega); simpa using this) hne

def risesB : List Mem → Bool
  | a :: b :: r => less a.name b.name && risesB (b :: r)
  | _ => true

theorem rises_all : ∀ (ms : List Mem), (∀ j, j + 1 < ms.length → less (ms.getD j dm).name (ms.getD (j + 1) dm).name = true) → risesB ms = true
  | [], _ => rfl
  | [_], _ => rfl
  | a :: b :: r, h => by
    have h0 := h 0 (by simp)
    simp only [List.getD_cons_zero, List.getD_cons_succ] at h0
    rw [risesB, h0, Bool.true_and]
    exact rises_all (b :: r) fun j hj => by have := h (j + 1) (by simpa using hj); simpa using this

theorem rises_get : ∀ (ms : List Mem), risesB ms = true → ∀ j, j + 1 < ms.length → less (ms.getD j dm).name (ms.getD (j + 1) dm).name = true
  | [], _, j, h => by simp at h
  | [_], _, j, h => by simp at h
  | a :: b :: r, hr, 0, _ => by
    rw [risesB, Bool.and_eq_true] at hr
    simpa using hr.1
  | a :: b :: r, hr, j + 1, h => by
    rw [risesB, Bool.and_eq_true] at hr
    have := rises_get (b :: r) hr.2 j (by simpa using h)
    simpa using this

/-- B1: what Check says. -/
def chk (ms : List Mem) : Int := if 20 < ms.length then 2 else if firstE ms = 0 then (if risesB ms = true then 0 else 4) else firstE ms

theorem chk_e (ms : List Mem) (k : Nat) (hn : ms.length ≤ 20) (hk : k < ms.length) (hz : ∀ j, j < k → (ms.getD j dm).e = 0) (hne : (ms.getD k dm).e ≠ 0) : chk ms = (ms.getD k dm).e := by
  have h := firstE_at ms k hk hz hne
  rw [chk, if_neg (by omega), h, if_neg hne]
theorem chk_4 (ms : List Mem) (k : Nat) (hn : ms.length ≤ 20) (hz : ∀ j, j < ms.length → (ms.getD j dm).e = 0) (hk : k + 1 < ms.length) (hl : less (ms.getD k dm).name (ms.getD (k + 1) dm).name = false) : chk ms = 4 := by
  rw [chk, if_neg (by omega), firstE_zero ms hz, if_pos rfl, if_neg]
  intro h
  have := rises_get ms h k hk
  rw [hl] at this
  cases this
theorem chk_0 (ms : List Mem) (hn : ms.length ≤ 20) (hz : ∀ j, j < ms.length → (ms.getD j dm).e = 0) (hl : ∀ j, j + 1 < ms.length → less (ms.getD j dm).name (ms.getD (j + 1) dm).name = true) : chk ms = 0 := by
  rw [chk, if_neg (by omega), firstE_zero ms hz, if_pos rfl, if_pos (rises_all ms hl)]

/-- Where a name is among members that rise by name. -/
structure At (ms : List Mem) (t : ByteArray) (p : Nat) (f : Bool) : Prop where
  le : p ≤ ms.length
  lo : ∀ j, j < p → cmpI (ms.getD j dm).name t < 0
  hi : ∀ j, p ≤ j → j < ms.length → 0 ≤ cmpI (ms.getD j dm).name t
  is : f = true ↔ p < ms.length ∧ cmpI (ms.getD p dm).name t = 0

def newM (a b : Mem) : Bool := newB a.state a.life a.addr a.server b.state b.life b.addr b.server

/-- B3: what is known behind a rumor, of members that rise by name. -/
def hearL : List Mem → Mem → List Mem
  | [], m => [m]
  | x :: r, m => if cmpI x.name m.name < 0 then x :: hearL r m else if cmpI x.name m.name = 0 then (if newM m x = true then m :: r else x :: r) else m :: x :: r

abbrev Rise (ms : List Mem) : Prop := ms.Pairwise fun a b => less a.name b.name = true

theorem rise_of : ∀ ms : List Mem, risesB ms = true → Rise ms
  | [], _ => .nil
  | [x], _ => by simp [Rise]
  | a :: b :: r, h => by
    rw [risesB, Bool.and_eq_true] at h
    have ih := rise_of (b :: r) h.2
    refine List.pairwise_cons.2 ⟨fun c hc => ?_, ih⟩
    rcases List.mem_cons.1 hc with rfl | hc
    · exact h.1
    · exact less_trans h.1 (List.rel_of_pairwise_cons ih hc)

theorem rises_of : ∀ ms : List Mem, Rise ms → risesB ms = true
  | [], _ => rfl
  | [x], _ => rfl
  | a :: b :: r, h => by
    rw [risesB, List.rel_of_pairwise_cons h (by simp), Bool.true_and]
    exact rises_of (b :: r) (List.Pairwise.of_cons h)

theorem rise_mono {ms : List Mem} (h : Rise ms) (t : ByteArray) : ∀ i j, i ≤ j → j < ms.length → cmpI (ms.getD j dm).name t < 0 → cmpI (ms.getD i dm).name t < 0 := by
  intro i j hij hj hlt
  rcases Nat.lt_or_eq_of_le hij with hlt' | rfl
  · have hp := List.pairwise_iff_getElem.1 h i j (by omega) hj hlt'
    rw [cmpI_lt] at hlt ⊢
    have e1 : ms.getD i dm = ms[i] := by simp [List.getD, List.getElem?_eq_getElem (show i < ms.length by omega)]
    have e2 : ms.getD j dm = ms[j] := by simp [List.getD, List.getElem?_eq_getElem hj]
    rw [e1]; rw [e2] at hlt
    exact less_trans hp hlt
  · exact hlt

theorem hearL_at : ∀ (ms : List Mem) (m : Mem) (p : Nat) (f : Bool), At ms m.name p f →
    hearL ms m = if f = true then (if newM m (ms.getD p dm) = true then ms.set p m else ms) else ms.take p ++ m :: ms.drop p
  | [], m, p, f, h => by
    have hp : p = 0 := by have := h.le; simpa using this
    subst hp
    have hf : f = false := by
      cases f
      · rfl
      · have := h.is.1 rfl; simp at this
    subst hf
    simp [hearL]
  | x :: r, m, 0, f, h => by
    have h0 := h.hi 0 (Nat.le_refl _) (by simp)
    simp only [List.getD_cons_zero] at h0
    rw [hearL, if_neg (by omega)]
    cases f
    · have hne : ¬ cmpI x.name m.name = 0 := fun e => by have := h.is.2 ⟨by simp, by simpa using e⟩; cases this
      rw [if_neg hne]; simp
    · have he := (h.is.1 rfl).2
      simp only [List.getD_cons_zero] at he
      rw [if_pos he]
      simp only [List.getD_cons_zero, List.set_cons_zero, if_pos]
  | x :: r, m, p + 1, f, h => by
    have h0 := h.lo 0 (by omega)
    simp only [List.getD_cons_zero] at h0
    have hr : At r m.name p f := ⟨by have := h.le; simpa using this, fun j hj => by have := h.lo (j + 1) (by omega); simpa using this,
      fun j hj hl => by have := h.hi (j + 1) (by omega) (by simpa using hl); simpa using this, by have := h.is; simpa using this⟩
    rw [hearL, if_pos h0, hearL_at r m p f hr]
    cases f
    · simp
    · simp only [if_pos, List.getD_cons_succ, List.set_cons_succ]
      split <;> rfl

theorem hearL_mem : ∀ (ms : List Mem) (m x : Mem), x ∈ hearL ms m → x = m ∨ x ∈ ms
  | [], m, x, h => by simp [hearL] at h; exact .inl h
  | y :: r, m, x, h => by
    rw [hearL] at h
    split at h
    · rcases List.mem_cons.1 h with rfl | h
      · exact .inr (by simp)
      · rcases hearL_mem r m x h with h | h
        · exact .inl h
        · exact .inr (by simp [h])
    · split at h
      · split at h
        · rcases List.mem_cons.1 h with h | h
          · exact .inl h
          · exact .inr (by simp [h])
        · exact .inr h
      · rcases List.mem_cons.1 h with h | h
        · exact .inl h
        · exact .inr h

theorem hearL_rise : ∀ (ms : List Mem) (m : Mem), Rise ms → Rise (hearL ms m)
  | [], m, _ => by simp [hearL]
  | x :: r, m, h => by
    have hx := List.pairwise_cons.1 h
    rw [hearL]
    split
    · rename_i hlt
      refine List.pairwise_cons.2 ⟨fun y hy => ?_, hearL_rise r m hx.2⟩
      rcases hearL_mem r m y hy with rfl | hy
      · exact (cmpI_lt _ _).1 hlt
      · exact hx.1 y hy
    · rename_i hlt
      split
      · rename_i he
        have hn : x.name = m.name := (cmpI_eq _ _).1 he
        split
        · exact List.pairwise_cons.2 ⟨fun y hy => by rw [← hn]; exact hx.1 y hy, hx.2⟩
        · exact h
      · rename_i he
        have hg : less m.name x.name = true := (cmpI_gt _ _).1 (by omega)
        refine List.pairwise_cons.2 ⟨fun y hy => ?_, h⟩
        rcases List.mem_cons.1 hy with rfl | hy
        · exact hg
        · exact less_trans hg (hx.1 y hy)

theorem hearL_len : ∀ (ms : List Mem) (m : Mem), ms.length ≤ (hearL ms m).length ∧ (hearL ms m).length ≤ ms.length + 1
  | [], m => by simp [hearL]
  | x :: r, m => by
    have := hearL_len r m
    rw [hearL]
    split
    · simp; omega
    · split
      · split <;> simp
      · simp

/-- All of a second list is heard, one by one. -/
def joinL (a b : List Mem) : List Mem := b.foldl hearL a

theorem joinL_rise : ∀ (b a : List Mem), Rise a → Rise (joinL a b)
  | [], _, h => h
  | m :: r, a, h => joinL_rise r (hearL a m) (hearL_rise a m h)
theorem joinL_len : ∀ (b a : List Mem), (joinL a b).length ≤ a.length + b.length
  | [], _ => by simp [joinL]
  | m :: r, a => by
    have h1 := joinL_len r (hearL a m)
    have h2 := hearL_len a m
    simp only [joinL, List.foldl_cons, List.length_cons] at *
    omega

theorem at_any (ms : List Mem) (hr : Rise ms) (nm : ByteArray) : ∃ p f, At ms nm p f := by
  induction ms with
  | nil => exact ⟨0, false, by simp, fun j h => by omega, fun j h h2 => by simp at h2, by simp⟩
  | cons x r ih =>
    have hx := List.pairwise_cons.1 hr
    by_cases hlt : cmpI x.name nm < 0
    · obtain ⟨p, f, h⟩ := ih hx.2
      refine ⟨p + 1, f, by have := h.le; simpa using this, fun j hj => ?_, fun j hj hl => ?_, by have := h.is; simpa using this⟩
      · cases j with
        | zero => simpa using hlt
        | succ j => have := h.lo j (by omega); simpa using this
      · cases j with
        | zero => omega
        | succ j => have := h.hi j (by omega) (by simpa using hl); simpa using this
    · refine ⟨0, decide (cmpI x.name nm = 0), by simp, fun j hj => by omega, fun j _ hl => ?_, by simp⟩
      apply Int.not_lt.1
      intro hq
      have := rise_mono hr nm 0 j (by omega) hl hq
      simp at this
      omega

theorem at_uniq {ms : List Mem} {nm : ByteArray} {p q : Nat} {f e : Bool} (h : At ms nm p f) (k : At ms nm q e) : p = q ∧ f = e := by
  have hpq : p = q := by
    rcases Nat.lt_trichotomy p q with hlt | rfl | hlt
    · have h1 := k.lo p hlt
      have h2 := h.hi p (Nat.le_refl _) (by have := k.le; omega)
      omega
    · rfl
    · have h1 := h.lo q hlt
      have h2 := k.hi q (Nat.le_refl _) (by have := h.le; omega)
      omega
  subst hpq
  refine ⟨rfl, ?_⟩
  rw [Bool.eq_iff_iff, h.is, k.is]

theorem ns_hear {ms : List Mem} {m : Mem} (h : ∀ m ∈ ms, m.name.size ≤ maxLen) (hm : m.name.size ≤ maxLen) : ∀ x ∈ hearL ms m, x.name.size ≤ maxLen := by
  intro x hx
  rcases hearL_mem ms m x hx with rfl | hx
  · exact hm
  · exact h x hx
theorem ns_join : ∀ (b a : List Mem), (∀ m ∈ a, m.name.size ≤ maxLen) → (∀ m ∈ b, m.name.size ≤ maxLen) → ∀ x ∈ joinL a b, x.name.size ≤ maxLen
  | [], _, ha, _ => ha
  | m :: r, a, ha, hb => ns_join r (hearL a m) (ns_hear ha (hb m (by simp))) (fun x hx => hb x (by simp [hx]))

theorem joinL_take (a b : List Mem) (j : Nat) (hj : j < b.length) : joinL a (b.take (j + 1)) = hearL (joinL a (b.take j)) (b.getD j dm) := by
  have e : b.getD j dm = b[j] := by simp [List.getD, List.getElem?_eq_getElem hj]
  rw [e, List.take_succ_eq_append_getElem hj, joinL, List.foldl_append, joinL]
  rfl

theorem hearL_last : ∀ (a : List Mem) (m : Mem), (∀ x ∈ a, less x.name m.name = true) → hearL a m = a ++ [m]
  | [], _, _ => rfl
  | x :: r, m, h => by
    rw [hearL, if_pos ((cmpI_lt _ _).2 (h x (by simp))), hearL_last r m (fun y hy => h y (by simp [hy]))]
    rfl
theorem joinL_app : ∀ (b a : List Mem), Rise (a ++ b) → joinL a b = a ++ b
  | [], a, _ => by simp [joinL]
  | m :: r, a, h => by
    have h1 : hearL a m = a ++ [m] := hearL_last a m fun x hx => (List.pairwise_append.1 h).2.2 x hx m (by simp)
    have h2 := joinL_app r (a ++ [m]) (by simpa using h)
    simp only [joinL, List.foldl_cons, h1] at h2 ⊢
    rw [h2]; simp
theorem joinL_nil (b : List Mem) (h : Rise b) : joinL [] b = b := joinL_app b [] h

theorem oneE_nn (nm : ByteArray) (st lf ad : Int) : 0 ≤ oneE nm st lf ad := by unfold oneE; (repeat' split) <;> omega
theorem chk_zero {ms : List Mem} (h : chk ms = 0) : ms.length ≤ 20 ∧ Rise ms ∧ firstE ms = 0 := by
  unfold chk at h
  split at h
  · omega
  · split at h
    · rename_i h1 h2
      split at h
      · rename_i h3
        exact ⟨by omega, rise_of ms h3, h2⟩
      · omega
    · rename_i h1 h2; exact absurd h h2

def chkTwo (a b : List Mem) : Int := if chk a = 0 then chk b else chk a

/-- What is known behind k pools. -/
def stg (a b : List Mem) (k : Nat) : List Mem := if k = 0 then [] else if k = 1 then a else joinL a b

/-- B3: Join's errno. -/
def joinE (a b : List Mem) : Int := if chkTwo a b = 0 then (if 20 < (joinL a b).length then 2 else 0) else chkTwo a b

theorem rises_allO (ms : List Mem) (h : ∀ j, j + 1 < ms.length → cmpI (ms.getD j dm).name (ms.getD (j + 1) dm).name < 0) : risesB ms = true := rises_all ms fun j hj => (cmpI_lt _ _).1 (h j hj)
theorem rises_getO (ms : List Mem) (h : risesB ms = true) : ∀ j, j + 1 < ms.length → cmpI (ms.getD j dm).name (ms.getD (j + 1) dm).name < 0 := fun j hj => (cmpI_lt _ _).2 (rises_get ms h j hj)
theorem chk_r (ms : List Mem) (hn : ms.length ≤ 20) (hz : ∀ j, j < ms.length → (ms.getD j dm).e = 0) : chk ms = if risesB ms = true then 0 else 4 := by
  rw [chk, if_neg (by omega), firstE_zero ms hz, if_pos rfl]
theorem chk_nil : chk [] = 0 := rfl

end Go.Proofs.YtignmeaeibaejaaGreat

/- The first member of a name, and who is out: plain. -/
namespace Go.Proofs.YtignmeaeibaejaaGreat
open Go.RowKit

/-- The first member of a name. -/
def fstM (ms : List Mem) (t : ByteArray) : Option Mem := ms.find? fun m => decide (m.name = t)
def mOf (ms : List Mem) (t : ByteArray) : Mem := (fstM ms t).getD dm
def outB (ms : List Mem) (t : ByteArray) : Bool := decide ((mOf ms t).state = 3) || decide ((mOf ms t).state = 4)
theorem fstM_none {ms : List Mem} {t : ByteArray} (h : ∀ j, j < ms.length → (ms.getD j dm).name ≠ t) : fstM ms t = none := by
  unfold fstM
  rw [List.find?_eq_none]
  intro x hx
  obtain ⟨j, hj, rfl⟩ := List.getElem_of_mem hx
  have := h j hj
  rw [show ms.getD j dm = ms[j] by simp [List.getD, List.getElem?_eq_getElem hj]] at this
  simpa using this
theorem fstM_some {ms : List Mem} {t : ByteArray} {k : Nat} (hk : k < ms.length) (h1 : ∀ j, j < k → (ms.getD j dm).name ≠ t) (h2 : (ms.getD k dm).name = t) : fstM ms t = some (ms.getD k dm) := by
  unfold fstM
  rw [show ms.getD k dm = ms[k] by simp [List.getD, List.getElem?_eq_getElem hk]] at h2 ⊢
  rw [List.find?_eq_some_iff_getElem]
  refine ⟨by simpa using h2, k, hk, rfl, fun j hj => ?_⟩
  have := h1 j hj
  rw [show ms.getD j dm = ms[j]'(by omega) by simp [List.getD, List.getElem?_eq_getElem (show j < ms.length by omega)]] at this
  simpa using this
theorem fstM_mem {ms : List Mem} {t : ByteArray} {m : Mem} (h : fstM ms t = some m) : m ∈ ms ∧ m.name = t := by
  unfold fstM at h
  exact ⟨List.mem_of_find?_eq_some h, by simpa using List.find?_some h⟩

end Go.Proofs.YtignmeaeibaejaaGreat

/- Names and their labels: texts cut at their dots. -/
namespace Go.Proofs.YtignmeaeibaejaaGreat
open Go.RowKit

/-- A text's parts between its dots. -/
def spl : List UInt8 → List (List UInt8)
  | [] => [[]]
  | c :: r => if c = 46 then [] :: spl r else match spl r with
    | [] => [[c]]
    | x :: xs => (c :: x) :: xs
/-- Parts with dots between them. -/
def jn : List (List UInt8) → List UInt8
  | [] => []
  | [x] => x
  | x :: y :: r => x ++ 46 :: jn (y :: r)

theorem spl_ne : ∀ l, spl l ≠ []
  | [] => by simp [spl]
  | c :: r => by
    unfold spl
    split
    · simp
    · split <;> simp
theorem spl_dot (r : List UInt8) : spl (46 :: r) = [] :: spl r := by rw [spl, if_pos rfl]
theorem spl_cons {c : UInt8} (h : c ≠ 46) {r x : List UInt8} {xs : List (List UInt8)} (hr : spl r = x :: xs) : spl (c :: r) = (c :: x) :: xs := by
  rw [spl, if_neg h, hr]
theorem spl_app : ∀ (a b : List UInt8), 46 ∉ a → spl (a ++ 46 :: b) = a :: spl b
  | [], b, _ => spl_dot b
  | c :: a, b, h => by
    have h1 : c ≠ 46 := fun e => h (by rw [e]; exact List.mem_cons_self)
    have h2 : 46 ∉ a := fun e => h (List.mem_cons_of_mem _ e)
    rw [List.cons_append]
    exact spl_cons h1 (spl_app a b h2)
theorem spl_none : ∀ (a : List UInt8), 46 ∉ a → spl a = [a]
  | [], _ => rfl
  | c :: a, h => by
    have h1 : c ≠ 46 := fun e => h (by rw [e]; exact List.mem_cons_self)
    have h2 : 46 ∉ a := fun e => h (List.mem_cons_of_mem _ e)
    exact spl_cons h1 (spl_none a h2)
theorem spl_len : ∀ (l : List UInt8), (spl l).length = l.count 46 + 1
  | [] => rfl
  | c :: r => by
    have ih := spl_len r
    by_cases h : c = 46
    · subst h
      rw [spl_dot, List.length_cons, ih, List.count_cons_self]
    · obtain ⟨x, xs, hr⟩ := List.exists_cons_of_ne_nil (spl_ne r)
      rw [spl_cons h hr, List.length_cons, List.count_cons_of_ne h]
      rw [hr, List.length_cons] at ih
      exact ih
theorem spl_free : ∀ (l : List UInt8), ∀ x ∈ spl l, 46 ∉ x
  | [], x, hx => by simp [spl] at hx; subst hx; simp
  | c :: r, x, hx => by
    have ih := spl_free r
    by_cases h : c = 46
    · subst h
      rw [spl_dot] at hx
      rcases List.mem_cons.1 hx with rfl | h2
      · simp
      · exact ih x h2
    · obtain ⟨y, ys, hr⟩ := List.exists_cons_of_ne_nil (spl_ne r)
      rw [spl_cons h hr] at hx
      rcases List.mem_cons.1 hx with rfl | h2
      · have := ih y (by rw [hr]; exact List.mem_cons_self)
        intro hm
        rcases List.mem_cons.1 hm with e | e
        · exact h e.symm
        · exact this e
      · exact ih x (by rw [hr]; exact List.mem_cons_of_mem _ h2)
theorem jn_cons (c : UInt8) (x : List UInt8) (xs : List (List UInt8)) : jn ((c :: x) :: xs) = c :: jn (x :: xs) := by
  cases xs <;> rfl
theorem jn_spl : ∀ (l : List UInt8), jn (spl l) = l
  | [] => rfl
  | c :: r => by
    have ih := jn_spl r
    obtain ⟨y, ys, hr⟩ := List.exists_cons_of_ne_nil (spl_ne r)
    by_cases h : c = 46
    · subst h
      rw [spl_dot, hr]
      rw [hr] at ih
      show [] ++ 46 :: jn (y :: ys) = _
      rw [ih]; rfl
    · rw [spl_cons h hr, jn_cons, ← hr, ih]
theorem spl_jn : ∀ (xs : List (List UInt8)), xs ≠ [] → (∀ x ∈ xs, 46 ∉ x) → spl (jn xs) = xs
  | [], h, _ => absurd rfl h
  | [x], _, h => spl_none x (h x List.mem_cons_self)
  | x :: y :: r, _, h => by
    show spl (x ++ 46 :: jn (y :: r)) = _
    rw [spl_app _ _ (h x List.mem_cons_self), spl_jn (y :: r) (by simp) (fun z hz => h z (List.mem_cons_of_mem _ hz))]

theorem ix_none : ∀ {l : List UInt8}, Lib.indexByte l 46 = -1 → 46 ∉ l
  | [], _ => by simp
  | c :: r, h => by
    unfold Lib.indexByte at h
    split at h
    · omega
    · rename_i hc
      split at h
      · rename_i h2
        intro hm
        rcases List.mem_cons.1 hm with e | e
        · subst e; simp at hc
        · exact ix_none (by simpa using h2) e
      · have := Lib.indexByte_ge r 46; omega
theorem ix_some : ∀ {l : List UInt8} {i : Nat}, Lib.indexByte l 46 = (i : Int) → i < l.length ∧ l = l.take i ++ 46 :: l.drop (i + 1) ∧ 46 ∉ l.take i
  | [], i, h => by unfold Lib.indexByte at h; omega
  | c :: r, i, h => by
    unfold Lib.indexByte at h
    split at h
    · rename_i hc
      have : i = 0 := by omega
      subst this
      have : c = 46 := by simpa using hc
      subst this
      simp
    · rename_i hc
      split at h
      · omega
      · rename_i h2
        have hg := Lib.indexByte_ge r 46
        obtain ⟨j, rfl⟩ : ∃ j, i = j + 1 := ⟨i - 1, by have : Lib.indexByte r 46 ≠ -1 := by simpa using h2
                                                       omega⟩
        obtain ⟨h3, h4, h5⟩ := ix_some (l := r) (i := j) (by omega)
        refine ⟨by simpa using h3, ?_, ?_⟩
        · simp only [List.take_succ_cons, List.drop_succ_cons, List.cons_append]
          rw [← h4]
        · simp only [List.take_succ_cons]
          intro hm
          rcases List.mem_cons.1 hm with e | e
          · subst e; simp at hc
          · exact h5 e

/-- A list of bytes as a text. -/
def mk (l : List UInt8) : ByteArray := ⟨l.toArray⟩
theorem mk_data (s : ByteArray) : mk s.data.toList = s := by cases s; simp [mk]
theorem data_mk (l : List UInt8) : (mk l).data.toList = l := by simp [mk]
theorem mk_size (l : List UInt8) : (mk l).size = l.length := by simp [mk, ByteArray.size]
def labL (l : List UInt8) : Bool := labB (mk l)
theorem labL_free {l : List UInt8} (h : labL l = true) : 46 ∉ l := fun hm => by
  unfold labL labB at h
  simp only [Bool.and_eq_true, List.all_eq_true, data_mk] at h
  have := h.2 46 hm
  revert this; decide
theorem labL_size {l : List UInt8} (h : labL l = true) : 1 ≤ l.length ∧ l.length ≤ 30 := by
  unfold labL labB at h
  simp only [Bool.and_eq_true, decide_eq_true_eq, mk_size] at h
  exact h.1

/-- What is wrong with a name. -/
def chkN (s : ByteArray) : Int :=
  if s.size = 0 then 0 else if (spl s.data.toList).all labL = false then 1 else if 8 < (spl s.data.toList).length ∨ 120 < s.size then 2 else 0

end Go.Proofs.YtignmeaeibaejaaGreat

/- strings.Cut at a dot; whether a name has a label of some kind; what is wrong with a name. -/
namespace Go.Proofs.YtignmeaeibaejaaGreat
open Go.RowKit

theorem belowN {B : Nat} {w w1 : World} (h : Below B w w1) (m : Nat) : Below B w (w1.drewN m) := ⟨h.os, h.tape, h.output, h.size, h.block⟩
theorem ext_to (s : ByteArray) (i : Nat) : s.extract 0 i = mk (s.data.toList.take i) := by
  rw [← mk_data (s.extract 0 i), Lib.extract_from_zero]
theorem ext_from (s : ByteArray) (i : Nat) : s.extract i s.size = mk (s.data.toList.drop i) := by
  rw [← mk_data (s.extract i s.size), Lib.extract_to_end]

set_option maxHeartbeats 800000 in
theorem scut_none (s : ByteArray) (w : World) (h : Lib.indexByte s.data.toList 46 = -1) :
    Calls Tryz.prog 99 #[.string s, .string ⟨#[46]⟩] w fun e w' => e = .returned (.tuple #[.string s, .string ⟨#[]⟩, .bool false]) ∧ w' = w := by
  go_enter Tryz.func99, Tryz.ntmps99
  go_wp2_with (go_at_call 100; refine (Tryz.stringslite_Index_one s 46 _).mono ?_; rintro e w' ⟨rfl, rfl⟩; rw [h])
  go_ret3
  exact ⟨rfl, rfl⟩

set_option maxHeartbeats 1600000 in
theorem scut_some (s : ByteArray) (i : Nat) (w : World) (h : Lib.indexByte s.data.toList 46 = (i : Int)) (hs : s.size ≤ maxLen) :
    Calls Tryz.prog 99 #[.string s, .string ⟨#[46]⟩] w fun e w' => e = .returned (.tuple #[.string (s.extract 0 i), .string (s.extract (i + 1) s.size), .bool true]) ∧ ∃ n, w' = w.drewN n := by
  have hi : i < s.size := by have := (ix_some h).1; simpa using this
  unfold maxLen at hs
  have h0 : ((i : Int)).toNat = i := by omega
  have h1 : IntKind.i64.wrap ((i : Int) + 1) = ((i + 1 : Nat) : Int) := by rw [IntKind.wrap_i64]; omega
  have h2 : (((i + 1 : Nat) : Int)).toNat = i + 1 := by omega
  have h3 : ((s.size : Int)).toNat = s.size := by omega
  go_enter Tryz.func99, Tryz.ntmps99
  go_wp2_with (go_at_call 100; refine (Tryz.stringslite_Index_one s 46 _).mono ?_; rintro e w' ⟨rfl, rfl⟩; rw [h])
  go_quiet (fail)
  go_wp2_with fail
  go_ret3
  exact ⟨rfl, ⟨_, rfl⟩⟩

set_option maxHeartbeats 800000 in
theorem cut_none (s : ByteArray) (w : World) (h : Lib.indexByte s.data.toList 46 = -1) :
    Calls Tryz.prog 83 #[.string s, .string ⟨#[46]⟩] w fun e w' => e = .returned (.tuple #[.string s, .string ⟨#[]⟩, .bool false]) ∧ Below w.heap.size w w' := by
  go_enter Tryz.func83, Tryz.ntmps83
  go_wp2_with (go_at_call 99; refine (scut_none s _ h).mono ?_; rintro e w' ⟨rfl, rfl⟩)
  go_ret3
  exact ⟨rfl, Below.refl _ _⟩

set_option maxHeartbeats 800000 in
theorem cut_some (s : ByteArray) (i : Nat) (w : World) (h : Lib.indexByte s.data.toList 46 = (i : Int)) (hs : s.size ≤ maxLen) :
    Calls Tryz.prog 83 #[.string s, .string ⟨#[46]⟩] w fun e w' => e = .returned (.tuple #[.string (s.extract 0 i), .string (s.extract (i + 1) s.size), .bool true]) ∧ Below w.heap.size w w' := by
  go_enter Tryz.func83, Tryz.ntmps83
  go_wp2_with (go_at_call 99; refine (scut_some s i _ h hs).mono ?_; rintro e w' ⟨rfl, n, rfl⟩)
  go_ret3
  exact ⟨rfl, belowN (Below.refl _ _) _⟩

set_option maxHeartbeats 400000 in
theorem isNone_any (s : ByteArray) (w : World) (hs : s.size ≤ maxLen) :
    Calls Tryz.prog 67 #[.string s] w fun e w' => e = .returned (.bool (!labB s)) ∧ w' = w := by
  go_enter Tryz.func67, Tryz.ntmps67
  go_wp2_with (go_at_call 21; refine (label_any _ _ hs).mono ?_; rintro e w' ⟨rfl, rfl⟩)
  go_ret
  exact ⟨rfl, rfl⟩

def szOf : Value → Nat
  | .string r => r.size
  | _ => 0
def tOf : Value → Nat
  | .bool true => 1
  | _ => 0

theorem sz_end (r : ByteArray) : szOf (.string ⟨#[]⟩) + tOf (.bool false) < szOf (.string r) + tOf (.bool true) := by
  show 0 + 0 < r.size + 1
  omega

set_option maxHeartbeats 1600000 in
theorem hasLabel_any (s : ByteArray) (w : World) (hs : s.size ≤ maxLen) :
    Calls Tryz.prog 68 #[.string s, .func (.func 67) #[] #[]] w fun e w' => e = .returned (.bool (!(spl s.data.toList).all labL)) ∧ Below w.heap.size w w' := by
  have H0 : Hid ((spl s.data.toList).all labL = (spl s.data.toList).all labL) := rfl
  have HS : Hid (∀ r : ByteArray, r = s → r.size ≤ maxLen) := fun r h => by rw [h]; exact hs
  have HS0 := HS.out s rfl
  generalize hres : (spl s.data.toList).all labL = res at *
  have H1 : Hid (res = (spl s.data.toList).all labL) := hres.symm
  clear hres H0 HS hs
  go_enter Tryz.func68, Tryz.ntmps68
  go_wp2_with fail
  go_loopw [0, 5] (fun nm mo wr => ∃ r : ByteArray, nm = .string r ∧ r.size ≤ maxLen ∧ ((mo = .bool true ∧ Hid (res = (spl r.data.toList).all labL)) ∨ (mo = .bool false ∧ Hid (res = true))) ∧ Below w.heap.size w wr) (fun nm mo _ => szOf nm + tOf mo)
  case atStart => exact ⟨s, rfl, HS0, .inl ⟨rfl, H1⟩, Below.refl _ _⟩
  case round =>
    obtain ⟨r, rfl, hr, hmo, hbl⟩ := hrel
    have HB : Hid (Below w.heap.size w wr) := hbl
    clear hbl
    rcases hmo with ⟨rfl, hres⟩ | ⟨rfl, hres⟩
    · have hge := Lib.indexByte_ge r.data.toList 46
      by_cases hi : Lib.indexByte r.data.toList 46 = -1
      · have hL : res = labB r := by rw [hres.out, spl_none _ (ix_none hi)]; simp [labL, mk_data]
        have HC : Hid (∀ W, Calls Tryz.prog 83 #[.string r, .string ⟨#[46]⟩] W fun e w' => e = .returned (.tuple #[.string r, .string ⟨#[]⟩, .bool false]) ∧ Below W.heap.size W w') := fun W => cut_none r W hi
        clear hi hge hres
        rcases hb : labB r with _ | _
        · rw [hb] at hL
          have HL : Hid (res = false) := hL
          clear hL
          go_wp2_with (first | (go_at_call 83; refine (HC.out _).mono ?_; rintro e w1 ⟨rfl, hb1⟩) | (go_at_call 67; refine (isNone_any r _ hr).mono ?_; rintro e w2 ⟨rfl, rfl⟩; rw [hb]))
          go_ret
          exact ⟨ret_bool (by rw [HL.out]; rfl), HB.out.trans (hb1.mono HB.out.size)⟩
        · rw [hb] at hL
          have HL : Hid (res = true) := hL
          clear hL
          go_wp2_with (first | (go_at_call 83; refine (HC.out _).mono ?_; rintro e w1 ⟨rfl, hb1⟩) | (go_at_call 67; refine (isNone_any r _ hr).mono ?_; rintro e w2 ⟨rfl, rfl⟩; rw [hb]))
          exact ⟨⟨⟨#[]⟩, rfl, by decide, .inr ⟨rfl, HL⟩, HB.out.trans (hb1.mono HB.out.size)⟩, sz_end r⟩
      · obtain ⟨i, hi2⟩ : ∃ i : Nat, Lib.indexByte r.data.toList 46 = (i : Int) := ⟨(Lib.indexByte r.data.toList 46).toNat, by omega⟩
        obtain ⟨h1, h2, h3⟩ := ix_some hi2
        have hlt : i < r.size := by simpa using h1
        have hL : res = (labB (r.extract 0 i) && (spl (r.extract (i + 1) r.size).data.toList).all labL) := by
          rw [hres.out, ext_to, ext_from, data_mk]
          conv => lhs; rw [h2]
          rw [spl_app _ _ h3, List.all_cons]; rfl
        have hz1 : (r.extract 0 i).size ≤ maxLen := by rw [ext_to, mk_size, List.length_take]; simp; unfold maxLen at *; omega
        have hz2 : (r.extract (i + 1) r.size).size ≤ maxLen := by rw [ext_from, mk_size, List.length_drop]; simp; unfold maxLen at *; omega
        have hz3 : (r.extract (i + 1) r.size).size < r.size := by rw [ext_from, mk_size, List.length_drop]; simp; omega
        have HC : Hid (∀ W, Calls Tryz.prog 83 #[.string r, .string ⟨#[46]⟩] W fun e w' => e = .returned (.tuple #[.string (r.extract 0 i), .string (r.extract (i + 1) r.size), .bool true]) ∧ Below W.heap.size W w') := fun W => cut_some r i W hi2 hr
        clear hi hi2 hge hres h1 h2 h3
        generalize r.extract 0 i = la at *
        generalize r.extract (i + 1) r.size = re at *
        rcases hb : labB la with _ | _
        · rw [hb] at hL
          have HL : Hid (res = false) := hL
          clear hL
          go_wp2_with (first | (go_at_call 83; refine (HC.out _).mono ?_; rintro e w1 ⟨rfl, hb1⟩) | (go_at_call 67; refine (isNone_any la _ hz1).mono ?_; rintro e w2 ⟨rfl, rfl⟩; rw [hb]))
          go_ret
          exact ⟨ret_bool (by rw [HL.out]; rfl), HB.out.trans (hb1.mono HB.out.size)⟩
        · rw [hb, Bool.true_and] at hL
          have HL : Hid (res = (spl re.data.toList).all labL) := hL
          clear hL
          go_wp2_with (first | (go_at_call 83; refine (HC.out _).mono ?_; rintro e w1 ⟨rfl, hb1⟩) | (go_at_call 67; refine (isNone_any la _ hz1).mono ?_; rintro e w2 ⟨rfl, rfl⟩; rw [hb]))
          exact ⟨⟨re, rfl, hz2, .inl ⟨rfl, HL⟩, HB.out.trans (hb1.mono HB.out.size)⟩, by simp [szOf, tOf]; omega⟩
    · go_wp2_with fail
      go_ret
      exact ⟨ret_bool (by rw [hres.out]; rfl), HB.out⟩

end Go.Proofs.YtignmeaeibaejaaGreat

/- dns.Check. -/
namespace Go.Proofs.YtignmeaeibaejaaGreat
open Go.RowKit

theorem nempty {s : ByteArray} (h : s.size ≠ 0) : (s.toList == []) = false ∧ ¬ s.toList = [] := by
  have h3 : ¬ s.toList = [] := fun e => h (by
    rw [Lib.toList_data] at e
    have : s.data.toList.length = 0 := by rw [e]; rfl
    simpa using this)
  exact ⟨by simpa using h3, h3⟩
theorem isempty {s : ByteArray} (h : s.size = 0) : s = ⟨#[]⟩ := by
  cases s with
  | mk a => simp [ByteArray.size] at h; subst h; rfl

set_option maxHeartbeats 1600000 in
theorem dnsCheck_any (s : ByteArray) (w : World) (hs : s.size ≤ maxLen) :
    Calls Tryz.prog 46 #[.string s] w fun e w' => e = .returned (.int .i64 (chkN s)) ∧ Below w.heap.size w w' := by
  by_cases h0 : s.size = 0
  · have e0 : chkN s = 0 := by unfold chkN; rw [if_pos h0]
    rw [e0]
    have := isempty h0
    subst this
    clear e0 h0 hs
    go_enter Tryz.func46, Tryz.ntmps46
    go_wp2_with fail
    go_ret
    exact ⟨rfl, Below.refl _ _⟩
  · obtain ⟨n1, n2⟩ := nempty h0
    have HL : Hid (∀ W, Calls Tryz.prog 68 #[.string s, .func (.func 67) #[] #[]] W fun e w' => e = .returned (.bool (!(spl s.data.toList).all labL)) ∧ Below W.heap.size W w') := fun W => hasLabel_any s W hs
    have HE : Hid (chkN s = if (spl s.data.toList).all labL = false then 1 else if 8 < (spl s.data.toList).length ∨ 120 < s.size then 2 else 0) := (show chkN s = _ by unfold chkN; rw [if_neg h0])
    have hlen := spl_len s.data.toList
    unfold maxLen at hs
    clear h0
    generalize chkN s = r at *
    cases hall : (spl s.data.toList).all labL with
    | false =>
      have HR : Hid (r = 1) := (show r = 1 by rw [HE.out, if_pos hall])
      rw [hall] at HL
      clear HE
      go_enter Tryz.func46, Tryz.ntmps46
      go_wp2_with (go_at_call 68; refine (HL.out _).mono ?_; rintro e w1 ⟨rfl, hb1⟩)
      go_ret
      exact ⟨ret_int HR.out.symm, hb1⟩
    | true =>
      rw [hall] at HL
      have HE2 : Hid (r = if 8 < s.data.toList.count 46 + 1 ∨ 120 < s.size then 2 else 0) := (show r = _ by rw [HE.out, hall, hlen]; rfl)
      have hcl : s.data.toList.count 46 ≤ s.size := by have := List.count_le_length (a := (46 : UInt8)) (l := s.data.toList); simpa using this
      clear HE hlen hall
      have HCT : Hid (∀ W, Calls Tryz.prog 69 #[.string s, .string ⟨#[46]⟩] W fun e w' => e = .returned (.int .i64 ((s.data.toList.count 46 : Nat) : Int)) ∧ w' = W) := fun W => Tryz.strings_Count_one s 46 W
      generalize s.data.toList.count 46 = cn at *
      by_cases h1 : 8 ≤ cn
      · have HR : Hid (r = 2) := (show r = 2 by rw [HE2.out, if_pos (.inl (by omega))])
        clear HE2
        have h2 : decide (8 ≤ (cn : Int)) = true := by simp; omega
        go_enter Tryz.func46, Tryz.ntmps46
        go_wp2_with (first | (go_at_call 68; refine (HL.out _).mono ?_; rintro e w1 ⟨rfl, hb1⟩) | (go_at_call 69; refine (HCT.out _).mono ?_; rintro e w2 ⟨rfl, rfl⟩))
        go_ret
        exact ⟨ret_int HR.out.symm, hb1⟩
      · have h2 : decide (8 ≤ (cn : Int)) = false := by simp; omega
        by_cases h3 : 120 < s.size
        · have HR : Hid (r = 2) := (show r = 2 by rw [HE2.out, if_pos (.inr h3)])
          clear HE2
          have h4 : decide (120 < (s.size : Int)) = true := by simp; omega
          go_enter Tryz.func46, Tryz.ntmps46
          go_wp2_with (first | (go_at_call 68; refine (HL.out _).mono ?_; rintro e w1 ⟨rfl, hb1⟩) | (go_at_call 69; refine (HCT.out _).mono ?_; rintro e w2 ⟨rfl, rfl⟩))
          go_ret
          exact ⟨ret_int HR.out.symm, hb1⟩
        · have HR : Hid (r = 0) := (show r = 0 by rw [HE2.out, if_neg (by omega)])
          clear HE2
          have h4 : decide (120 < (s.size : Int)) = false := by simp; omega
          go_enter Tryz.func46, Tryz.ntmps46
          go_wp2_with (first | (go_at_call 68; refine (HL.out _).mono ?_; rintro e w1 ⟨rfl, hb1⟩) | (go_at_call 69; refine (HCT.out _).mono ?_; rintro e w2 ⟨rfl, rfl⟩))
          go_ret
          exact ⟨ret_int HR.out.symm, hb1⟩

end Go.Proofs.YtignmeaeibaejaaGreat

