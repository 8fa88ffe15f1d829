
/- Hear, Join, Refute; what must be in any case. -/
import Derived.Test.YtdcekfbejjjkkaaMJ
namespace Go.Proofs.Ytdcekfbejjjkkaa
open Go.RowKit

def liveAgain (m : Mem) : Mem := ⟨m.name, 1, m.life + 1, m.addr, m.server⟩

theorem fl_set2 (ms : List Mem) (p : Nat) (hp : p < ms.length) : ((fl ms).set (p * 5 + 1) (.int .i64 1)).set (p * 5 + 2) (.int .i64 ((ms.getD p dm).life + 1)) = fl (ms.set p (liveAgain (ms.getD p dm))) := by
  induction ms generalizing p with
  | nil => simp at hp
  | cons x r ih =>
    cases p with
    | zero => simp [fl, Mem.cs, liveAgain]
    | succ p =>
      have ih' := ih p (by simpa using hp)
      rw [List.set_cons_succ, fl_cons, fl_cons, List.getD_cons_succ, ← ih']
      simp only [Nat.add_mul, Nat.one_mul]
      have e : ∀ (l : List Value) (k : Nat) (v : Value), (x.cs ++ l).set (k + 5) v = x.cs ++ l.set k v := fun l k v => by
        rw [List.set_append, if_neg (by rw [cs_len]; omega), cs_len, Nat.add_sub_cancel]
      rw [show p * 5 + 5 + 1 = (p * 5 + 1) + 5 by omega, show p * 5 + 5 + 2 = (p * 5 + 2) + 5 by omega]
      rw [e, e]

theorem own_set2 {base g c p : Nat} {W : World} {ms : List Mem} (h : Own base W (.slice (some ⟨g, 0, none⟩) ms.length c) ms) (hp : p < ms.length) :
    Own base ((W.setCell ⟨g, p * 5 + 1, none⟩ (.int .i64 1)).setCell ⟨g, p * 5 + 2, none⟩ (.int .i64 ((ms.getD p dm).life + 1))) (.slice (some ⟨g, 0, none⟩) ms.length c) (ms.set p (liveAgain (ms.getD p dm))) := by
  have h1 := World.ownsRow.stored h (p * 5 + 1) (.int .i64 1)
  have h2 := World.ownsRow.stored h1.1 (p * 5 + 2) (.int .i64 ((ms.getD p dm).life + 1))
  have e := h2.1
  rw [fl_set2 ms p hp] at e
  show World.ownsRow _ _ _ _ _ (ms.set p (liveAgain (ms.getD p dm))).length _
  rw [List.length_set]
  exact e

theorem oneE_zero {nm : ByteArray} {st lf ad : Int} (h : oneE nm st lf ad = 0) : labB nm = true ∧ (1 ≤ st ∧ st ≤ 4) ∧ (1 ≤ lf ∧ lf ≤ 1000000) ∧ (0 ≤ ad ∧ ad ≤ 4294967295) := by
  have hw : ∀ n a b : Int, within n a b = true → a ≤ n ∧ n ≤ b := fun n a b h => by simpa [within] using h
  unfold oneE at h
  split at h
  · rename_i h1
    split at h
    · rename_i h2
      split at h
      · rename_i h3
        split at h
        · rename_i h4
          exact ⟨h1, hw _ _ _ h2, hw _ _ _ h3, hw _ _ _ h4⟩
        · omega
      · omega
    · omega
  · omega
theorem firstE_mem : ∀ (ms : List Mem), firstE ms = 0 → ∀ m ∈ ms, m.e = 0
  | [], _, m, h => by simp at h
  | x :: r, h, m, hm => by
    rw [firstE] at h
    split at h
    · rename_i h1
      rcases List.mem_cons.1 hm with rfl | hm
      · exact h1
      · exact firstE_mem r h m hm
    · rename_i h1; exact absurd h h1
theorem firstE_at0 {ms : List Mem} (h : firstE ms = 0) (p : Nat) (hp : p < ms.length) : (ms.getD p dm).e = 0 := by
  have := firstE_mem ms h ms[p] (List.getElem_mem hp)
  simpa [List.getD, List.getElem?_eq_getElem hp] using this

/-- B4: what Refute answers of members that are right, and a label. -/
def refR (ms : List Mem) (p : Nat) (f : Bool) : Bool := f && (decide ((ms.getD p dm).state = 2) || decide ((ms.getD p dm).state = 3)) && !((ms.getD p dm).life == 1000000)
def refE (ms : List Mem) (p : Nat) (f : Bool) : Int := if f && (decide ((ms.getD p dm).state = 2) || decide ((ms.getD p dm).state = 3)) && ((ms.getD p dm).life == 1000000) then 3 else 0
def refL (ms : List Mem) (p : Nat) (f : Bool) : List Mem := if refR ms p f = true then ms.set p (liveAgain (ms.getD p dm)) else ms
def RefSays (ms : List Mem) (p : Nat) (f : Bool) (w : World) (e : Ending) (w' : World) : Prop :=
  ∃ v' : Value, e = .returned (.tuple #[v', .bool (refR ms p f), .int .i64 (refE ms p f)]) ∧ Below w.heap.size w w' ∧ (refE ms p f ≠ 0 → v' = .slice none 0 0) ∧ (refE ms p f = 0 → Own w.heap.size w' v' (refL ms p f))

end Go.Proofs.Ytdcekfbejjjkkaa
