
/- Lists of members that a call owns: Insert and learn. -/
import Derived.Test.YtonbaiaoelegaacE
import Derived.Test.YtonbaiaoelegaacF
import Derived.Deep.RegionWith
namespace Go.Proofs.Ytonbaiaoelegaac
open Go.RowKit

def Mem.cs (m : Mem) : List Value := [.string m.name, .int .i64 m.state, .int .i64 m.life, .int .i64 m.addr, .bool m.server]
def fl (ms : List Mem) : List Value := ms.flatMap Mem.cs

theorem cs_len (m : Mem) : m.cs.length = 5 := rfl
theorem fl_cons (m : Mem) (r : List Mem) : fl (m :: r) = m.cs ++ fl r := by simp [fl]
theorem fl_append (a b : List Mem) : fl (a ++ b) = fl a ++ fl b := by simp [fl]
theorem fl_len : ∀ ms : List Mem, (fl ms).length = ms.length * 5
  | [] => rfl
  | m :: r => by rw [fl_cons, List.length_append, fl_len r, cs_len, List.length_cons]; omega
theorem fl_take : ∀ (ms : List Mem) (i : Nat), (fl ms).take (i * 5) = fl (ms.take i)
  | [], i => by simp [fl]
  | m :: r, 0 => by simp [fl]
  | m :: r, i + 1 => by
    rw [fl_cons, List.take_succ_cons, fl_cons, show (i + 1) * 5 = m.cs.length + i * 5 by rw [cs_len]; omega, List.take_length_add_append, fl_take r i]
theorem fl_drop : ∀ (ms : List Mem) (i : Nat), (fl ms).drop (i * 5) = fl (ms.drop i)
  | [], i => by simp [fl]
  | m :: r, 0 => by simp
  | m :: r, i + 1 => by
    rw [fl_cons, List.drop_succ_cons, show (i + 1) * 5 = m.cs.length + i * 5 by rw [cs_len]; omega, List.drop_length_add_append, fl_drop r i]
theorem cs_one (m : Mem) : ∀ v ∈ m.cs, v.oneCell' = true := by
  intro v hv; simp [Mem.cs] at hv; rcases hv with rfl | rfl | rfl | rfl | rfl <;> rfl
theorem fl_one (ms : List Mem) : ∀ v ∈ fl ms, v.oneCell' = true := by
  intro v hv
  obtain ⟨m, _, h⟩ := List.mem_flatMap.1 hv
  exact cs_one m v h
theorem fl_get (ms : List Mem) (j : Nat) (hj : j < ms.length) (t : Nat) (ht : t < 5) : (fl ms)[j * 5 + t]? = (ms.getD j dm).cs[t]? := by
  induction ms generalizing j with
  | nil => simp at hj
  | cons m r ih =>
    rw [fl_cons]
    cases j with
    | zero => rw [List.getElem?_append_left (by rw [cs_len]; omega)]; simp
    | succ j =>
      rw [List.getElem?_append_right (by rw [cs_len]; omega), cs_len, show (j + 1) * 5 + t - 5 = j * 5 + t by omega, ih j (by simpa using hj)]
      simp
theorem fl_set (ms : List Mem) (p : Nat) (hp : p < ms.length) (m : Mem) : (((((fl ms).set (p * 5) (.string m.name)).set (p * 5 + 1) (.int .i64 m.state)).set (p * 5 + 2) (.int .i64 m.life)).set (p * 5 + 3) (.int .i64 m.addr)).set (p * 5 + 4) (.bool m.server) = fl (ms.set p m) := by
  induction ms generalizing p with
  | nil => simp at hp
  | cons x r ih =>
    cases p with
    | zero => simp [fl, Mem.cs]
    | succ p =>
      have ih' := ih p (by simpa using hp)
      rw [List.set_cons_succ, fl_cons, fl_cons, ← ih']
      simp only [Nat.add_mul, Nat.one_mul]
      have e : ∀ (l : List Value) (k : Nat) (v : Value), (x.cs ++ l).set (k + 5) v = x.cs ++ l.set k v := fun l k v => by
        rw [List.set_append, if_neg (by rw [cs_len]; omega), cs_len, Nat.add_sub_cancel]
      rw [show p * 5 + 5 + 1 = (p * 5 + 1) + 5 by omega, show p * 5 + 5 + 2 = (p * 5 + 2) + 5 by omega, show p * 5 + 5 + 3 = (p * 5 + 3) + 5 by omega, show p * 5 + 5 + 4 = (p * 5 + 4) + 5 by omega]
      rw [e, e, e, e, e]

abbrev Own (base : Nat) (w : World) (v : Value) (ms : List Mem) : Prop := w.ownsRow base 24 5 v ms.length (fl ms)

theorem grown_any {w w' : World} (h : w.grownBy w' none) (row : Option Nat) : w.grownBy w' row := ⟨h.os, h.tape, h.output, h.size, fun k hk _ => h.block k hk (by simp)⟩

theorem own_of {base g G : Nat} {w : World} {cur : Array Value} {ms : List Mem} (hb : base ≤ g) (hg : w.heap[g]? = some (.cells cur 24 (0, 0))) (hs : cur.size = G * 5) (hn : ms.length ≤ G) (hG : G ≤ maxLen) (ht : cur.toList.take (ms.length * 5) = fl ms) :
    Own base w (.slice (some ⟨g, 0, none⟩) ms.length G) ms := ⟨fl_len ms, .inr ⟨g, G, cur, rfl, hb, hg, hn, hG, hs, ht⟩⟩

theorem insert_any (base i vb : Nat) (v : Value) (ms : List Mem) (m : Mem) (w : World) (hown : Own base w v ms) (hi : i ≤ ms.length) (hn : ms.length ≤ 1000) (hbase : base ≤ w.heap.size)
    (hv : w.heap[vb]? = some (.cells m.cs.toArray 24 (0, 0))) (hne : v.ownBlock ≠ some vb) :
    Calls Try.prog 71 #[v, .int .i64 i, .slice (some ⟨vb, 0, none⟩) 1 1] w fun e w' => ∃ v', e = .returned v' ∧ Own base w' v' (ms.take i ++ m :: ms.drop i) ∧ w.grownBy w' v.ownBlock := by
  have hlen : (ms.take i ++ m :: ms.drop i).length = ms.length + 1 := by simp; omega
  have hfl : fl (ms.take i ++ m :: ms.drop i) = (fl ms).take (i * 5) ++ m.cs ++ (fl ms).drop (i * 5) := by rw [fl_append, fl_cons, fl_take, fl_drop, List.append_assoc]
  by_cases hin : i = ms.length
  · subst hin
    refine (insert_end base ms.length vb v (fl ms) m.cs w hown hn hbase hv rfl (cs_one m)).mono ?_
    rintro e w' ⟨v', rfl, h1, h2⟩
    refine ⟨v', rfl, ?_, h2⟩
    have e1 : ms.take ms.length ++ m :: ms.drop ms.length = ms ++ [m] := by simp
    have e2 : fl (ms ++ [m]) = fl ms ++ m.cs := by rw [fl_append, fl_cons]; simp [fl]
    rw [e1]
    show w'.ownsRow base 24 5 v' (ms ++ [m]).length (fl (ms ++ [m]))
    rw [e2, show (ms ++ [m]).length = ms.length + 1 by simp]
    exact h1
  · rcases hown.2 with ⟨_, h0⟩ | ⟨g, c, cur, rfl, hbg, hg, hnc, hcm, hcs, htake⟩
    · omega
    · have hvb : vb ≠ g := fun e => hne (by simp [Value.ownBlock, e])
      have h1c : ∀ v ∈ cur.toList.take (ms.length * 5), v.oneCell' = true := by rw [htake]; exact fl_one ms
      have hti : cur.toList.take (i * 5) = (fl ms).take (i * 5) := by rw [← htake, List.take_take]; congr 1; omega
      have key : ∀ l : List Value, l = cur.toList.take (i * 5) ++ m.cs ++ (cur.toList.take (ms.length * 5)).drop (i * 5) → l = fl (ms.take i ++ m :: ms.drop i) := fun l hl => by rw [hl, hfl, htake, hti]
      by_cases hroom : ms.length + 1 ≤ c
      · refine (insert_room g ms.length c i vb cur m.cs w hg hcs (by omega) hroom (by unfold maxLen at hcm; omega) hvb hv rfl h1c (cs_one m)).mono ?_
        rintro e w' ⟨rfl, cur', h1, h2, h3, h4⟩
        refine ⟨_, rfl, ?_, h4⟩
        rw [← hlen]
        exact own_of hbg h1 h2 (by omega) hcm (key _ (by rw [hlen]; exact h3))
      · refine (insert_grow g ms.length c i vb cur m.cs w hg hcs (by omega) hnc (by omega) hn hv rfl h1c (cs_one m)).mono ?_
        rintro e w' ⟨G, rfl, hG1, hG2, cur', h1, h2, h3, h4⟩
        refine ⟨_, rfl, ?_, grown_any h4 _⟩
        rw [← hlen]
        exact own_of hbase h1 h2 (by omega) hG2 (key _ (by rw [hlen]; exact h3))

/-- What a call owns is a slice as any. -/
theorem Own.sl {base : Nat} {w : World} {v : Value} {ms : List Mem} (h : Own base w v ms) (hs : ∀ j, (ms.getD j dm).name.size ≤ maxLen) : Sl w v ms := by
  rcases h.2 with ⟨rfl, h0⟩ | ⟨g, c, cur, rfl, hbg, hg, hnc, hcm, hcs, htake⟩
  · exact ⟨none, 0, by rw [h0], hs, .inl (List.eq_nil_of_length_eq_zero h0)⟩
  · refine ⟨_, c, rfl, hs, .inr ⟨g, 0, rfl, (Array.getElem?_eq_some_iff.1 hg).1, fun j hj => ?_⟩⟩
    have hc : ∀ t, t < 5 → w.cell? ⟨g, 0 + j * 5 + t, none⟩ = (ms.getD j dm).cs[t]? := fun t ht => by
      rw [cellsAt hg, ← fl_get ms j hj t ht, ← htake, List.getElem?_take_of_lt (by omega)]; simp
    exact ⟨hc 0 (by omega), hc 1 (by omega), hc 2 (by omega), hc 3 (by omega), hc 4 (by omega)⟩

end Go.Proofs.Ytonbaiaoelegaac
