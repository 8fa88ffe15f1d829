/- RU0, MK, RU1, RU2, ANM, ND0 -/
import Derived.Maps.OwnSet
import Derived.WalkKit
import Derived.Test.YtdfkpehggecbaaaGreatDoorV16
import Derived.Test.YtdfkpehggecbaaaGreatDoorV12
import Derived.Test.YtdfkpehggecbaaaGreatDoorV17
import Derived.Test.YtdfkpehggecbaaaGreatDoorV5
import Derived.Test.YtdfkpehggecbaaaGreatDoorV24
/- Names that were met, in a map: plain mathematics. -/
namespace Go.Proofs.YtdfkpehggecbaaaGreatDoor
open Go.RowKit Go.WideMaps Go.Maps

abbrev kS (s : ByteArray) : Lit := .string s.data.toList
theorem kS_key (s : ByteArray) : WideAt.IsKeyLit (kS s) := by simp [WideAt.IsKeyLit]
theorem kS_ne {a b : ByteArray} (h : a ≠ b) : kS a ≠ kS b := fun e => h (by
  have h2 : a.data.toList = b.data.toList := by injection e
  obtain ⟨⟨a⟩⟩ := a
  obtain ⟨⟨b⟩⟩ := b
  simp at h2
  rw [h2])

/-- Where each name was met last, among the first k. -/
def Dm (ns : List ByteArray) : Nat → DataW Unit
  | 0 => .map []
  | k + 1 => (Dm ns k).put (kS (ns.getD k ByteArray.empty)) (.lit (.int .i64 k))
theorem Dm_tidy (ns : List ByteArray) : ∀ k, Tidy (Dm ns k)
  | 0 => tidy_empty
  | k + 1 => (Dm_tidy ns k).put (kS_key _) _
theorem Dm_has (ns : List ByteArray) (s : ByteArray) : ∀ k, Maps.has (Dm ns k) (kS s) = true ↔ ∃ j, j < k ∧ ns.getD j ByteArray.empty = s
  | 0 => by simp [Dm, Maps.has]
  | k + 1 => by
    by_cases h : ns.getD k ByteArray.empty = s
    · subst h
      rw [Dm, has_put_same (Dm_tidy ns k).isMap (kS_key _)]
      exact ⟨fun _ => ⟨k, by omega, rfl⟩, fun _ => rfl⟩
    · rw [Dm, has_put_other (kS_ne (Ne.symm h)), Dm_has ns s k]
      constructor
      · rintro ⟨j, hj, e⟩; exact ⟨j, by omega, e⟩
      · rintro ⟨j, hj, e⟩
        by_cases hjk : j = k
        · subst hjk; exact absurd e h
        · exact ⟨j, by omega, e⟩
theorem Dm_step (ns : List ByteArray) (k : Nat) : Maps.size (Dm ns (k + 1)) = if Maps.has (Dm ns k) (kS (ns.getD k ByteArray.empty)) = true then Maps.size (Dm ns k) else Maps.size (Dm ns k) + 1 := by
  rw [Dm, size_put (Dm_tidy ns k)]
theorem Dm_size_le (ns : List ByteArray) : ∀ k, Maps.size (Dm ns k) ≤ k
  | 0 => by simp [Dm, Maps.size]
  | k + 1 => by
    have := Dm_size_le ns k
    rw [Dm_step]
    split <;> omega
theorem Dm_size_eq (ns : List ByteArray) : ∀ k, (∀ i j, i < j → j < k → ns.getD i ByteArray.empty ≠ ns.getD j ByteArray.empty) → Maps.size (Dm ns k) = k
  | 0, _ => by simp [Dm, Maps.size]
  | k + 1, h => by
    have h1 := Dm_size_eq ns k (fun i j hi hj => h i j hi (by omega))
    have h2 : ¬ Maps.has (Dm ns k) (kS (ns.getD k ByteArray.empty)) = true := by
      rw [Dm_has]
      rintro ⟨j, hj, e⟩
      exact h j k hj (by omega) e
    rw [Dm_step, if_neg h2, h1]
theorem Dm_size_lt (ns : List ByteArray) : ∀ k, (∃ i j, i < j ∧ j < k ∧ ns.getD i ByteArray.empty = ns.getD j ByteArray.empty) → Maps.size (Dm ns k) < k
  | 0, ⟨i, j, _, hj, _⟩ => by omega
  | k + 1, ⟨i, j, hij, hj, e⟩ => by
    rw [Dm_step]
    by_cases hjk : j = k
    · subst hjk
      rw [if_pos ((Dm_has ns _ j).2 ⟨i, hij, e⟩)]
      have := Dm_size_le ns j
      omega
    · have := Dm_size_lt ns k ⟨i, j, hij, by omega, e⟩
      split <;> omega
theorem Dm_at (ns : List ByteArray) (s : ByteArray) (z : DataW Unit) : ∀ k j, j < k → ns.getD j ByteArray.empty = s → (∀ i, j < i → i < k → ns.getD i ByteArray.empty ≠ s) → (Dm ns k).atKey (kS s) z = .lit (.int .i64 j)
  | 0, j, hj, _, _ => by omega
  | k + 1, j, hj, e, h => by
    by_cases hjk : j = k
    · subst hjk
      subst e
      rw [Dm, atKey_put_same (Dm_tidy ns j).isMap (kS_key _)]
    · rw [Dm, atKey_put_other (kS_ne (fun x => h k (by omega) (by omega) x.symm))]
      exact Dm_at ns s z k j (by omega) e (fun i hi hk => h i hi (by omega))

end Go.Proofs.YtdfkpehggecbaaaGreatDoor

/- Hear, Join, Refute; what must be in any case. -/
namespace Go.Proofs.YtdfkpehggecbaaaGreatDoor
open Go.RowKit

def liveAgain (m : Mem) : Mem := ⟨m.name, 1, m.life + 1, m.addr, m.server⟩

theorem fl_set2 (ms : List Mem) (p : Nat) (hp : p < ms.length) : ((fl ms).set (p * 5 + 1) (.int .i64 1)).set (p * 5 + 2) (.int .i64 ((ms.getD p dm).life + 1)) = fl (ms.set p (liveAgain (ms.getD p dm))) := by
  induction ms generalizing p with
  | nil => simp at hp
  | cons x r ih =>
    cases p with
    | zero => simp [fl, Mem.cs, liveAgain]
    | succ p =>
      have ih' := ih p (by simpa using hp)
      rw [List.set_cons_succ, fl_cons, fl_cons, List.getD_cons_succ, ← ih']
      simp only [Nat.add_mul, Nat.one_mul]
      have e : ∀ (l : List Value) (k : Nat) (v : Value), (x.cs ++ l).set (k + 5) v = x.cs ++ l.set k v := fun l k v => by
        rw [List.set_append, if_neg (by rw [cs_len]; omega), cs_len, Nat.add_sub_cancel]
      rw [show p * 5 + 5 + 1 = (p * 5 + 1) + 5 by omega, show p * 5 + 5 + 2 = (p * 5 + 2) + 5 by omega]
      rw [e, e]

theorem own_set2 {base g c p : Nat} {W : World} {ms : List Mem} (h : Own base W (.slice (some ⟨g, 0, none⟩) ms.length c) ms) (hp : p < ms.length) :
    Own base ((W.setCell ⟨g, p * 5 + 1, none⟩ (.int .i64 1)).setCell ⟨g, p * 5 + 2, none⟩ (.int .i64 ((ms.getD p dm).life + 1))) (.slice (some ⟨g, 0, none⟩) ms.length c) (ms.set p (liveAgain (ms.getD p dm))) := by
  have h1 := World.ownsRow.stored h (p * 5 + 1) (.int .i64 1)
  have h2 := World.ownsRow.stored h1.1 (p * 5 + 2) (.int .i64 ((ms.getD p dm).life + 1))
  have e := h2.1
  rw [fl_set2 ms p hp] at e
  show World.ownsRow _ _ _ _ _ (ms.set p (liveAgain (ms.getD p dm))).length _
  rw [List.length_set]
  exact e

theorem oneE_zero {nm : ByteArray} {st lf ad : Int} (h : oneE nm st lf ad = 0) : labB nm = true ∧ (1 ≤ st ∧ st ≤ 4) ∧ (1 ≤ lf ∧ lf ≤ 1000000) ∧ (0 ≤ ad ∧ ad ≤ 4294967295) := by
  have hw : ∀ n a b : Int, within n a b = true → a ≤ n ∧ n ≤ b := fun n a b h => by simpa [within] using h
  unfold oneE at h
  split at h
  · rename_i h1
    split at h
    · rename_i h2
      split at h
      · rename_i h3
        split at h
        · rename_i h4
          exact ⟨h1, hw _ _ _ h2, hw _ _ _ h3, hw _ _ _ h4⟩
        · omega
      · omega
    · omega
  · omega
theorem firstE_mem : ∀ (ms : List Mem), firstE ms = 0 → ∀ m ∈ ms, m.e = 0
  | [], _, m, h => by simp at h
  | x :: r, h, m, hm => by
    rw [firstE] at h
    split at h
    · rename_i h1
      rcases List.mem_cons.1 hm with rfl | hm
      · exact h1
      · exact firstE_mem r h m hm
    · rename_i h1; exact absurd h h1
theorem firstE_at0 {ms : List Mem} (h : firstE ms = 0) (p : Nat) (hp : p < ms.length) : (ms.getD p dm).e = 0 := by
  have := firstE_mem ms h ms[p] (List.getElem_mem hp)
  simpa [List.getD, List.getElem?_eq_getElem hp] using this

/-- B4: what Refute answers of members that are right, and a label. -/
def refR (ms : List Mem) (p : Nat) (f : Bool) : Bool := f && (decide ((ms.getD p dm).state = 2) || decide ((ms.getD p dm).state = 3)) && !((ms.getD p dm).life == 1000000)
def refE (ms : List Mem) (p : Nat) (f : Bool) : Int := if f && (decide ((ms.getD p dm).state = 2) || decide ((ms.getD p dm).state = 3)) && ((ms.getD p dm).life == 1000000) then 3 else 0
def refL (ms : List Mem) (p : Nat) (f : Bool) : List Mem := if refR ms p f = true then ms.set p (liveAgain (ms.getD p dm)) else ms
def RefSays (ms : List Mem) (p : Nat) (f : Bool) (w : World) (e : Ending) (w' : World) : Prop :=
  ∃ v' : Value, e = .returned (.tuple #[v', .bool (refR ms p f), .int .i64 (refE ms p f)]) ∧ Below w.heap.size w w' ∧ (refE ms p f ≠ 0 → v' = .slice none 0 0) ∧ (refE ms p f = 0 → Own w.heap.size w' v' (refL ms p f))

end Go.Proofs.YtdfkpehggecbaaaGreatDoor

/- Rumors in memory; met. -/
namespace Go.Proofs.YtdfkpehggecbaaaGreatDoor
open Go.RowKit Go.WideMaps Go.Maps

structure Rum where
  m : Mem
  told : Int
def dr : Rum := ⟨dm, 0⟩
def RRow (w : World) (b off : Nat) (rs : List Rum) : Prop := ∀ j, j < rs.length →
  w.cell? ⟨b, off + j * 6, none⟩ = some (.string (rs.getD j dr).m.name) ∧ w.cell? ⟨b, off + j * 6 + 1, none⟩ = some (.int .i64 (rs.getD j dr).m.state) ∧
  w.cell? ⟨b, off + j * 6 + 2, none⟩ = some (.int .i64 (rs.getD j dr).m.life) ∧ w.cell? ⟨b, off + j * 6 + 3, none⟩ = some (.int .i64 (rs.getD j dr).m.addr) ∧
  w.cell? ⟨b, off + j * 6 + 4, none⟩ = some (.bool (rs.getD j dr).m.server) ∧ w.cell? ⟨b, off + j * 6 + 5, none⟩ = some (.int .i64 (rs.getD j dr).told)
theorem RRow.below {w w' : World} {b off B : Nat} {rs : List Rum} (h : RRow w b off rs) (hb : Below B w w') (hB : b < B) : RRow w' b off rs := fun k hk => by
  obtain ⟨h0, h1, h2, h3, h4, h5⟩ := h k hk
  exact ⟨by rw [hb.cell hB]; exact h0, by rw [hb.cell hB]; exact h1, by rw [hb.cell hB]; exact h2, by rw [hb.cell hB]; exact h3, by rw [hb.cell hB]; exact h4, by rw [hb.cell hB]; exact h5⟩
/-- A slice's value, and the rumors that it holds in a world. -/
def RSl (w : World) (v : Value) (rs : List Rum) : Prop :=
  ∃ (a : Option Addr) (cap : Nat), v = .slice a rs.length cap ∧ (∀ j, (rs.getD j dr).m.name.size ≤ maxLen) ∧
    (rs = [] ∨ ∃ b off, a = some ⟨b, off, none⟩ ∧ b < w.heap.size ∧ RRow w b off rs)
theorem RSl.below {w w' : World} {v : Value} {rs : List Rum} (h : RSl w v rs) (hb : Below w.heap.size w w') : RSl w' v rs := by
  obtain ⟨a, c, hv, hn, h⟩ := h
  refine ⟨a, c, hv, hn, ?_⟩
  rcases h with h | ⟨b, off, ha, hlt, hr⟩
  · exact .inl h
  · exact .inr ⟨b, off, ha, Nat.lt_of_lt_of_le hlt hb.size, hr.below hb hlt⟩
def rnames (rs : List Rum) : List ByteArray := rs.map (·.m.name)
theorem rnames_get (rs : List Rum) (k : Nat) : (rnames rs).getD k ByteArray.empty = (rs.getD k dr).m.name := by
  by_cases h : k < rs.length
  · simp [rnames, List.getD, List.getElem?_eq_getElem h]
  · simp [rnames, List.getD, List.getElem?_eq_none (by omega : rs.length ≤ k), dr, dm]

theorem law9 : Keyed Tryz.prog 9 := string_keyed Tryz.underlying9
theorem zero3' (w : World) : (zeroValue 3).run Tryz.prog w = .ok (.int .i64 0) w := by kernel_rfl
theorem run_makeMapHint (n : Int) (w : World) : (Instr.makeMap 100 (some (.int .i64 n))).run Tryz.prog w = .ok (.map (some w.heap.size)) (w.alloc (.map #[] 0)) := by
  have h := run_underlying Tryz.underlying100
  simp [Instr.makeMap, h, asInt, newObj]
  rfl

end Go.Proofs.YtdfkpehggecbaaaGreatDoor

/- Check of rumors: the program's. -/
namespace Go.Proofs.YtdfkpehggecbaaaGreatDoor
open Go.RowKit Go.WideMaps Go.Maps

theorem chk_oneR (m : Mem) : chk [m] = m.e := by
  unfold chk
  by_cases h : m.e = 0
  · simp [firstE, h, risesB]
  · simp [firstE, h]
theorem cell_top' {W : World} {cs : Array Value} {t : TypeId} {g k : Nat} (hg : g = W.heap.size) : (W.alloc (.cells cs t)).cell? ⟨g, k, none⟩ = cs[k]? := by subst hg; simp

def Distinct (rs : List Rum) : Prop := ∀ i j, i < j → j < rs.length → (rs.getD i dr).m.name ≠ (rs.getD j dr).m.name
def rmems (rs : List Rum) : List Mem := rs.map (·.m)
theorem rmems_get (rs : List Rum) (k : Nat) : (rmems rs).getD k dm = (rs.getD k dr).m := by
  by_cases h : k < rs.length
  · simp [rmems, List.getD, List.getElem?_eq_getElem h]
  · simp [rmems, List.getD, List.getElem?_eq_none (by omega : rs.length ≤ k), dr]
theorem rmems_len (rs : List Rum) : (rmems rs).length = rs.length := by simp [rmems]
def AllTold (rs : List Rum) : Prop := ∀ j, j < rs.length → within (rs.getD j dr).told 0 100 = true
theorem allTold_iff (rs : List Rum) : ((List.range rs.length).all fun j => within (rs.getD j dr).told 0 100) = true ↔ AllTold rs := by
  unfold AllTold
  simp only [List.all_eq_true, List.mem_range]
theorem distinct_iff (rs : List Rum) : ((List.range rs.length).all fun j => (List.range j).all fun i => decide ((rs.getD i dr).m.name ≠ (rs.getD j dr).m.name)) = true ↔ Distinct rs := by
  unfold Distinct
  simp only [List.all_eq_true, List.mem_range, decide_eq_true_eq]
  exact ⟨fun h i j hi hj => h j hj i hi, fun h j hj i hi => h i j hi hj⟩
/-- C1. -/
def chkR (rs : List Rum) : Int :=
  if 20 < rs.length then 2 else if firstE (rmems rs) = 0 then (@ite _ (AllTold rs) (decidable_of_iff _ (allTold_iff rs)) (@ite _ (Distinct rs) (decidable_of_iff _ (distinct_iff rs)) 0 6) 3) else firstE (rmems rs)
theorem chkR_many {rs : List Rum} (h : 20 < rs.length) : chkR rs = 2 := by unfold chkR; rw [if_pos h]
theorem chkR_mem {rs : List Rum} {k : Nat} (hn : rs.length ≤ 20) (hk : k < rs.length) (hz : ∀ j, j < k → (rs.getD j dr).m.e = 0) (hne : (rs.getD k dr).m.e ≠ 0) : chkR rs = (rs.getD k dr).m.e := by
  have h := firstE_at (rmems rs) k (by rw [rmems_len]; exact hk) (fun j hj => by rw [rmems_get]; exact hz j hj) (by rw [rmems_get]; exact hne)
  rw [rmems_get] at h
  unfold chkR
  rw [if_neg (by omega), if_neg (by rw [h]; exact hne), h]
theorem firstR_zero {rs : List Rum} (hz : ∀ j, j < rs.length → (rs.getD j dr).m.e = 0) : firstE (rmems rs) = 0 :=
  firstE_zero _ (fun j hj => by rw [rmems_get]; exact hz j (by rw [rmems_len] at hj; exact hj))
theorem chkR_told {rs : List Rum} {k : Nat} (hn : rs.length ≤ 20) (hz : ∀ j, j < rs.length → (rs.getD j dr).m.e = 0) (hk : k < rs.length) (hne : within (rs.getD k dr).told 0 100 = false) : chkR rs = 3 := by
  unfold chkR
  rw [if_neg (by omega), if_pos (firstR_zero hz), if_neg]
  intro h
  rw [h k hk] at hne
  cases hne
theorem chkR_twice {rs : List Rum} (hn : rs.length ≤ 20) (hz : ∀ j, j < rs.length → (rs.getD j dr).m.e = 0) (ht : AllTold rs) (hd : ¬ Distinct rs) : chkR rs = 6 := by
  unfold chkR
  rw [if_neg (by omega), if_pos (firstR_zero hz), if_pos ht, if_neg hd]
theorem chkR_ok {rs : List Rum} (hn : rs.length ≤ 20) (hz : ∀ j, j < rs.length → (rs.getD j dr).m.e = 0) (ht : AllTold rs) (hd : Distinct rs) : chkR rs = 0 := by
  unfold chkR
  rw [if_neg (by omega), if_pos (firstR_zero hz), if_pos ht, if_pos hd]

theorem dm_lt {rs : List Rum} (hd : ¬ Distinct rs) : Maps.size (Dm (rnames rs) rs.length) < rs.length := by
  apply Dm_size_lt
  apply Classical.byContradiction
  intro h
  apply hd
  intro i j hij hj e
  exact h ⟨i, j, hij, hj, by rw [rnames_get, rnames_get]; exact e⟩
theorem dm_eq {rs : List Rum} (hd : Distinct rs) : Maps.size (Dm (rnames rs) rs.length) = rs.length :=
  Dm_size_eq _ _ (fun i j hij hj => by rw [rnames_get, rnames_get]; exact hd i j hij hj)

end Go.Proofs.YtdfkpehggecbaaaGreatDoor

/- The first member of a name, and who is out: plain. -/
namespace Go.Proofs.YtdfkpehggecbaaaGreatDoor
open Go.RowKit

/-- The first member of a name. -/
def fstM (ms : List Mem) (t : ByteArray) : Option Mem := ms.find? fun m => decide (m.name = t)
def mOf (ms : List Mem) (t : ByteArray) : Mem := (fstM ms t).getD dm
def outB (ms : List Mem) (t : ByteArray) : Bool := decide ((mOf ms t).state = 3) || decide ((mOf ms t).state = 4)
theorem fstM_none {ms : List Mem} {t : ByteArray} (h : ∀ j, j < ms.length → (ms.getD j dm).name ≠ t) : fstM ms t = none := by
  unfold fstM
  rw [List.find?_eq_none]
  intro x hx
  obtain ⟨j, hj, rfl⟩ := List.getElem_of_mem hx
  have := h j hj
  rw [show ms.getD j dm = ms[j] by simp [List.getD, List.getElem?_eq_getElem hj]] at this
  simpa using this
theorem fstM_some {ms : List Mem} {t : ByteArray} {k : Nat} (hk : k < ms.length) (h1 : ∀ j, j < k → (ms.getD j dm).name ≠ t) (h2 : (ms.getD k dm).name = t) : fstM ms t = some (ms.getD k dm) := by
  unfold fstM
  rw [show ms.getD k dm = ms[k] by simp [List.getD, List.getElem?_eq_getElem hk]] at h2 ⊢
  rw [List.find?_eq_some_iff_getElem]
  refine ⟨by simpa using h2, k, hk, rfl, fun j hj => ?_⟩
  have := h1 j hj
  rw [show ms.getD j dm = ms[j]'(by omega) by simp [List.getD, List.getElem?_eq_getElem (show j < ms.length by omega)]] at this
  simpa using this
theorem fstM_mem {ms : List Mem} {t : ByteArray} {m : Mem} (h : fstM ms t = some m) : m ∈ ms ∧ m.name = t := by
  unfold fstM at h
  exact ⟨List.mem_of_find?_eq_some h, by simpa using List.find?_some h⟩

end Go.Proofs.YtdfkpehggecbaaaGreatDoor

/- Packets and nodes: plain. -/
namespace Go.Proofs.YtdfkpehggecbaaaGreatDoor
open Go.RowKit

/-- No two of them have one name. -/
def Apart (ms : List Mem) : Prop := ∀ i j, i < j → j < ms.length → (ms.getD i dm).name ≠ (ms.getD j dm).name
def apB (ms : List Mem) : Bool := (List.range ms.length).all fun j => (List.range j).all fun i => decide ((ms.getD i dm).name ≠ (ms.getD j dm).name)
theorem apB_iff (ms : List Mem) : apB ms = true ↔ Apart ms := by
  simp only [apB, List.all_eq_true, List.mem_range, decide_eq_true_eq]
  exact ⟨fun h i j hij hj => h j hj i hij, fun h j hj i hij => h i j hij hj⟩
/-- I1: rumors that are told. -/
def chkT (ms : List Mem) : Int := if 5 < ms.length then 2 else if firstE ms = 0 then (if apB ms = true then 0 else 6) else firstE ms
theorem chkT_many {ms : List Mem} (h : 5 < ms.length) : chkT ms = 2 := if_pos h
theorem chkT_e {ms : List Mem} {k : Nat} (hn : ms.length ≤ 5) (hk : k < ms.length) (hz : ∀ j, j < k → (ms.getD j dm).e = 0) (hne : (ms.getD k dm).e ≠ 0) : chkT ms = (ms.getD k dm).e := by
  have h := firstE_at ms k hk hz hne
  rw [chkT, if_neg (by omega), h, if_neg hne]
theorem chkT_twice {ms : List Mem} (hn : ms.length ≤ 5) (hz : ∀ j, j < ms.length → (ms.getD j dm).e = 0) (hd : ¬ Apart ms) : chkT ms = 6 := by
  rw [chkT, if_neg (by omega), if_pos (firstE_zero ms hz), if_neg (fun h => hd ((apB_iff ms).1 h))]
theorem chkT_ok {ms : List Mem} (hn : ms.length ≤ 5) (hz : ∀ j, j < ms.length → (ms.getD j dm).e = 0) (hd : Apart ms) : chkT ms = 0 := by
  rw [chkT, if_neg (by omega), if_pos (firstE_zero ms hz), if_pos ((apB_iff ms).2 hd)]
theorem chkT_zero {ms : List Mem} (h : chkT ms = 0) : ms.length ≤ 5 ∧ firstE ms = 0 ∧ Apart ms := by
  unfold chkT at h
  split at h
  · cases h
  · split at h
    · rename_i h1 h2
      split at h
      · rename_i h3; exact ⟨by omega, h2, (apB_iff ms).1 h3⟩
      · cases h
    · rename_i h1 h2; exact absurd h h2

/-- A packet. -/
structure Pk where
  frm : ByteArray
  whole : Bool
  ms : List Mem
  sv : List Sv.Svc
  gw : List Gw.Gwy
  wh : List Wh.Whe

def Pk.alone (p : Pk) : Bool := p.sv.isEmpty && (p.gw.isEmpty && p.wh.isEmpty)
def Pk.mE (p : Pk) : Int := if p.whole = true then chk p.ms else chkT p.ms
/-- I1. -/
def Pk.e (p : Pk) : Int :=
  if (labB p.frm && (p.whole || p.alone)) = true then
    (if p.mE = 0 then (if Sv.chk p.sv = 0 then (if Gw.chk p.gw = 0 then Wh.chk p.wh else Gw.chk p.gw) else Sv.chk p.sv) else p.mE)
  else 1

/-- A node. -/
structure Nd where
  name : ByteArray
  centre : ByteArray
  ms : List Mem
  rs : List Rum
  sv : List Sv.Svc
  gw : List Gw.Gwy
  p : Pl
  wh : List Wh.Whe

/-- A rumor that tells what is not known. -/
def aheadB (ms : List Mem) (r : Rum) : Bool := match fstM ms r.m.name with
  | none => true
  | some k => newM r.m k
/-- Of parts that are right by themselves. -/
def Nd.wE (n : Nd) : Int := match fstM n.ms n.name with
  | none => 5
  | some m => if m.state = 2 ∨ m.state = 3 then 4 else if n.rs.any (aheadB n.ms) = true then 4 else 0
def Nd.pE (n : Nd) : Int :=
  if (labB n.name && labB n.centre) = true then
    (if chk n.ms = 0 then (if chkR n.rs = 0 then (if Sv.chk n.sv = 0 then (if Gw.chk n.gw = 0 then (if chkP n.p = 0 then Wh.chk n.wh else chkP n.p) else Gw.chk n.gw) else Sv.chk n.sv) else chkR n.rs) else chk n.ms)
  else 1
/-- J1. -/
def Nd.e (n : Nd) : Int := if n.pE = 0 then n.wE else n.pE

structure Nd.Parts (n : Nd) : Prop where
  name : labB n.name = true
  centre : labB n.centre = true
  ms : chk n.ms = 0
  rs : chkR n.rs = 0
  sv : Sv.chk n.sv = 0
  gw : Gw.chk n.gw = 0
  p : chkP n.p = 0
  wh : Wh.chk n.wh = 0
theorem Nd.parts {n : Nd} (h : n.pE = 0) : n.Parts := by
  unfold Nd.pE at h
  split at h
  · rename_i h0
    rw [Bool.and_eq_true] at h0
    split at h
    · rename_i h1
      split at h
      · rename_i h2
        split at h
        · rename_i h3
          split at h
          · rename_i h4
            split at h
            · rename_i h5; exact ⟨h0.1, h0.2, h1, h2, h3, h4, h5, h⟩
            · rename_i h5; exact absurd h h5
          · rename_i h4; exact absurd h h4
        · rename_i h3; exact absurd h h3
      · rename_i h2; exact absurd h h2
    · rename_i h1; exact absurd h h1
  · cases h
theorem Nd.Parts.e {n : Nd} (h : n.Parts) : n.pE = 0 := by
  unfold Nd.pE
  rw [if_pos (by rw [h.name, h.centre]; rfl), if_pos h.ms, if_pos h.rs, if_pos h.sv, if_pos h.gw, if_pos h.p, h.wh]
theorem Nd.e_zero {n : Nd} (h : n.e = 0) : n.pE = 0 ∧ n.wE = 0 := by
  unfold Nd.e at h
  split at h
  · rename_i h1; exact ⟨h1, h⟩
  · rename_i h1; exact absurd h h1
theorem Nd.wE_zero {n : Nd} (h : n.wE = 0) : ∃ m, fstM n.ms n.name = some m ∧ m.state ≠ 2 ∧ m.state ≠ 3 ∧ ∀ r ∈ n.rs, aheadB n.ms r = false := by
  unfold Nd.wE at h
  split at h
  · cases h
  · rename_i m hm
    split at h
    · cases h
    · rename_i h1
      split at h
      · cases h
      · rename_i h2
        refine ⟨m, hm, fun e => h1 (.inl e), fun e => h1 (.inr e), fun r hr => ?_⟩
        rcases h3 : aheadB n.ms r with _ | _
        · rfl
        · exact absurd (List.any_eq_true.2 ⟨r, hr, h3⟩) h2
theorem Nd.wE_of {n : Nd} {m : Mem} (h1 : fstM n.ms n.name = some m) (h2 : m.state ≠ 2) (h3 : m.state ≠ 3) (h4 : ∀ r ∈ n.rs, aheadB n.ms r = false) : n.wE = 0 := by
  unfold Nd.wE
  rw [h1]
  simp only
  rw [if_neg (by rintro (h | h) <;> contradiction), if_neg]
  rw [List.any_eq_true]
  rintro ⟨r, hr, h⟩
  rw [h4 r hr] at h
  cases h
theorem Nd.e_of {n : Nd} (h1 : n.pE = 0) (h2 : n.wE = 0) : n.e = 0 := by unfold Nd.e; rw [if_pos h1, h2]

end Go.Proofs.YtdfkpehggecbaaaGreatDoor

