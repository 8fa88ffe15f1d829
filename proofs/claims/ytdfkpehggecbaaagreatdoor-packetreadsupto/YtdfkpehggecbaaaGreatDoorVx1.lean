/- IA, CI, IB -/
import Derived.Test.YtdfkpehggecbaaaGreatDoorV42
import Derived.WalkKit
import Derived.Test.YtdfkpehggecbaaaGreatDoorV29
import Derived.Deep.CutRange
import Derived.Lib.QuietBelow
/- The document's reader of packets: plain. -/
namespace Go.Proofs.YtdfkpehggecbaaaGreatDoor
open Go.RowKit

/-- So many digits, and what they say, behind n. -/
def dgs : Nat → List UInt8 → Nat × Nat
  | n, [] => (n, 0)
  | n, c :: r => if 48 ≤ c.toNat ∧ c.toNat ≤ 57 ∧ n < 1099511627776 then ((dgs (10 * n + (c.toNat - 48)) r).1, (dgs (10 * n + (c.toNat - 48)) r).2 + 1) else (n, 0)
theorem dgs_le : ∀ (n : Nat) (l : List UInt8), (dgs n l).2 ≤ l.length
  | _, [] => Nat.le_refl _
  | n, c :: r => by
    rw [dgs]
    split
    · have := dgs_le (10 * n + (c.toNat - 48)) r
      simp only [List.length_cons]
      omega
    · exact Nat.zero_le _
theorem dgs_lt : ∀ (n : Nat) (l : List UInt8), n < 10995116277760 → (dgs n l).1 < 10995116277760
  | _, [], h => h
  | n, c :: r, h => by
    rw [dgs]
    split
    · rename_i hc
      exact dgs_lt _ r (by omega)
    · exact h
theorem dgs_dec (u : Nat) (hu : u < 10995116277760) (t : List UInt8) : dgs 0 (Lib.decDigits u ++ t) = ((dgs u t).1, (dgs u t).2 + (Lib.decDigits u).length) := by
  induction u using Nat.strongRecOn generalizing t with
  | _ u ih =>
    rw [Lib.decDigits]
    split
    · rename_i h
      rw [List.singleton_append, dgs, dg_nat h, if_pos ⟨by omega, by omega, by omega⟩, show 10 * 0 + (48 + u - 48) = u by omega]
      rfl
    · rename_i h
      rw [List.append_assoc, ih (u / 10) (by omega) (by omega), List.singleton_append, dgs, dg_nat (by omega), if_pos ⟨by omega, by omega, by omega⟩, show 10 * (u / 10) + (48 + u % 10 - 48) = u by omega, List.length_append, List.length_singleton]
      simp only [Nat.add_assoc, Nat.add_comm 1]
theorem dgs_end (u : Nat) (r : List UInt8) : dgs u (59 :: r) = (u, 0) := by
  rw [dgs, if_neg (by rintro ⟨_, h, _⟩; have : (59 : UInt8).toNat = 59 := rfl; omega)]
/-- A number that is not too long. -/
def sm (n : Int) : Prop := n.natAbs < 10995116277760
theorem sm_in {n : Int} (h : sm n) : In63 n := by unfold sm at h; exact ⟨by omega, by omega⟩
/-- The number at the head of a text, by the document. -/
def dN (l : List UInt8) : Option (Int × List UInt8) := (rdN l).bind fun a => if a.1.natAbs < 10995116277760 then some a else none
theorem dN_some {l r : List UInt8} {n : Int} : dN l = some (n, r) ↔ l = numB n ++ r ∧ sm n := by
  unfold dN
  rw [Option.bind_eq_some_iff]
  constructor
  · rintro ⟨⟨m, q⟩, h1, h2⟩
    simp only at h2
    split at h2
    · rename_i h3
      simp only [Option.some.injEq, Prod.mk.injEq] at h2
      obtain ⟨rfl, rfl⟩ := h2
      exact ⟨(rdN_eq h1).1, h3⟩
    · cases h2
  · rintro ⟨rfl, h⟩
    exact ⟨(n, r), rdN_num (sm_in h) r, if_pos h⟩
/-- Is there a sign? -/
def ngB (l : List UInt8) : Bool := match l with
  | 45 :: _ => true
  | _ => false
/-- The text behind the sign; how far the document reads; what it reads. -/
def bhd (l : List UInt8) : List UInt8 := if ngB l = true then l.tail else l
def far (l : List UInt8) : Nat := (if ngB l = true then 1 else 0) + (dgs 0 (bhd l)).2
def val (l : List UInt8) : Int := if ngB l = true then -((dgs 0 (bhd l)).1 : Int) else ((dgs 0 (bhd l)).1 : Int)
theorem ngB_cons {l : List UInt8} (h : ngB l = true) : l = 45 :: l.tail := by
  unfold ngB at h
  split at h
  · rfl
  · cases h
theorem val_sm (l : List UInt8) : sm (val l) := by
  unfold sm val
  have := dgs_lt 0 (bhd l) (by omega)
  split <;> omega
theorem far_le (l : List UInt8) : far l ≤ l.length := by
  unfold far bhd
  split
  · rename_i h
    have h1 := dgs_le 0 l.tail
    have h2 := congrArg List.length (ngB_cons h)
    simp only [List.length_cons] at h2
    omega
  · have h1 := dgs_le 0 l
    omega
theorem dN_yes {l : List UInt8} (h2 : l.take (far l + 1) = numB (val l)) : dN l = some (val l, l.drop (far l + 1)) :=
  dN_some.2 ⟨by rw [← h2, List.take_append_drop], val_sm l⟩
theorem far_num {n : Int} (h : sm n) (r : List UInt8) : far (numB n ++ r) + 1 = (numB n).length ∧ val (numB n ++ r) = n := by
  unfold sm at h
  unfold numB Lib.itoa
  split
  · rename_i hn
    have e : ngB (45 :: Lib.decDigits n.natAbs ++ [59] ++ r) = true := rfl
    have e2 : bhd (45 :: Lib.decDigits n.natAbs ++ [59] ++ r) = Lib.decDigits n.natAbs ++ 59 :: r := by
      unfold bhd; rw [if_pos e]; simp
    unfold far val
    rw [e2, if_pos e, if_pos e, dgs_dec _ h, dgs_end]
    constructor
    · simp only [List.length_append, List.length_cons, List.length_nil]; omega
    · simp only; omega
  · rename_i hn
    have e : ngB (Lib.decDigits n.toNat ++ [59] ++ r) = false := by
      cases hd : Lib.decDigits n.toNat with
      | nil => exact absurd hd (dec_ne _)
      | cons c q =>
        have hc := dec_all n.toNat c (by rw [hd]; exact List.mem_cons_self)
        unfold ngB
        split
        · rename_i x hx
          simp only [List.cons_append, List.cons.injEq] at hx
          have h45 : (45 : UInt8).toNat = 45 := rfl
          rw [← hx.1] at h45
          omega
        · rfl
    have e2 : bhd (Lib.decDigits n.toNat ++ [59] ++ r) = Lib.decDigits n.toNat ++ 59 :: r := by
      unfold bhd; rw [if_neg (by rw [e]; exact Bool.false_ne_true)]; simp
    unfold far val
    rw [e2, if_neg (by rw [e]; exact Bool.false_ne_true), if_neg (by rw [e]; exact Bool.false_ne_true), dgs_dec _ (by omega), dgs_end]
    constructor
    · simp only [List.length_append, List.length_cons, List.length_nil]; omega
    · simp only; omega
theorem dN_no {l : List UInt8} (h : ¬ (far l < l.length ∧ l.take (far l + 1) = numB (val l))) : dN l = none := by
  cases hd : dN l with
  | none => rfl
  | some a =>
    obtain ⟨n, r⟩ := a
    obtain ⟨h1, h2⟩ := dN_some.1 hd
    obtain ⟨h3, h4⟩ := far_num h2 r
    rw [← h1] at h3 h4
    exfalso
    apply h
    refine ⟨?_, ?_⟩
    · have := congrArg List.length h1
      rw [List.length_append] at this
      omega
    · rw [h3, h4, h1, List.take_left]
/-- The document's cursor: what is left, or nothing where it is bad. -/
def cN (o : Option (List UInt8)) : Int × Option (List UInt8) := match o.bind dN with
  | some a => (a.1, some a.2)
  | none => (0, none)
def cT (o : Option (List UInt8)) : ByteArray × Option (List UInt8) := match (cN o).2 with
  | some r => if 0 ≤ (cN o).1 ∧ (cN o).1 ≤ r.length then (bstr (r.take (cN o).1.toNat), some (r.drop (cN o).1.toNat)) else (⟨#[]⟩, none)
  | none => (⟨#[]⟩, none)
def cY (o : Option (List UInt8)) : Bool × Option (List UInt8) := match (cN o).2 with
  | some r => if (cN o).1 = 0 then (false, some r) else if (cN o).1 = 1 then (true, some r) else (false, none)
  | none => (false, none)
def cC (most : Int) (o : Option (List UInt8)) : Int × Option (List UInt8) := match (cN o).2 with
  | some r => if 0 ≤ (cN o).1 ∧ (cN o).1 ≤ most then ((cN o).1, some r) else (0, none)
  | none => (0, none)
theorem cN_eq {o : Option (List UInt8)} {r : List UInt8} (h : (cN o).2 = some r) : o = some (numB (cN o).1 ++ r) ∧ sm (cN o).1 := by
  cases o with
  | none => cases h
  | some l =>
    unfold cN at h ⊢
    simp only [Option.bind_some] at h ⊢
    cases hd : dN l with
    | none => rw [hd] at h; cases h
    | some a =>
      rw [hd] at h
      simp only [Option.some.injEq] at h ⊢
      subst h
      exact (dN_some (n := a.1) (r := a.2)).1 hd
theorem cN_num {n : Int} (h : sm n) (r : List UInt8) : cN (some (numB n ++ r)) = (n, some r) := by
  unfold cN
  rw [Option.bind_some, dN_some.2 ⟨rfl, h⟩]
theorem cT_eq {o : Option (List UInt8)} {r : List UInt8} (h : (cT o).2 = some r) : o = some (txtB (cT o).1 ++ r) := by
  unfold cT at h ⊢
  cases hn : (cN o).2 with
  | none => rw [hn] at h; cases h
  | some q =>
    rw [hn] at h
    simp only at h ⊢
    split at h
    · rename_i hk
      rw [if_pos hk]
      simp only [Option.some.injEq] at h
      subst h
      have e := (cN_eq hn).1
      refine e.trans ?_
      unfold txtB
      rw [bstr_size, List.length_take, Nat.min_eq_left (by omega), bstr_list, List.append_assoc, List.take_append_drop, show ((((cN o).1.toNat : Nat)) : Int) = (cN o).1 by omega]
    · cases h
theorem cT_txt {s : ByteArray} (h : s.size ≤ 1000) (r : List UInt8) : cT (some (txtB s ++ r)) = (s, some r) := by
  unfold cT txtB
  rw [List.append_assoc, cN_num (by unfold sm; omega)]
  have hl : s.data.toList.length = s.size := rfl
  simp only
  rw [if_pos ⟨by omega, by rw [List.length_append]; omega⟩, Int.toNat_natCast, List.take_left' hl, List.drop_left' hl]
  rfl
theorem cY_eq {o : Option (List UInt8)} {r : List UInt8} (h : (cY o).2 = some r) : o = some (flgB (cY o).1 ++ r) := by
  unfold cY at h ⊢
  cases hn : (cN o).2 with
  | none => rw [hn] at h; cases h
  | some q =>
    rw [hn] at h
    have e := (cN_eq hn).1
    simp only at h ⊢
    split at h
    · rename_i hk
      rw [if_pos hk]
      simp only [Option.some.injEq] at h
      subst h
      rw [hk] at e
      rw [e]; rfl
    · rename_i hk0
      split at h
      · rename_i hk
        rw [if_neg hk0, if_pos hk]
        simp only [Option.some.injEq] at h
        subst h
        rw [hk] at e
        rw [e]; rfl
      · cases h
theorem cY_flg (y : Bool) (r : List UInt8) : cY (some (flgB y ++ r)) = (y, some r) := by
  unfold cY flgB
  rw [cN_num (by unfold sm; split <;> decide)]
  cases y <;> simp
theorem cC_eq {m : Int} {o : Option (List UInt8)} {r : List UInt8} (h : (cC m o).2 = some r) : o = some (numB (cC m o).1 ++ r) ∧ 0 ≤ (cC m o).1 := by
  unfold cC at h ⊢
  cases hn : (cN o).2 with
  | none => rw [hn] at h; cases h
  | some q =>
    rw [hn] at h
    have e := (cN_eq hn).1
    simp only at h ⊢
    split at h
    · rename_i hk
      rw [if_pos hk]
      simp only [Option.some.injEq] at h
      subst h
      exact ⟨e, hk.1⟩
    · cases h
theorem cC_num {n m : Nat} (h : n ≤ m) (hm : m ≤ 1000) (r : List UInt8) : cC m (some (numB n ++ r)) = ((n : Int), some r) := by
  unfold cC
  rw [cN_num (by unfold sm; omega)]
  simp only
  rw [if_pos ⟨by omega, by omega⟩]
theorem cN_none : cN none = (0, none) := rfl
theorem cT_none : cT none = (⟨#[]⟩, none) := rfl
theorem cY_none : cY none = (false, none) := rfl
theorem cC_none (m : Int) : cC m none = (0, none) := rfl
theorem cC_le {m : Int} (hm : 0 ≤ m) (o : Option (List UInt8)) : 0 ≤ (cC m o).1 ∧ (cC m o).1 ≤ m := by
  unfold cC
  split
  · split
    · rename_i h; exact h
    · exact ⟨Int.le_refl _, hm⟩
  · exact ⟨Int.le_refl _, hm⟩
theorem within_sm {n a b : Int} (h : within n a b = true) (ha : -10000000000000 ≤ a) (hb : b ≤ 10000000000000) : sm n := by
  unfold within at h
  rw [Bool.and_eq_true, decide_eq_true_eq, decide_eq_true_eq] at h
  unfold sm
  omega

def cEl (o : Option (List UInt8)) : Mem × Option (List UInt8) :=
  let a0 := cT o
  let a1 := cN a0.2
  let a2 := cN a1.2
  let a3 := cN a2.2
  let a4 := cY a3.2
  (⟨a0.1, a1.1, a2.1, a3.1, a4.1⟩, a4.2)
def wob (m : Mem) : Prop := m.name.size ≤ 1000 ∧ sm m.state ∧ sm m.life ∧ sm m.addr
theorem wob_of {m : Mem} (h : m.e = 0) : wob m := by
  unfold Mem.e oneE at h
  split at h
  · rename_i h1
    split at h
    · rename_i h2
      split at h
      · rename_i h3
        split at h
        · rename_i h4
          exact ⟨lab_size h1, within_sm h2 (by omega) (by omega), within_sm h3 (by omega) (by omega), within_sm h4 (by omega) (by omega)⟩
        · cases h
      · cases h
    · cases h
  · cases h
theorem cEl_eq {o : Option (List UInt8)} {r : List UInt8} (h : (cEl o).2 = some r) : o = some (elB (cEl o).1 ++ r) := by
  unfold cEl at h ⊢
  simp only at h ⊢
  have e4 := cY_eq h
  have e3 := cN_eq e4
  have e2 := cN_eq e3.1
  have e1 := cN_eq e2.1
  have e0 := cT_eq e1.1
  refine e0.trans ?_
  unfold elB
  simp only [List.flatMap_cons, List.flatMap_nil, List.append_nil, List.append_assoc]
theorem cEl_el {m : Mem} (h : wob m) (r : List UInt8) : cEl (some (elB m ++ r)) = (m, some r) := by
  obtain ⟨h0, h1, h2, h3⟩ := h
  unfold cEl elB
  simp only [List.flatMap_cons, List.flatMap_nil, List.append_nil, List.append_assoc, cT_txt h0, cN_num h1, cN_num h2, cN_num h3, cY_flg m.server]
def cLs : Nat → Option (List UInt8) → List Mem → List Mem × Option (List UInt8)
  | 0, o, D => (D, o)
  | _ + 1, none, D => (D, none)
  | n + 1, some l, D => cLs n (cEl (some l)).2 (D ++ [(cEl (some l)).1])
def cList (most : Int) (o : Option (List UInt8)) : List Mem × Option (List UInt8) := cLs (cC most o).1.toNat (cC most o).2 []
theorem cLs_bad (n : Nat) (D : List Mem) : cLs n none D = (D, none) := by cases n <;> rfl
theorem cLs_go {n : Nat} {l : List UInt8} {D : List Mem} (h : 0 < n) : cLs n (some l) D = cLs (n - 1) (cEl (some l)).2 (D ++ [(cEl (some l)).1]) := by
  obtain ⟨m, rfl⟩ : ∃ m, n = m + 1 := ⟨n - 1, by omega⟩
  rfl
theorem cLs_eq : ∀ (n : Nat) {o : Option (List UInt8)} {D : List Mem} {r : List UInt8}, (cLs n o D).2 = some r → ∃ X : List Mem, X.length = n ∧ (cLs n o D).1 = D ++ X ∧ o = some (X.flatMap elB ++ r)
  | 0, o, D, r, h => ⟨[], rfl, by simp [cLs], by simpa [cLs] using h⟩
  | n + 1, none, D, r, h => by simp [cLs] at h
  | n + 1, some l, D, r, h => by
    simp only [cLs] at h ⊢
    obtain ⟨X, h1, h2, h3⟩ := cLs_eq n h
    refine ⟨(cEl (some l)).1 :: X, by simp [h1], by rw [h2]; simp, ?_⟩
    rw [List.flatMap_cons, List.append_assoc]
    exact cEl_eq h3
theorem cLs_el : ∀ (E : List Mem), (∀ m ∈ E, wob m) → ∀ (D : List Mem) (r : List UInt8), cLs E.length (some (E.flatMap elB ++ r)) D = (D ++ E, some r)
  | [], _, D, r => by simp [cLs]
  | m :: E, h, D, r => by
    rw [List.flatMap_cons, List.append_assoc, List.length_cons, cLs, cEl_el (h m List.mem_cons_self)]
    simp only
    rw [cLs_el E (fun x hx => h x (List.mem_cons_of_mem _ hx)) (D ++ [m]) r, List.append_assoc]; rfl
theorem cList_eq {m : Int} {o : Option (List UInt8)} {r : List UInt8} (h : (cList m o).2 = some r) : o = some (numB (cList m o).1.length ++ (cList m o).1.flatMap elB ++ r) := by
  unfold cList at h ⊢
  obtain ⟨X, h1, h2, h3⟩ := cLs_eq _ h
  obtain ⟨h4, h5⟩ := cC_eq h3
  rw [h2, List.nil_append, h1, show (((cC m o).1.toNat : Nat) : Int) = (cC m o).1 by omega, List.append_assoc]
  exact h4
theorem cList_el {E : List Mem} (hl : E.length ≤ 20) (h : ∀ m ∈ E, wob m) (r : List UInt8) : cList 20 (some (numB E.length ++ E.flatMap elB ++ r)) = (E, some r) := by
  unfold cList
  have e := cC_num (m := 20) hl (by omega) (E.flatMap elB ++ r)
  rw [List.append_assoc]
  rw [show ((20 : Nat) : Int) = 20 from rfl] at e
  rw [e]
  simp only
  rw [Int.toNat_natCast, cLs_el E h [] r, List.nil_append]

namespace Sv
def cEl (o : Option (List UInt8)) : Svc × Option (List UInt8) :=
  let a0 := cT o
  let a1 := cT a0.2
  let a2 := cT a1.2
  let a3 := cT a2.2
  let a4 := cN a3.2
  let a5 := cN a4.2
  let a6 := cY a5.2
  let a7 := cN a6.2
  let a8 := cY a7.2
  (⟨a0.1, a1.1, a2.1, a3.1, a4.1, a5.1, a6.1, a7.1, a8.1⟩, a8.2)
def wob (m : Svc) : Prop := m.node.size ≤ 1000 ∧ m.idn.size ≤ 1000 ∧ m.name.size ≤ 1000 ∧ m.tag.size ≤ 1000 ∧ sm m.addr ∧ sm m.port ∧ sm m.version
theorem wob_of {m : Svc} (h : m.e = 0) : wob m := by
  unfold Svc.e at h
  split at h
  · rename_i h1
    split at h
    · rename_i h2
      simp only [Bool.and_eq_true] at h1 h2
      exact ⟨lab_size h1.1, lab_size h1.2.1, lab_size h1.2.2.1, tag_size h1.2.2.2, within_sm h2.1 (by omega) (by omega), within_sm h2.2.1 (by omega) (by omega), within_sm h2.2.2 (by omega) (by omega)⟩
    · cases h
  · cases h
theorem cEl_eq {o : Option (List UInt8)} {r : List UInt8} (h : (cEl o).2 = some r) : o = some (elB (cEl o).1 ++ r) := by
  unfold cEl at h ⊢
  simp only at h ⊢
  have e8 := cY_eq h
  have e7 := cN_eq e8
  have e6 := cY_eq e7.1
  have e5 := cN_eq e6
  have e4 := cN_eq e5.1
  have e3 := cT_eq e4.1
  have e2 := cT_eq e3
  have e1 := cT_eq e2
  have e0 := cT_eq e1
  refine e0.trans ?_
  unfold elB
  simp only [List.flatMap_cons, List.flatMap_nil, List.append_nil, List.append_assoc]
theorem cEl_el {m : Svc} (h : wob m) (r : List UInt8) : cEl (some (elB m ++ r)) = (m, some r) := by
  obtain ⟨h0, h1, h2, h3, h4, h5, h6⟩ := h
  unfold cEl elB
  simp only [List.flatMap_cons, List.flatMap_nil, List.append_nil, List.append_assoc, cT_txt h0, cT_txt h1, cT_txt h2, cT_txt h3, cN_num h4, cN_num h5, cY_flg m.passing, cN_num h6, cY_flg m.gone]
def cLs : Nat → Option (List UInt8) → List Svc → List Svc × Option (List UInt8)
  | 0, o, D => (D, o)
  | _ + 1, none, D => (D, none)
  | n + 1, some l, D => cLs n (cEl (some l)).2 (D ++ [(cEl (some l)).1])
def cList (most : Int) (o : Option (List UInt8)) : List Svc × Option (List UInt8) := cLs (cC most o).1.toNat (cC most o).2 []
theorem cLs_bad (n : Nat) (D : List Svc) : cLs n none D = (D, none) := by cases n <;> rfl
theorem cLs_go {n : Nat} {l : List UInt8} {D : List Svc} (h : 0 < n) : cLs n (some l) D = cLs (n - 1) (cEl (some l)).2 (D ++ [(cEl (some l)).1]) := by
  obtain ⟨m, rfl⟩ : ∃ m, n = m + 1 := ⟨n - 1, by omega⟩
  rfl
theorem cLs_eq : ∀ (n : Nat) {o : Option (List UInt8)} {D : List Svc} {r : List UInt8}, (cLs n o D).2 = some r → ∃ X : List Svc, X.length = n ∧ (cLs n o D).1 = D ++ X ∧ o = some (X.flatMap elB ++ r)
  | 0, o, D, r, h => ⟨[], rfl, by simp [cLs], by simpa [cLs] using h⟩
  | n + 1, none, D, r, h => by simp [cLs] at h
  | n + 1, some l, D, r, h => by
    simp only [cLs] at h ⊢
    obtain ⟨X, h1, h2, h3⟩ := cLs_eq n h
    refine ⟨(cEl (some l)).1 :: X, by simp [h1], by rw [h2]; simp, ?_⟩
    rw [List.flatMap_cons, List.append_assoc]
    exact cEl_eq h3
theorem cLs_el : ∀ (E : List Svc), (∀ m ∈ E, wob m) → ∀ (D : List Svc) (r : List UInt8), cLs E.length (some (E.flatMap elB ++ r)) D = (D ++ E, some r)
  | [], _, D, r => by simp [cLs]
  | m :: E, h, D, r => by
    rw [List.flatMap_cons, List.append_assoc, List.length_cons, cLs, cEl_el (h m List.mem_cons_self)]
    simp only
    rw [cLs_el E (fun x hx => h x (List.mem_cons_of_mem _ hx)) (D ++ [m]) r, List.append_assoc]; rfl
theorem cList_eq {m : Int} {o : Option (List UInt8)} {r : List UInt8} (h : (cList m o).2 = some r) : o = some (numB (cList m o).1.length ++ (cList m o).1.flatMap elB ++ r) := by
  unfold cList at h ⊢
  obtain ⟨X, h1, h2, h3⟩ := cLs_eq _ h
  obtain ⟨h4, h5⟩ := cC_eq h3
  rw [h2, List.nil_append, h1, show (((cC m o).1.toNat : Nat) : Int) = (cC m o).1 by omega, List.append_assoc]
  exact h4
theorem cList_el {E : List Svc} (hl : E.length ≤ 40) (h : ∀ m ∈ E, wob m) (r : List UInt8) : cList 40 (some (numB E.length ++ E.flatMap elB ++ r)) = (E, some r) := by
  unfold cList
  have e := cC_num (m := 40) hl (by omega) (E.flatMap elB ++ r)
  rw [List.append_assoc]
  rw [show ((40 : Nat) : Int) = 40 from rfl] at e
  rw [e]
  simp only
  rw [Int.toNat_natCast, cLs_el E h [] r, List.nil_append]
end Sv

namespace Gw
def cEl (o : Option (List UInt8)) : Gwy × Option (List UInt8) :=
  let a0 := cT o
  let a1 := cN a0.2
  let a2 := cN a1.2
  (⟨a0.1, a1.1, a2.1⟩, a2.2)
def wob (m : Gwy) : Prop := m.centre.size ≤ 1000 ∧ sm m.addr ∧ sm m.version
theorem wob_of {m : Gwy} (h : m.e = 0) : wob m := by
  unfold Gwy.e at h
  split at h
  · rename_i h1
    split at h
    · rename_i h2
      split at h
      · rename_i h3
        exact ⟨lab_size h1, within_sm h2 (by omega) (by omega), within_sm h3 (by omega) (by omega)⟩
      · cases h
    · cases h
  · cases h
theorem cEl_eq {o : Option (List UInt8)} {r : List UInt8} (h : (cEl o).2 = some r) : o = some (elB (cEl o).1 ++ r) := by
  unfold cEl at h ⊢
  simp only at h ⊢
  have e2 := cN_eq h
  have e1 := cN_eq e2.1
  have e0 := cT_eq e1.1
  refine e0.trans ?_
  unfold elB
  simp only [List.flatMap_cons, List.flatMap_nil, List.append_nil, List.append_assoc]
theorem cEl_el {m : Gwy} (h : wob m) (r : List UInt8) : cEl (some (elB m ++ r)) = (m, some r) := by
  obtain ⟨h0, h1, h2⟩ := h
  unfold cEl elB
  simp only [List.flatMap_cons, List.flatMap_nil, List.append_nil, List.append_assoc, cT_txt h0, cN_num h1, cN_num h2]
def cLs : Nat → Option (List UInt8) → List Gwy → List Gwy × Option (List UInt8)
  | 0, o, D => (D, o)
  | _ + 1, none, D => (D, none)
  | n + 1, some l, D => cLs n (cEl (some l)).2 (D ++ [(cEl (some l)).1])
def cList (most : Int) (o : Option (List UInt8)) : List Gwy × Option (List UInt8) := cLs (cC most o).1.toNat (cC most o).2 []
theorem cLs_bad (n : Nat) (D : List Gwy) : cLs n none D = (D, none) := by cases n <;> rfl
theorem cLs_go {n : Nat} {l : List UInt8} {D : List Gwy} (h : 0 < n) : cLs n (some l) D = cLs (n - 1) (cEl (some l)).2 (D ++ [(cEl (some l)).1]) := by
  obtain ⟨m, rfl⟩ : ∃ m, n = m + 1 := ⟨n - 1, by omega⟩
  rfl
theorem cLs_eq : ∀ (n : Nat) {o : Option (List UInt8)} {D : List Gwy} {r : List UInt8}, (cLs n o D).2 = some r → ∃ X : List Gwy, X.length = n ∧ (cLs n o D).1 = D ++ X ∧ o = some (X.flatMap elB ++ r)
  | 0, o, D, r, h => ⟨[], rfl, by simp [cLs], by simpa [cLs] using h⟩
  | n + 1, none, D, r, h => by simp [cLs] at h
  | n + 1, some l, D, r, h => by
    simp only [cLs] at h ⊢
    obtain ⟨X, h1, h2, h3⟩ := cLs_eq n h
    refine ⟨(cEl (some l)).1 :: X, by simp [h1], by rw [h2]; simp, ?_⟩
    rw [List.flatMap_cons, List.append_assoc]
    exact cEl_eq h3
theorem cLs_el : ∀ (E : List Gwy), (∀ m ∈ E, wob m) → ∀ (D : List Gwy) (r : List UInt8), cLs E.length (some (E.flatMap elB ++ r)) D = (D ++ E, some r)
  | [], _, D, r => by simp [cLs]
  | m :: E, h, D, r => by
    rw [List.flatMap_cons, List.append_assoc, List.length_cons, cLs, cEl_el (h m List.mem_cons_self)]
    simp only
    rw [cLs_el E (fun x hx => h x (List.mem_cons_of_mem _ hx)) (D ++ [m]) r, List.append_assoc]; rfl
theorem cList_eq {m : Int} {o : Option (List UInt8)} {r : List UInt8} (h : (cList m o).2 = some r) : o = some (numB (cList m o).1.length ++ (cList m o).1.flatMap elB ++ r) := by
  unfold cList at h ⊢
  obtain ⟨X, h1, h2, h3⟩ := cLs_eq _ h
  obtain ⟨h4, h5⟩ := cC_eq h3
  rw [h2, List.nil_append, h1, show (((cC m o).1.toNat : Nat) : Int) = (cC m o).1 by omega, List.append_assoc]
  exact h4
theorem cList_el {E : List Gwy} (hl : E.length ≤ 6) (h : ∀ m ∈ E, wob m) (r : List UInt8) : cList 6 (some (numB E.length ++ E.flatMap elB ++ r)) = (E, some r) := by
  unfold cList
  have e := cC_num (m := 6) hl (by omega) (E.flatMap elB ++ r)
  rw [List.append_assoc]
  rw [show ((6 : Nat) : Int) = 6 from rfl] at e
  rw [e]
  simp only
  rw [Int.toNat_natCast, cLs_el E h [] r, List.nil_append]
end Gw

namespace Wh
def cEl (o : Option (List UInt8)) : Whe × Option (List UInt8) :=
  let a0 := cT o
  let a1 := cN a0.2
  let a2 := cN a1.2
  let a3 := cN a2.2
  let a4 := cN a3.2
  let a5 := cN a4.2
  (⟨a0.1, a1.1, a2.1, a3.1, a4.1, a5.1⟩, a5.2)
def wob (m : Whe) : Prop := m.node.size ≤ 1000 ∧ sm m.x ∧ sm m.y ∧ sm m.z ∧ sm m.h ∧ sm m.s
theorem wob_of {m : Whe} (h : m.e = 0) : wob m := by
  unfold Whe.e at h
  split at h
  · rename_i h1
    obtain ⟨a0, a1, a2, a3, a4, a5, a6, a7, a8, a9⟩ := (okP_iff _).1 h
    simp only at a0 a1 a2 a3 a4 a5 a6 a7 a8 a9
    exact ⟨lab_size h1, by unfold sm; omega, by unfold sm; omega, by unfold sm; omega, by unfold sm; omega, by unfold sm; omega⟩
  · cases h
theorem cEl_eq {o : Option (List UInt8)} {r : List UInt8} (h : (cEl o).2 = some r) : o = some (elB (cEl o).1 ++ r) := by
  unfold cEl at h ⊢
  simp only at h ⊢
  have e5 := cN_eq h
  have e4 := cN_eq e5.1
  have e3 := cN_eq e4.1
  have e2 := cN_eq e3.1
  have e1 := cN_eq e2.1
  have e0 := cT_eq e1.1
  refine e0.trans ?_
  unfold elB
  simp only [List.flatMap_cons, List.flatMap_nil, List.append_nil, List.append_assoc]
theorem cEl_el {m : Whe} (h : wob m) (r : List UInt8) : cEl (some (elB m ++ r)) = (m, some r) := by
  obtain ⟨h0, h1, h2, h3, h4, h5⟩ := h
  unfold cEl elB
  simp only [List.flatMap_cons, List.flatMap_nil, List.append_nil, List.append_assoc, cT_txt h0, cN_num h1, cN_num h2, cN_num h3, cN_num h4, cN_num h5]
def cLs : Nat → Option (List UInt8) → List Whe → List Whe × Option (List UInt8)
  | 0, o, D => (D, o)
  | _ + 1, none, D => (D, none)
  | n + 1, some l, D => cLs n (cEl (some l)).2 (D ++ [(cEl (some l)).1])
def cList (most : Int) (o : Option (List UInt8)) : List Whe × Option (List UInt8) := cLs (cC most o).1.toNat (cC most o).2 []
theorem cLs_bad (n : Nat) (D : List Whe) : cLs n none D = (D, none) := by cases n <;> rfl
theorem cLs_go {n : Nat} {l : List UInt8} {D : List Whe} (h : 0 < n) : cLs n (some l) D = cLs (n - 1) (cEl (some l)).2 (D ++ [(cEl (some l)).1]) := by
  obtain ⟨m, rfl⟩ : ∃ m, n = m + 1 := ⟨n - 1, by omega⟩
  rfl
theorem cLs_eq : ∀ (n : Nat) {o : Option (List UInt8)} {D : List Whe} {r : List UInt8}, (cLs n o D).2 = some r → ∃ X : List Whe, X.length = n ∧ (cLs n o D).1 = D ++ X ∧ o = some (X.flatMap elB ++ r)
  | 0, o, D, r, h => ⟨[], rfl, by simp [cLs], by simpa [cLs] using h⟩
  | n + 1, none, D, r, h => by simp [cLs] at h
  | n + 1, some l, D, r, h => by
    simp only [cLs] at h ⊢
    obtain ⟨X, h1, h2, h3⟩ := cLs_eq n h
    refine ⟨(cEl (some l)).1 :: X, by simp [h1], by rw [h2]; simp, ?_⟩
    rw [List.flatMap_cons, List.append_assoc]
    exact cEl_eq h3
theorem cLs_el : ∀ (E : List Whe), (∀ m ∈ E, wob m) → ∀ (D : List Whe) (r : List UInt8), cLs E.length (some (E.flatMap elB ++ r)) D = (D ++ E, some r)
  | [], _, D, r => by simp [cLs]
  | m :: E, h, D, r => by
    rw [List.flatMap_cons, List.append_assoc, List.length_cons, cLs, cEl_el (h m List.mem_cons_self)]
    simp only
    rw [cLs_el E (fun x hx => h x (List.mem_cons_of_mem _ hx)) (D ++ [m]) r, List.append_assoc]; rfl
theorem cList_eq {m : Int} {o : Option (List UInt8)} {r : List UInt8} (h : (cList m o).2 = some r) : o = some (numB (cList m o).1.length ++ (cList m o).1.flatMap elB ++ r) := by
  unfold cList at h ⊢
  obtain ⟨X, h1, h2, h3⟩ := cLs_eq _ h
  obtain ⟨h4, h5⟩ := cC_eq h3
  rw [h2, List.nil_append, h1, show (((cC m o).1.toNat : Nat) : Int) = (cC m o).1 by omega, List.append_assoc]
  exact h4
theorem cList_el {E : List Whe} (hl : E.length ≤ 20) (h : ∀ m ∈ E, wob m) (r : List UInt8) : cList 20 (some (numB E.length ++ E.flatMap elB ++ r)) = (E, some r) := by
  unfold cList
  have e := cC_num (m := 20) hl (by omega) (E.flatMap elB ++ r)
  rw [List.append_assoc]
  rw [show ((20 : Nat) : Int) = 20 from rfl] at e
  rw [e]
  simp only
  rw [Int.toNat_natCast, cLs_el E h [] r, List.nil_append]
end Wh

/-- I3: a packet, by the document. -/
def cPk (o : Option (List UInt8)) : Pk × Option (List UInt8) :=
  let a0 := cT o
  let a1 := cY a0.2
  let a2 := cList 20 a1.2
  let a3 := Sv.cList 40 a2.2
  let a4 := Gw.cList 6 a3.2
  let a5 := Wh.cList 20 a4.2
  (⟨a0.1, a1.1, a2.1, a3.1, a4.1, a5.1⟩, a5.2)
theorem cPk_eq {o : Option (List UInt8)} {r : List UInt8} (h : (cPk o).2 = some r) : o = some ((cPk o).1.B ++ r) := by
  unfold cPk at h ⊢
  simp only at h ⊢
  have e5 := Wh.cList_eq h
  have e4 := Gw.cList_eq e5
  have e3 := Sv.cList_eq e4
  have e2 := cList_eq e3
  have e1 := cY_eq e2
  have e0 := cT_eq e1
  refine e0.trans ?_
  unfold Pk.B
  simp only [List.append_assoc]
structure Pk.Wob (p : Pk) : Prop where
  frm : p.frm.size ≤ 1000
  ms : p.ms.length ≤ 20 ∧ ∀ m ∈ p.ms, wob m
  sv : p.sv.length ≤ 40 ∧ ∀ m ∈ p.sv, Sv.wob m
  gw : p.gw.length ≤ 6 ∧ ∀ m ∈ p.gw, Gw.wob m
  wh : p.wh.length ≤ 20 ∧ ∀ m ∈ p.wh, Wh.wob m
theorem pk_wob {p : Pk} (h : p.e = 0) : p.Wob := by
  unfold Pk.e at h
  split at h
  · rename_i h0
    rw [Bool.and_eq_true] at h0
    split at h
    · rename_i h1
      have hm : p.ms.length ≤ 20 ∧ ∀ m ∈ p.ms, wob m := by
        unfold Pk.mE at h1
        split at h1
        · exact ⟨(chk_zero h1).1, fun m hm => wob_of (firstE_mem _ (chk_firstE h1) m hm)⟩
        · obtain ⟨a, b, _⟩ := chkT_zero h1
          exact ⟨by omega, fun m hm => wob_of (firstE_mem _ b m hm)⟩
      split at h
      · rename_i h2
        split at h
        · rename_i h3
          exact ⟨lab_size h0.1, hm, ⟨(Sv.chk_zero h2).1, fun m hm => Sv.wob_of (Sv.firstE_mem _ (Sv.chk_zero h2).2.2 m hm)⟩, ⟨(Gw.chk_zero h3).1, fun m hm => Gw.wob_of (Gw.firstE_mem _ (Gw.chk_zero h3).2.2 m hm)⟩, ⟨(Wh.chk_zero h).1, fun m hm => Wh.wob_of (Wh.firstE_mem _ (Wh.chk_zero h).2.2 m hm)⟩⟩
        · rename_i h3; exact absurd h h3
      · rename_i h2; exact absurd h h2
    · rename_i h1; exact absurd h h1
  · cases h
theorem cPk_B {p : Pk} (h : p.Wob) (r : List UInt8) : cPk (some (p.B ++ r)) = (p, some r) := by
  unfold cPk Pk.B
  rw [List.append_assoc, List.append_assoc, List.append_assoc, List.append_assoc, List.append_assoc]
  simp only [cT_txt h.frm, cY_flg, cList_el h.ms.1 h.ms.2, Sv.cList_el h.sv.1 h.sv.2, Gw.cList_el h.gw.1 h.gw.2, Wh.cList_el h.wh.1 h.wh.2]
/-- The document reads what the program reads. -/
theorem cPk_rdR (l : List UInt8) : (if (cPk (some l)).2 = some [] ∧ (cPk (some l)).1.e = 0 then some (cPk (some l)).1 else none) = rdR l := by
  cases hr : rdR l with
  | some p =>
    obtain ⟨h1, h2⟩ := rdR_some.1 hr
    have h := cPk_B (pk_wob h2) []
    rw [List.append_nil, ← h1] at h
    rw [h, if_pos ⟨rfl, h2⟩]
  | none =>
    split
    · rename_i h
      have e := cPk_eq h.1
      rw [List.append_nil, Option.some.injEq] at e
      have := rdR_some.2 ⟨e, h.2⟩
      rw [hr] at this
      cases this
    · rfl

end Go.Proofs.YtdfkpehggecbaaaGreatDoor

/- Pieces of a function's text. -/
namespace Go.Proofs.YtdfkpehggecbaaaGreatDoor
open Go.RowKit

/-- The region of that number in a text; the block of that number. -/
def regIn (n : Nat) : Code → Option Code
  | .region m ops d => if m = n then some (.region m ops d) else none
  | .loop c => regIn n c
  | .seq a b => match regIn n a with
    | some c => some c
    | none => regIn n b
  | .block _ c => regIn n c
  | .cond _ a b => match regIn n a with
    | some c => some c
    | none => regIn n b
  | _ => none
def blkIn (n : Nat) : Code → Option Code
  | .loop c => blkIn n c
  | .seq a b => match blkIn n a with
    | some c => some c
    | none => blkIn n b
  | .block m c => if m = n then some (.block m c) else blkIn n c
  | .cond _ a b => match blkIn n a with
    | some c => some c
    | none => blkIn n b
  | _ => none

end Go.Proofs.YtdfkpehggecbaaaGreatDoor

/- The document's cursor: number. -/
namespace Go.Proofs.YtdfkpehggecbaaaGreatDoor
open Go.RowKit

/-- At c lies a cursor over s, at a. -/
abbrev QC (c : Nat) (s : ByteArray) (a : Nat) (bad : Bool) (w : World) : Prop := w.heap[c]? = some (.cells #[.string s, .int .i64 a, .bool bad] 74 (0, 0))
/-- What is left; nothing, if it is bad. -/
def IsQ (c : Nat) (s : ByteArray) (o : Option (List UInt8)) (w : World) : Prop := ∃ a : Nat, a ≤ s.size ∧ (∀ l, o = some l → s.data.toList.drop a = l) ∧ QC c s a o.isNone w
theorem QC.at {c a : Nat} {s : ByteArray} {bad : Bool} {W : World} (h : QC c s a bad W) (b : Nat) : QC c s b bad (W.setCell ⟨c, 1, none⟩ (.int .i64 b)) := Joins.block_setCell (i := 1) h (.int .i64 b)
theorem QC.spoil {c a : Nat} {s : ByteArray} {bad : Bool} {W : World} (h : QC c s a bad W) (b : Bool) : QC c s a b (W.setCell ⟨c, 2, none⟩ (.bool b)) := Joins.block_setCell (i := 2) h (.bool b)
theorem Rp.one {g i : Nat} {w w1 : World} (h : Rp g w w1) (v : Value) : Rp g w (w1.setCell ⟨g, i, none⟩ v) :=
  ⟨h.os, h.tape, h.output, by simpa using h.size, fun k hk hg => (Below.heap_setCell _ _ _ k hg).trans (h.block k hk hg)⟩
theorem Rp.drewN {g : Nat} {w w1 : World} (h : Rp g w w1) (n : Nat) : Rp g w (w1.drewN n) := ⟨h.os, h.tape, h.output, h.size, h.block⟩
theorem drop_at {s : ByteArray} {a : Nat} (h : a < s.size) : s.data.toList.drop a = s[a] :: s.data.toList.drop (a + 1) := by
  have h' : a < s.data.toList.length := h
  rw [List.drop_eq_getElem_cons h']
  congr 1
theorem drop_end {s : ByteArray} {a : Nat} (h : s.size ≤ a) : s.data.toList.drop a = [] := List.drop_eq_nil_of_le h
theorem ext_take {s : ByteArray} {a b : Nat} : (s.extract a b).data.toList = (s.data.toList.drop a).take (b - a) := by
  rw [ByteArray.data_extract]; simp [List.extract]
theorem free3 {W : World} {b : Nat} {T : TypeId} {C : Array Value} (h : W.heap[b]? = some (.cells C T (0, 0))) (i : Nat) : W.frozen? ⟨b, i, none⟩ = false := by simp [World.frozen?, h]
theorem cells3 {W : World} {b : Nat} {T : TypeId} {f : Nat × Nat} {c0 c1 c2 : Value} (h : W.heap[b]? = some (.cells #[c0, c1, c2] T f)) : W.cell? ⟨b, 0, none⟩ = some c0 ∧ W.cell? ⟨b, 1, none⟩ = some c1 ∧ W.cell? ⟨b, 2, none⟩ = some c2 := ⟨cellsAt h 0, cellsAt h 1, cellsAt h 2⟩
/-- Does the document read on? -/
def goB (m : Nat) (l : List UInt8) : Bool := match l with
  | c :: _ => decide (48 ≤ c.toNat ∧ c.toNat ≤ 57 ∧ m < 1099511627776)
  | [] => false
theorem goB_no {m : Nat} {l : List UInt8} (h : goB m l = false) : dgs m l = (m, 0) := by
  cases l with
  | nil => rfl
  | cons c r =>
    rw [dgs, if_neg (by simpa [goB] using h)]
theorem goB_yes {m : Nat} {c : UInt8} {r : List UInt8} (h : goB m (c :: r) = true) : (48 ≤ c.toNat ∧ c.toNat ≤ 57 ∧ m < 1099511627776) ∧ dgs m (c :: r) = ((dgs (10 * m + (c.toNat - 48)) r).1, (dgs (10 * m + (c.toNat - 48)) r).2 + 1) := by
  have h' : 48 ≤ c.toNat ∧ c.toNat ≤ 57 ∧ m < 1099511627776 := by simpa [goB] using h
  exact ⟨h', by rw [dgs, if_pos h']⟩
theorem goB_lt {m : Nat} {s : ByteArray} {b : Nat} (h : goB m (s.data.toList.drop b) = true) : b < s.size := by
  apply Classical.byContradiction
  intro hn
  rw [drop_end (by omega)] at h
  cases h

/-- What number leaves: it was read, or the cursor is bad. -/
def NumSays (c : Nat) (s : ByteArray) (a : Nat) (bad : Bool) (FL : Nat) (N : Int) (L : List UInt8) (w : World) (e : Ending) (w' : World) : Prop :=
  Rp c w w' ∧ (((bad = false ∧ FL < L.length ∧ L.take (FL + 1) = numB N) ∧ e = .returned (.int .i64 N) ∧ QC c s (a + FL + 1) false w') ∨ (¬ (bad = false ∧ FL < L.length ∧ L.take (FL + 1) = numB N) ∧ e = .returned (.int .i64 0) ∧ ∃ b, b ≤ s.size ∧ QC c s b true w'))

set_option maxHeartbeats 200000000 in
set_option maxRecDepth 100000 in
theorem cnum_walk (c a : Nat) (s : ByteArray) (bad : Bool) (w : World) (h : QC c s a bad w) (hs : s.size ≤ 16777216) (ha : a ≤ s.size) :
    Calls Tryz.prog 39 #[.pointer (some ⟨c, 0, none⟩)] w (NumSays c s a bad (far (s.data.toList.drop a)) (val (s.data.toList.drop a)) (s.data.toList.drop a) w) := by
  have HQ : Hid (QC c s a bad w) := h
  have HR : Hid (Rp c w w) := Rp.refl _ _
  have hcl : c < w.heap.size := (Array.getElem?_eq_some_iff.1 h).1
  obtain ⟨L, hL⟩ : ∃ L, L = s.data.toList.drop a := ⟨_, rfl⟩
  have HL : Hid (L = s.data.toList.drop a) := hL
  rw [← hL]
  clear hL
  have HLL : Hid (L.length = s.size - a) := by
    show _ = _
    rw [HL.out, List.length_drop]; rfl
  obtain ⟨x0, x1, x2⟩ := cells3 h
  clear h
  have HNG : Hid (ngB L = true → a < s.size ∧ bhd L = s.data.toList.drop (a + 1)) := fun hn => by
    have hlt : a < s.size := by
      apply Classical.byContradiction
      intro h2
      rw [HL.out, drop_end (by omega)] at hn
      cases hn
    refine ⟨hlt, ?_⟩
    unfold bhd
    rw [if_pos hn, HL.out, drop_at hlt]; rfl
  have HNO : Hid (ngB L = false → bhd L = s.data.toList.drop a) := fun hn => by
    unfold bhd
    rw [if_neg (by rw [hn]; exact Bool.false_ne_true)]; exact HL.out
  have HAT : Hid (∀ ha : a < s.size, (((s[a].toNat : Nat) : Int) == 45) = ngB L) := fun ha => by
    rw [HL.out, drop_at ha]
    unfold ngB
    split
    · rename_i q hq
      simp only [List.cons.injEq] at hq
      rw [hq.1]; rfl
    · rename_i hq
      apply Bool.eq_false_iff.2
      intro h2
      have h3 : (s[a].toNat : Int) = 45 := by simpa using h2
      exact hq _ (by rw [show s[a] = 45 from UInt8.toNat_inj.1 (by have : (45 : UInt8).toNat = 45 := rfl; omega)])
  have HEMP : Hid (¬ a < s.size → ngB L = false) := fun h2 => by
    rw [HL.out, drop_end (by omega)]; rfl
  obtain ⟨FL, hFL⟩ : ∃ FL, FL = far L := ⟨_, rfl⟩
  obtain ⟨N, hNL⟩ : ∃ N, N = val L := ⟨_, rfl⟩
  have HFN : Hid (FL = far L ∧ N = val L) := ⟨hFL, hNL⟩
  rw [← hFL, ← hNL]
  clear hFL hNL
  generalize hng : ngB L = ng at *
  have HNGE : Hid (ngB L = ng) := hng
  clear hng
  go_enter Tryz.func39, Tryz.ntmps39
  go_upto_region 2 with fail
  go_cut [4] from 10 to 31 (fun b wx => b = .bool ng ∧ Hid (QC c s a bad wx ∧ Rp c w wx))
  case first =>
    by_cases hlt : a < s.size
    · have hd : decide ((a : Int) < (s.size : Int)) = true := by simp; omega
      have hi0 : (0 : Int) ≤ (a : Int) := by omega
      have hi1 : (a : Int) < (s.size : Int) := by omega
      have hi2 : ((a : Int)).toNat = a := by omega
      have hat := HAT.out hlt
      go_quiet (fail)
      go_wp2_with fail
      go_meet
      case rel => exact ⟨by first | rfl | (rw [← hat]) | (simp [← hat]), HQ.out, HR.out.drewN _⟩
    · have hd : decide ((a : Int) < (s.size : Int)) = false := by simp; omega
      have hnf := HEMP.out hlt
      subst hnf
      go_quiet (fail)
      go_wp2_with fail
      go_meet
      case rel => exact ⟨rfl, HQ.out, HR.out.drewN _⟩
  case rest =>
    obtain ⟨rfl, HW⟩ := hcut
    clear x0 x1 x2 HQ HR HAT HEMP
    cases ng with
    | true =>
      have hng : ngB L = true := HNGE.out
      obtain ⟨hal, hbh⟩ := HNG.out rfl
      have HBH : Hid (bhd L = s.data.toList.drop (a + 1)) := hbh
      obtain ⟨y0, y1, y2⟩ := cells3 HW.out.1
      have z1 := free3 HW.out.1 1
      have HFAR : Hid (FL = 1 + (dgs 0 (bhd L)).2 ∧ N = -((dgs 0 (bhd L)).1 : Int)) := by
        rw [HFN.out.1, HFN.out.2]
        unfold far val; rw [if_pos hng, if_pos hng]; exact ⟨rfl, rfl⟩
      clear hng hbh HNO HNG
      go_wp2_with fail
      have HS : Hid (QC c s (a + 1) bad (wc.setCell ⟨c, 1, none⟩ (.int .i64 ((a + 1 : Nat) : Int))) ∧ Rp c w (wc.setCell ⟨c, 1, none⟩ (.int .i64 ((a + 1 : Nat) : Int)))) := ⟨HW.out.1.at (a + 1), HW.out.2.one _⟩
      have hal1 : a + 1 ≤ s.size := hal
      go_loopw [5] (fun vn wr => ∃ (m j : Nat), vn = .int .i64 m ∧ m < 10995116277760 ∧ (a + 1) + j ≤ s.size ∧ Hid (dgs 0 (s.data.toList.drop (a + 1)) = ((dgs m (s.data.toList.drop ((a + 1) + j))).1, (dgs m (s.data.toList.drop ((a + 1) + j))).2 + j)) ∧ Hid (QC c s ((a + 1) + j) bad wr ∧ Rp c w wr)) (fun _ wr => s.size - (match wr.cell? ⟨c, 1, none⟩ with | some v => (intOf v).toNat | none => 0))
      case atStart => exact ⟨0, 0, rfl, by omega, hal1, rfl, HS⟩
      case round =>
        obtain ⟨m, j, rfl, hm, hj, HD, HQ⟩ := hrel
        obtain ⟨y0, y1, y2⟩ := cells3 HQ.out.1
        have HY1 : Hid (wr.cell? ⟨c, 1, none⟩ = some (.int .i64 (((a + 1) + j : Nat) : Int))) := y1
        have z1 := free3 HQ.out.1 1
        have z2 := free3 HQ.out.1 2
        generalize hb : (a + 1) + j = b at *
        have HBJ : Hid ((a + 1) + j = b) := hb
        clear hb
        obtain ⟨gB, hgB⟩ : ∃ g, goB m (s.data.toList.drop b) = g := ⟨_, rfl⟩
        have HGB : Hid (goB m (s.data.toList.drop b) = gB) := hgB
        clear hgB
        go_upto_region 6 with fail
        go_cut [77] from 40 to 98 (fun g wx => g = .bool gB ∧ Hid (QC c s b bad wx ∧ Rp c w wx))
        case first =>
          by_cases hlt : b < s.size
          · have d1 : decide ((b : Int) < (s.size : Int)) = true := by simp; omega
            have hi0 : (0 : Int) ≤ (b : Int) := by omega
            have hi1 : (b : Int) < (s.size : Int) := by omega
            have hi2 : ((b : Int)).toNat = b := by omega
            have hgb : decide (48 ≤ s[b].toNat ∧ s[b].toNat ≤ 57 ∧ m < 1099511627776) = gB := by
              have := HGB.out
              rw [drop_at hlt] at this
              exact this
            by_cases e1 : 48 ≤ s[b].toNat
            · have d2 : decide ((48 : Int) ≤ ((s[b].toNat : Nat) : Int)) = true := by simp; omega
              by_cases e2 : s[b].toNat ≤ 57
              · have d3 : decide (((s[b].toNat : Nat) : Int) ≤ (57 : Int)) = true := by simp; omega
                by_cases e3 : m < 1099511627776
                · have d4 : decide ((m : Int) < (1099511627776 : Int)) = true := by simp; omega
                  have hg1 : gB = true := by rw [← hgb]; exact decide_eq_true ⟨e1, e2, e3⟩
                  subst hg1
                  clear hgb e1 e2 e3
                  go_quiet (fail)
                  go_wp2_with fail
                  go_meet
                  case rel => exact ⟨rfl, HQ.out.1, HQ.out.2.drewN _⟩
                · have d4 : decide ((m : Int) < (1099511627776 : Int)) = false := by simp; omega
                  have hg1 : gB = false := by rw [← hgb]; exact decide_eq_false (fun h => e3 h.2.2)
                  subst hg1
                  clear hgb e1 e2 e3
                  go_quiet (fail)
                  go_wp2_with fail
                  go_meet
                  case rel => exact ⟨rfl, HQ.out.1, HQ.out.2.drewN _⟩
              · have d3 : decide (((s[b].toNat : Nat) : Int) ≤ (57 : Int)) = false := by simp; omega
                have hg1 : gB = false := by rw [← hgb]; exact decide_eq_false (fun h => e2 h.2.1)
                subst hg1
                clear hgb e1 e2
                go_quiet (fail)
                go_wp2_with fail
                go_meet
                case rel => exact ⟨rfl, HQ.out.1, HQ.out.2.drewN _⟩
            · have d2 : decide ((48 : Int) ≤ ((s[b].toNat : Nat) : Int)) = false := by simp; omega
              have hg1 : gB = false := by rw [← hgb]; exact decide_eq_false (fun h => e1 h.1)
              subst hg1
              clear hgb e1
              go_quiet (fail)
              go_wp2_with fail
              go_meet
              case rel => exact ⟨rfl, HQ.out.1, HQ.out.2.drewN _⟩
          · have d1 : decide ((b : Int) < (s.size : Int)) = false := by simp; omega
            have hg1 : gB = false := by
              have := HGB.out
              rw [drop_end (by omega)] at this
              exact this.symm
            subst hg1
            go_quiet (fail)
            go_wp2_with fail
            go_meet
            case rel => exact ⟨rfl, HQ.out.1, HQ.out.2.drewN _⟩
        case rest =>
          obtain ⟨rfl, HWQ⟩ := hcut
          clear y0 y1 y2 z1 z2 HQ
          obtain ⟨y0, y1, y2⟩ := cells3 HWQ.out.1
          have z1 := free3 HWQ.out.1 1
          have z2 := free3 HWQ.out.1 2
          cases gB with
          | true =>
            have hlt := goB_lt HGB.out
            have hi0 : (0 : Int) ≤ (b : Int) := by omega
            have hi1 : (b : Int) < (s.size : Int) := by omega
            have hi2 : ((b : Int)).toNat = b := by omega
            have HST : Hid ((48 ≤ s[b].toNat ∧ s[b].toNat ≤ 57 ∧ m < 1099511627776) ∧ dgs m (s.data.toList.drop b) = ((dgs (10 * m + (s[b].toNat - 48)) (s.data.toList.drop (b + 1))).1, (dgs (10 * m + (s[b].toNat - 48)) (s.data.toList.drop (b + 1))).2 + 1)) := by
              have h1 := HGB.out
              rw [drop_at hlt] at h1 ⊢
              exact goB_yes h1
            have hw1 : IntKind.i64.wrap (10 * (m : Int)) = 10 * (m : Int) := by rw [IntKind.wrap_i64]; have := HST.out.1.2.2; omega
            have hw2 : IntKind.i64.wrap ((s[b].toNat : Nat) : Int) = ((s[b].toNat : Nat) : Int) := by rw [IntKind.wrap_i64]; have := s[b].toNat_lt; omega
            have hw3 : IntKind.i64.wrap (10 * (m : Int) + ((s[b].toNat : Nat) : Int)) = 10 * (m : Int) + ((s[b].toNat : Nat) : Int) := by rw [IntKind.wrap_i64]; have := HST.out.1; omega
            have hw4 : IntKind.i64.wrap (10 * (m : Int) + ((s[b].toNat : Nat) : Int) - 48) = ((10 * m + (s[b].toNat - 48) : Nat) : Int) := by rw [IntKind.wrap_i64]; have := HST.out.1; omega
            go_wp2_with fail
            go_quiet (fail)
            go_wp2_with fail
            have y1n : ((wc.drewN nq).setCell ⟨c, 1, none⟩ (.int .i64 ((b : Int) + 1))).cell? ⟨c, 1, none⟩ = some (.int .i64 ((b : Int) + 1)) := World.cell?_setCell_same _ _ _ (show (wc.drewN nq).cell? ⟨c, 1, none⟩ = some _ from y1)
            refine ⟨⟨10 * m + (s[b].toNat - 48), j + 1, congrArg (Value.int .i64) (by have := HST.out.1; omega), by have := HST.out.1; omega, by have := HBJ.out; omega, ?_, ?_, ?_⟩, ?_⟩
            · show _ = _
              have e := HD.out
              rw [HST.out.2] at e
              rw [e, show (a + 1) + (j + 1) = b + 1 by have := HBJ.out; omega]
              simp only [Nat.add_assoc, Nat.add_comm 1]
            · have e := (show QC c s b bad (wc.drewN nq) from HWQ.out.1).at (b + 1)
              rw [show (a + 1) + (j + 1) = b + 1 by have := HBJ.out; omega]
              exact e
            · exact (HWQ.out.2.drewN _).one _
            · rw [y1n, HY1.out]
              simp only [intOf]
              have := HBJ.out
              omega
          | false =>
            have hdn : dgs 0 (s.data.toList.drop (a + 1)) = (m, j) := by
              rw [HD.out, goB_no HGB.out]; simp
            have HFB : Hid (a + FL = b) := by
              show _ = _
              have h1 := HFAR.out.1
              rw [HBH.out, hdn] at h1
              have h2 := HBJ.out
              simp only at h1
              omega
            have HVL : Hid (N = -(m : Int)) := by
              have h1 := HFAR.out.2
              rw [HBH.out, hdn] at h1
              exact h1
            have HSM : Hid (In63 (-(m : Int))) := by rw [← HVL.out, HFN.out.2]; exact sm_in (val_sm L)
            have hwn : IntKind.i64.wrap (-(m : Int)) = -(m : Int) := by rw [IntKind.wrap_i64]; omega
            clear hdn HD HGB HFAR HBH HFN
            cases bad with
            | true =>
              go_wp2_with fail
              go_quiet (fail)
              go_wp2_with fail
              go_ret
              exact ⟨(HWQ.out.2.drewN _).one _, .inr ⟨fun h => (by cases h.1), rfl, b, hj, (show QC c s b true (wc.drewN nq) from HWQ.out.1).spoil true⟩⟩
            | false =>
              by_cases hlt : b < s.size
              · have d1 : decide ((s.size : Int) ≤ (b : Int)) = false := by simp; omega
                have hwb : IntKind.i64.wrap ((b : Int) + 1) = ((b + 1 : Nat) : Int) := by rw [IntKind.wrap_i64]; omega
                have hi0 : (0 : Int) ≤ (a : Int) := by omega
                have hi1 : (a : Int) ≤ ((b + 1 : Nat) : Int) := by have := HFB.out; omega
                have hi2 : ((b + 1 : Nat) : Int) ≤ (s.size : Int) := by omega
                have hi3 : ((a : Int)).toNat = a := by omega
                have hi4 : (((b + 1 : Nat) : Int)).toNat = b + 1 := by omega
                obtain ⟨D, hD⟩ : ∃ D, D = bstr (numB (-(m : Int))) := ⟨_, rfl⟩
                have hN : ∀ d os, Calls Tryz.prog 25 #[.int .i64 (-(m : Int))] (Go.Sort.grow (redrawn wc d) os) fun e w'' => e = .returned (.string D) ∧ ∃ p : Regrown, w'' = Go.Sort.grow (redrawn wc p.d) p.os := fun d os => by rw [hD]; exact Calls.regrown_of (dec_any _ _ HSM.out)
                have F0 : ∀ d os, (Go.Sort.grow (redrawn wc d) os).cell? ⟨c, 0, none⟩ = some (.string s) := cell_regrown y0
                have F1 : ∀ d os, (Go.Sort.grow (redrawn wc d) os).cell? ⟨c, 1, none⟩ = some (.int .i64 (b : Int)) := cell_regrown y1
                have F2 : ∀ d os, (Go.Sort.grow (redrawn wc d) os).cell? ⟨c, 2, none⟩ = some (.bool false) := cell_regrown y2
                have HX : Hid ((s.extract a (b + 1)).data.toList = L.take (FL + 1)) := by
                  show _ = _
                  rw [ext_take, HL.out, show b + 1 - a = FL + 1 by have := HFB.out; omega]
                have HDD : Hid (D.data.toList = numB N) := by show _ = _; rw [hD, HVL.out]; exact bstr_list _
                have HLT : Hid (FL < L.length) := by show _ < _; have h1 := HLL.out; have h2 := HFB.out; omega
                have heq : ((s.extract a (b + 1)).toList == D.toList) = decide (L.take (FL + 1) = numB N) := by
                  rw [ByteArray.toList_eq, ByteArray.toList_eq, HX.out, HDD.out]
                  rw [Bool.eq_iff_iff]; simp
                clear hD
                generalize hbn : ((b + 1 : Nat) : Int) = bn at hwb hi1 hi2 hi4
                have HBN : Hid (((b + 1 : Nat) : Int) = bn) := hbn
                clear hbn
                by_cases hq : L.take (FL + 1) = numB N
                · have hqb : ((s.extract a (b + 1)).toList == D.toList) = true := by rw [heq]; exact decide_eq_true hq
                  have HQT : Hid (L.take (FL + 1) = numB N) := hq
                  clear heq hq y0 y1 y2
                  go_wp2_with fail
                  refine wp_region_quiet_below (by kernel_rfl) (by kernel_rfl) ?_
                  repeat (quiet_step (exact hN _ _))
                  refine wpQuiet_nil ?_
                  intro _ hw'
                  obtain ⟨⟨dq, osq⟩, hw''⟩ := hw'
                  subst hw''
                  have hbq : Below wc.heap.size wc (Go.Sort.grow (redrawn wc dq) osq) := below_regrown wc dq osq
                  clear hN F0 F1 F2
                  generalize Go.Sort.grow (redrawn wc dq) osq = wz at *
                  have HZ : Hid (QC c s b false wz ∧ Rp c w wz) := ⟨(hbq.block c (Array.getElem?_eq_some_iff.1 HWQ.out.1).1).trans HWQ.out.1, HWQ.out.2.trans (Rp.of_below hbq (Nat.le_refl _))⟩
                  obtain ⟨y0, y1, y2⟩ := cells3 HZ.out.1
                  have z1 := free3 HZ.out.1 1
                  clear hbq z2
                  go_wp2_with fail
                  go_ret
                  exact ⟨HZ.out.2.one _, .inl ⟨⟨rfl, HLT.out, HQT.out⟩, by rw [HVL.out]; rfl, by rw [HFB.out, ← HBN.out]; exact HZ.out.1.at (b + 1)⟩⟩
                · have hqb : ((s.extract a (b + 1)).toList == D.toList) = false := by rw [heq]; exact decide_eq_false hq
                  have HQT : Hid (¬ L.take (FL + 1) = numB N) := hq
                  clear heq hq y0 y1 y2
                  go_wp2_with fail
                  refine wp_region_quiet_below (by kernel_rfl) (by kernel_rfl) ?_
                  repeat (quiet_step (exact hN _ _))
                  refine wpQuiet_nil ?_
                  intro _ hw'
                  obtain ⟨⟨dq, osq⟩, hw''⟩ := hw'
                  subst hw''
                  have hbq : Below wc.heap.size wc (Go.Sort.grow (redrawn wc dq) osq) := below_regrown wc dq osq
                  clear hN F0 F1 F2
                  generalize Go.Sort.grow (redrawn wc dq) osq = wz at *
                  have HZ : Hid (QC c s b false wz ∧ Rp c w wz) := ⟨(hbq.block c (Array.getElem?_eq_some_iff.1 HWQ.out.1).1).trans HWQ.out.1, HWQ.out.2.trans (Rp.of_below hbq (Nat.le_refl _))⟩
                  obtain ⟨y0, y1, y2⟩ := cells3 HZ.out.1
                  have z2 := free3 HZ.out.1 2
                  clear hbq z1
                  go_wp2_with fail
                  go_ret
                  exact ⟨HZ.out.2.one _, .inr ⟨fun h => absurd h.2.2 HQT.out, rfl, b, hj, HZ.out.1.spoil true⟩⟩
              · have d1 : decide ((s.size : Int) ≤ (b : Int)) = true := by simp; omega
                go_wp2_with fail
                go_quiet (fail)
                go_wp2_with fail
                go_ret
                exact ⟨(HWQ.out.2.drewN _).one _, .inr ⟨fun h => (by have h1 := h.2.1; have h2 := HLL.out; have h3 := HFB.out; omega), rfl, b, hj, (show QC c s b false (wc.drewN nq) from HWQ.out.1).spoil true⟩⟩

    | false =>
      have hng : ngB L = false := HNGE.out
      have HBH : Hid (bhd L = s.data.toList.drop a) := HNO.out rfl
      have HFAR : Hid (FL = 0 + (dgs 0 (bhd L)).2 ∧ N = ((dgs 0 (bhd L)).1 : Int)) := by
        rw [HFN.out.1, HFN.out.2]
        unfold far val; rw [if_neg (by rw [hng]; exact Bool.false_ne_true), if_neg (by rw [hng]; exact Bool.false_ne_true)]; exact ⟨rfl, rfl⟩
      clear hng HNO HNG
      go_wp2_with fail
      have HS : Hid (QC c s a bad wc ∧ Rp c w wc) := HW
      have hal1 : a ≤ s.size := ha
      go_loopw [5] (fun vn wr => ∃ (m j : Nat), vn = .int .i64 m ∧ m < 10995116277760 ∧ a + j ≤ s.size ∧ Hid (dgs 0 (s.data.toList.drop a) = ((dgs m (s.data.toList.drop (a + j))).1, (dgs m (s.data.toList.drop (a + j))).2 + j)) ∧ Hid (QC c s (a + j) bad wr ∧ Rp c w wr)) (fun _ wr => s.size - (match wr.cell? ⟨c, 1, none⟩ with | some v => (intOf v).toNat | none => 0))
      case atStart => exact ⟨0, 0, rfl, by omega, hal1, rfl, HS⟩
      case round =>
        obtain ⟨m, j, rfl, hm, hj, HD, HQ⟩ := hrel
        obtain ⟨y0, y1, y2⟩ := cells3 HQ.out.1
        have HY1 : Hid (wr.cell? ⟨c, 1, none⟩ = some (.int .i64 ((a + j : Nat) : Int))) := y1
        have z1 := free3 HQ.out.1 1
        have z2 := free3 HQ.out.1 2
        generalize hb : a + j = b at *
        have HBJ : Hid (a + j = b) := hb
        clear hb
        obtain ⟨gB, hgB⟩ : ∃ g, goB m (s.data.toList.drop b) = g := ⟨_, rfl⟩
        have HGB : Hid (goB m (s.data.toList.drop b) = gB) := hgB
        clear hgB
        go_upto_region 6 with fail
        go_cut [77] from 40 to 98 (fun g wx => g = .bool gB ∧ Hid (QC c s b bad wx ∧ Rp c w wx))
        case first =>
          by_cases hlt : b < s.size
          · have d1 : decide ((b : Int) < (s.size : Int)) = true := by simp; omega
            have hi0 : (0 : Int) ≤ (b : Int) := by omega
            have hi1 : (b : Int) < (s.size : Int) := by omega
            have hi2 : ((b : Int)).toNat = b := by omega
            have hgb : decide (48 ≤ s[b].toNat ∧ s[b].toNat ≤ 57 ∧ m < 1099511627776) = gB := by
              have := HGB.out
              rw [drop_at hlt] at this
              exact this
            by_cases e1 : 48 ≤ s[b].toNat
            · have d2 : decide ((48 : Int) ≤ ((s[b].toNat : Nat) : Int)) = true := by simp; omega
              by_cases e2 : s[b].toNat ≤ 57
              · have d3 : decide (((s[b].toNat : Nat) : Int) ≤ (57 : Int)) = true := by simp; omega
                by_cases e3 : m < 1099511627776
                · have d4 : decide ((m : Int) < (1099511627776 : Int)) = true := by simp; omega
                  have hg1 : gB = true := by rw [← hgb]; exact decide_eq_true ⟨e1, e2, e3⟩
                  subst hg1
                  clear hgb e1 e2 e3
                  go_quiet (fail)
                  go_wp2_with fail
                  go_meet
                  case rel => exact ⟨rfl, HQ.out.1, HQ.out.2.drewN _⟩
                · have d4 : decide ((m : Int) < (1099511627776 : Int)) = false := by simp; omega
                  have hg1 : gB = false := by rw [← hgb]; exact decide_eq_false (fun h => e3 h.2.2)
                  subst hg1
                  clear hgb e1 e2 e3
                  go_quiet (fail)
                  go_wp2_with fail
                  go_meet
                  case rel => exact ⟨rfl, HQ.out.1, HQ.out.2.drewN _⟩
              · have d3 : decide (((s[b].toNat : Nat) : Int) ≤ (57 : Int)) = false := by simp; omega
                have hg1 : gB = false := by rw [← hgb]; exact decide_eq_false (fun h => e2 h.2.1)
                subst hg1
                clear hgb e1 e2
                go_quiet (fail)
                go_wp2_with fail
                go_meet
                case rel => exact ⟨rfl, HQ.out.1, HQ.out.2.drewN _⟩
            · have d2 : decide ((48 : Int) ≤ ((s[b].toNat : Nat) : Int)) = false := by simp; omega
              have hg1 : gB = false := by rw [← hgb]; exact decide_eq_false (fun h => e1 h.1)
              subst hg1
              clear hgb e1
              go_quiet (fail)
              go_wp2_with fail
              go_meet
              case rel => exact ⟨rfl, HQ.out.1, HQ.out.2.drewN _⟩
          · have d1 : decide ((b : Int) < (s.size : Int)) = false := by simp; omega
            have hg1 : gB = false := by
              have := HGB.out
              rw [drop_end (by omega)] at this
              exact this.symm
            subst hg1
            go_quiet (fail)
            go_wp2_with fail
            go_meet
            case rel => exact ⟨rfl, HQ.out.1, HQ.out.2.drewN _⟩
        case rest =>
          obtain ⟨rfl, HWQ⟩ := hcut
          clear y0 y1 y2 z1 z2 HQ
          obtain ⟨y0, y1, y2⟩ := cells3 HWQ.out.1
          have z1 := free3 HWQ.out.1 1
          have z2 := free3 HWQ.out.1 2
          cases gB with
          | true =>
            have hlt := goB_lt HGB.out
            have hi0 : (0 : Int) ≤ (b : Int) := by omega
            have hi1 : (b : Int) < (s.size : Int) := by omega
            have hi2 : ((b : Int)).toNat = b := by omega
            have HST : Hid ((48 ≤ s[b].toNat ∧ s[b].toNat ≤ 57 ∧ m < 1099511627776) ∧ dgs m (s.data.toList.drop b) = ((dgs (10 * m + (s[b].toNat - 48)) (s.data.toList.drop (b + 1))).1, (dgs (10 * m + (s[b].toNat - 48)) (s.data.toList.drop (b + 1))).2 + 1)) := by
              have h1 := HGB.out
              rw [drop_at hlt] at h1 ⊢
              exact goB_yes h1
            have hw1 : IntKind.i64.wrap (10 * (m : Int)) = 10 * (m : Int) := by rw [IntKind.wrap_i64]; have := HST.out.1.2.2; omega
            have hw2 : IntKind.i64.wrap ((s[b].toNat : Nat) : Int) = ((s[b].toNat : Nat) : Int) := by rw [IntKind.wrap_i64]; have := s[b].toNat_lt; omega
            have hw3 : IntKind.i64.wrap (10 * (m : Int) + ((s[b].toNat : Nat) : Int)) = 10 * (m : Int) + ((s[b].toNat : Nat) : Int) := by rw [IntKind.wrap_i64]; have := HST.out.1; omega
            have hw4 : IntKind.i64.wrap (10 * (m : Int) + ((s[b].toNat : Nat) : Int) - 48) = ((10 * m + (s[b].toNat - 48) : Nat) : Int) := by rw [IntKind.wrap_i64]; have := HST.out.1; omega
            go_wp2_with fail
            go_quiet (fail)
            go_wp2_with fail
            have y1n : ((wc.drewN nq).setCell ⟨c, 1, none⟩ (.int .i64 ((b : Int) + 1))).cell? ⟨c, 1, none⟩ = some (.int .i64 ((b : Int) + 1)) := World.cell?_setCell_same _ _ _ (show (wc.drewN nq).cell? ⟨c, 1, none⟩ = some _ from y1)
            refine ⟨⟨10 * m + (s[b].toNat - 48), j + 1, congrArg (Value.int .i64) (by have := HST.out.1; omega), by have := HST.out.1; omega, by have := HBJ.out; omega, ?_, ?_, ?_⟩, ?_⟩
            · show _ = _
              have e := HD.out
              rw [HST.out.2] at e
              rw [e, show a + (j + 1) = b + 1 by have := HBJ.out; omega]
              simp only [Nat.add_assoc, Nat.add_comm 1]
            · have e := (show QC c s b bad (wc.drewN nq) from HWQ.out.1).at (b + 1)
              rw [show a + (j + 1) = b + 1 by have := HBJ.out; omega]
              exact e
            · exact (HWQ.out.2.drewN _).one _
            · rw [y1n, HY1.out]
              simp only [intOf]
              have := HBJ.out
              omega
          | false =>
            have hdn : dgs 0 (s.data.toList.drop a) = (m, j) := by
              rw [HD.out, goB_no HGB.out]; simp
            have HFB : Hid (a + FL = b) := by
              show _ = _
              have h1 := HFAR.out.1
              rw [HBH.out, hdn] at h1
              have h2 := HBJ.out
              simp only at h1
              omega
            have HVL : Hid (N = (m : Int)) := by
              have h1 := HFAR.out.2
              rw [HBH.out, hdn] at h1
              exact h1
            have HSM : Hid (In63 ((m : Int))) := by rw [← HVL.out, HFN.out.2]; exact sm_in (val_sm L)
            have hwn : IntKind.i64.wrap (-(m : Int)) = -(m : Int) := by rw [IntKind.wrap_i64]; omega
            clear hdn HD HGB HFAR HBH HFN
            cases bad with
            | true =>
              go_wp2_with fail
              go_quiet (fail)
              go_wp2_with fail
              go_ret
              exact ⟨(HWQ.out.2.drewN _).one _, .inr ⟨fun h => (by cases h.1), rfl, b, hj, (show QC c s b true (wc.drewN nq) from HWQ.out.1).spoil true⟩⟩
            | false =>
              by_cases hlt : b < s.size
              · have d1 : decide ((s.size : Int) ≤ (b : Int)) = false := by simp; omega
                have hwb : IntKind.i64.wrap ((b : Int) + 1) = ((b + 1 : Nat) : Int) := by rw [IntKind.wrap_i64]; omega
                have hi0 : (0 : Int) ≤ (a : Int) := by omega
                have hi1 : (a : Int) ≤ ((b + 1 : Nat) : Int) := by have := HFB.out; omega
                have hi2 : ((b + 1 : Nat) : Int) ≤ (s.size : Int) := by omega
                have hi3 : ((a : Int)).toNat = a := by omega
                have hi4 : (((b + 1 : Nat) : Int)).toNat = b + 1 := by omega
                obtain ⟨D, hD⟩ : ∃ D, D = bstr (numB ((m : Int))) := ⟨_, rfl⟩
                have hN : ∀ d os, Calls Tryz.prog 25 #[.int .i64 ((m : Int))] (Go.Sort.grow (redrawn wc d) os) fun e w'' => e = .returned (.string D) ∧ ∃ p : Regrown, w'' = Go.Sort.grow (redrawn wc p.d) p.os := fun d os => by rw [hD]; exact Calls.regrown_of (dec_any _ _ HSM.out)
                have F0 : ∀ d os, (Go.Sort.grow (redrawn wc d) os).cell? ⟨c, 0, none⟩ = some (.string s) := cell_regrown y0
                have F1 : ∀ d os, (Go.Sort.grow (redrawn wc d) os).cell? ⟨c, 1, none⟩ = some (.int .i64 (b : Int)) := cell_regrown y1
                have F2 : ∀ d os, (Go.Sort.grow (redrawn wc d) os).cell? ⟨c, 2, none⟩ = some (.bool false) := cell_regrown y2
                have HX : Hid ((s.extract a (b + 1)).data.toList = L.take (FL + 1)) := by
                  show _ = _
                  rw [ext_take, HL.out, show b + 1 - a = FL + 1 by have := HFB.out; omega]
                have HDD : Hid (D.data.toList = numB N) := by show _ = _; rw [hD, HVL.out]; exact bstr_list _
                have HLT : Hid (FL < L.length) := by show _ < _; have h1 := HLL.out; have h2 := HFB.out; omega
                have heq : ((s.extract a (b + 1)).toList == D.toList) = decide (L.take (FL + 1) = numB N) := by
                  rw [ByteArray.toList_eq, ByteArray.toList_eq, HX.out, HDD.out]
                  rw [Bool.eq_iff_iff]; simp
                clear hD
                generalize hbn : ((b + 1 : Nat) : Int) = bn at hwb hi1 hi2 hi4
                have HBN : Hid (((b + 1 : Nat) : Int) = bn) := hbn
                clear hbn
                by_cases hq : L.take (FL + 1) = numB N
                · have hqb : ((s.extract a (b + 1)).toList == D.toList) = true := by rw [heq]; exact decide_eq_true hq
                  have HQT : Hid (L.take (FL + 1) = numB N) := hq
                  clear heq hq y0 y1 y2
                  go_wp2_with fail
                  refine wp_region_quiet_below (by kernel_rfl) (by kernel_rfl) ?_
                  repeat (quiet_step (exact hN _ _))
                  refine wpQuiet_nil ?_
                  intro _ hw'
                  obtain ⟨⟨dq, osq⟩, hw''⟩ := hw'
                  subst hw''
                  have hbq : Below wc.heap.size wc (Go.Sort.grow (redrawn wc dq) osq) := below_regrown wc dq osq
                  clear hN F0 F1 F2
                  generalize Go.Sort.grow (redrawn wc dq) osq = wz at *
                  have HZ : Hid (QC c s b false wz ∧ Rp c w wz) := ⟨(hbq.block c (Array.getElem?_eq_some_iff.1 HWQ.out.1).1).trans HWQ.out.1, HWQ.out.2.trans (Rp.of_below hbq (Nat.le_refl _))⟩
                  obtain ⟨y0, y1, y2⟩ := cells3 HZ.out.1
                  have z1 := free3 HZ.out.1 1
                  clear hbq z2
                  go_wp2_with fail
                  go_ret
                  exact ⟨HZ.out.2.one _, .inl ⟨⟨rfl, HLT.out, HQT.out⟩, by rw [HVL.out]; rfl, by rw [HFB.out, ← HBN.out]; exact HZ.out.1.at (b + 1)⟩⟩
                · have hqb : ((s.extract a (b + 1)).toList == D.toList) = false := by rw [heq]; exact decide_eq_false hq
                  have HQT : Hid (¬ L.take (FL + 1) = numB N) := hq
                  clear heq hq y0 y1 y2
                  go_wp2_with fail
                  refine wp_region_quiet_below (by kernel_rfl) (by kernel_rfl) ?_
                  repeat (quiet_step (exact hN _ _))
                  refine wpQuiet_nil ?_
                  intro _ hw'
                  obtain ⟨⟨dq, osq⟩, hw''⟩ := hw'
                  subst hw''
                  have hbq : Below wc.heap.size wc (Go.Sort.grow (redrawn wc dq) osq) := below_regrown wc dq osq
                  clear hN F0 F1 F2
                  generalize Go.Sort.grow (redrawn wc dq) osq = wz at *
                  have HZ : Hid (QC c s b false wz ∧ Rp c w wz) := ⟨(hbq.block c (Array.getElem?_eq_some_iff.1 HWQ.out.1).1).trans HWQ.out.1, HWQ.out.2.trans (Rp.of_below hbq (Nat.le_refl _))⟩
                  obtain ⟨y0, y1, y2⟩ := cells3 HZ.out.1
                  have z2 := free3 HZ.out.1 2
                  clear hbq z1
                  go_wp2_with fail
                  go_ret
                  exact ⟨HZ.out.2.one _, .inr ⟨fun h => absurd h.2.2 HQT.out, rfl, b, hj, HZ.out.1.spoil true⟩⟩
              · have d1 : decide ((s.size : Int) ≤ (b : Int)) = true := by simp; omega
                go_wp2_with fail
                go_quiet (fail)
                go_wp2_with fail
                go_ret
                exact ⟨(HWQ.out.2.drewN _).one _, .inr ⟨fun h => (by have h1 := h.2.1; have h2 := HLL.out; have h3 := HFB.out; omega), rfl, b, hj, (show QC c s b false (wc.drewN nq) from HWQ.out.1).spoil true⟩⟩

end Go.Proofs.YtdfkpehggecbaaaGreatDoor

