/- JV, SA, JU -/
import Derived.Test.YtdfkpehggecbaaaGreatDoorV36
import Derived.Test.YtdfkpehggecbaaaGreatDoorV38
import Derived.Test.YtdfkpehggecbaaaGreatDoorV1
import Derived.Lib.SmallJoins
import Derived.Below
import Derived.Test.YtdfkpehggecbaaaGreatDoorV41
/- What is written is read as it was, and nothing else is: plain. -/
namespace Go.Proofs.YtdfkpehggecbaaaGreatDoor
open Go.RowKit

theorem dg_nat {d : Nat} (h : d < 10) : (UInt8.ofNat (48 + d)).toNat = 48 + d := by
  rw [UInt8.toNat_ofNat']
  omega
theorem pu_dec (u : Nat) (hu : u < 18446744073709551616) (t : List UInt8) : Lib.parseUint10 0 (Lib.decDigits u ++ t) = Lib.parseUint10 u t := by
  induction u using Nat.strongRecOn generalizing t with
  | _ u ih =>
    rw [Lib.decDigits]
    split
    · rename_i h
      rw [List.singleton_append, Lib.parseUint10, dg_nat h, if_pos (by omega), if_neg (by omega), if_neg (by omega)]
      congr 1
      omega
    · rename_i h
      rw [List.append_assoc, ih (u / 10) (by omega) (by omega), List.singleton_append, Lib.parseUint10, dg_nat (by omega), if_pos (by omega), if_neg (by omega), if_neg (by omega)]
      congr 1
      omega
theorem dec_all (u : Nat) : ∀ c ∈ Lib.decDigits u, 48 ≤ c.toNat ∧ c.toNat ≤ 57 := by
  induction u using Nat.strongRecOn with
  | _ u ih =>
    intro c hc
    rw [Lib.decDigits] at hc
    split at hc
    · rename_i h
      rw [List.mem_singleton.1 hc, dg_nat h]
      omega
    · rename_i h
      rcases List.mem_append.1 hc with hc | hc
      · exact ih (u / 10) (by omega) c hc
      · rw [List.mem_singleton.1 hc, dg_nat (by omega)]
        omega
theorem dec_ne (u : Nat) : Lib.decDigits u ≠ [] := by
  rw [Lib.decDigits]
  split <;> simp
theorem pm_dec {u : Nat} (hu : u < 18446744073709551616) : Lib.parseMag (Lib.decDigits u) = .ok u := by
  unfold Lib.parseMag
  rw [if_neg (dec_ne u)]
  have := pu_dec u hu []
  rw [List.append_nil] at this
  rw [this]; rfl
theorem atoi_itoa {n : Int} (h : In63 n) : Lib.atoiAll (Lib.itoa n) = .ok n := by
  unfold Lib.itoa
  obtain ⟨h1, h2⟩ := h
  split
  · rw [Lib.atoiAll_minus, pm_dec (by omega)]
    unfold Lib.signed
    simp only
    rw [if_neg (by omega)]
    congr 1
    omega
  · cases hd : Lib.decDigits n.toNat with
    | nil => exact absurd hd (dec_ne _)
    | cons c r =>
      have hc := dec_all n.toNat c (by rw [hd]; exact List.mem_cons_self)
      rw [Lib.atoiAll_plain c r (by omega) (by omega), ← hd, pm_dec (by omega)]
      unfold Lib.signless
      simp only
      rw [if_neg (by omega)]
      congr 1
      omega
theorem itoa_no59 (n : Int) : ∀ c ∈ Lib.itoa n, c ≠ 59 := by
  intro c hc
  unfold Lib.itoa at hc
  split at hc
  · rcases List.mem_cons.1 hc with rfl | hc
    · decide
    · have := dec_all _ c hc
      intro e
      subst e
      have : (59 : UInt8).toNat = 59 := rfl
      omega
  · have := dec_all _ c hc
    intro e
    subst e
    have : (59 : UInt8).toNat = 59 := rfl
    omega
theorem ix_at : ∀ (l r : List UInt8), (∀ c ∈ l, c ≠ 59) → Lib.indexByte (l ++ 59 :: r) 59 = (l.length : Int)
  | [], r, _ => by
    unfold Lib.indexByte
    simp
  | x :: l, r, h => by
    have ih := ix_at l r (fun c hc => h c (List.mem_cons_of_mem _ hc))
    have hx := h x List.mem_cons_self
    rw [List.cons_append, Lib.indexByte, if_neg (by simpa using hx), ih, if_neg (by simp)]
    rw [List.length_cons]; omega
theorem ix_byte (c : UInt8) : ∀ {l : List UInt8} {i : Nat}, Lib.indexByte l c = (i : Int) → l = l.take i ++ c :: l.drop (i + 1)
  | [], i, h => by unfold Lib.indexByte at h; omega
  | x :: r, i, h => by
    unfold Lib.indexByte at h
    split at h
    · rename_i hx
      have hi : i = 0 := by omega
      subst hi
      have : x = c := by simpa using hx
      rw [this]; simp
    · split at h
      · omega
      · rename_i h2
        have hg := Lib.indexByte_ge r c
        obtain ⟨j, rfl⟩ : ∃ j, i = j + 1 := ⟨i - 1, by have : Lib.indexByte r c ≠ -1 := by simpa using h2
                                                       omega⟩
        have := ix_byte c (l := r) (i := j) (by omega)
        rw [List.take_succ_cons, List.drop_succ_cons, List.cons_append, ← this]
theorem rdN_num {n : Int} (h : In63 n) (r : List UInt8) : rdN (numB n ++ r) = some (n, r) := by
  unfold rdN numB
  rw [List.append_assoc, List.singleton_append, ix_at _ r (itoa_no59 n), if_neg (by omega), Int.toNat_natCast, List.take_left, atoi_itoa h]
  simp only [if_true]
  congr 2
  have e : Lib.itoa n ++ 59 :: r = (Lib.itoa n ++ [59]) ++ r := by simp
  rw [e, List.drop_left' (by simp)]
theorem rdN_eq {l r : List UInt8} {n : Int} (h : rdN l = some (n, r)) : l = numB n ++ r ∧ In63 n := by
  have hin := (rdN_in h).1
  unfold rdN at h
  split at h
  · simp at h
  rename_i hne
  obtain ⟨i, hi⟩ : ∃ i : Nat, Lib.indexByte l 59 = (i : Int) := ⟨(Lib.indexByte l 59).toNat, by have := Lib.indexByte_ge l 59; omega⟩
  rw [hi] at h
  simp only [Int.toNat_natCast] at h
  split at h
  case h_2 => simp at h
  rename_i m hm
  split at h
  case isFalse => simp at h
  rename_i hd
  simp only [Option.some.injEq, Prod.mk.injEq] at h
  obtain ⟨rfl, rfl⟩ := h
  refine ⟨?_, hin⟩
  unfold numB
  rw [hd, List.append_assoc, List.singleton_append]
  exact ix_byte 59 hi
theorem rdT_txt {s : ByteArray} (h : s.size ≤ 140737488355328) (r : List UInt8) : rdT (txtB s ++ r) = some (s, r) := by
  unfold rdT txtB
  rw [List.append_assoc, rdN_num ⟨by omega, by omega⟩]
  simp only
  have hl : s.data.toList.length = s.size := rfl
  rw [if_pos ⟨by omega, by rw [List.length_append]; omega⟩, Int.toNat_natCast, List.take_left' hl, List.drop_left' hl]
  rfl
theorem rdT_eq {l r : List UInt8} {s : ByteArray} (h : rdT l = some (s, r)) : l = txtB s ++ r := by
  unfold rdT at h
  split at h
  case h_2 => simp at h
  rename_i n r' hn
  split at h
  case isFalse => simp at h
  rename_i hk
  simp only [Option.some.injEq, Prod.mk.injEq] at h
  obtain ⟨rfl, rfl⟩ := h
  have e := (rdN_eq hn).1
  unfold txtB
  rw [bstr_size, List.length_take, Nat.min_eq_left (by omega), bstr_list, List.append_assoc, List.take_append_drop, show ((n.toNat : Nat) : Int) = n by omega]
  exact e
theorem rdF_flg (y : Bool) (r : List UInt8) : rdF (flgB y ++ r) = some (y, r) := by
  unfold rdF flgB
  rw [rdN_num (by split <;> exact ⟨by omega, by omega⟩)]
  cases y <;> simp
theorem rdF_eq {l r : List UInt8} {y : Bool} (h : rdF l = some (y, r)) : l = flgB y ++ r := by
  unfold rdF at h
  split at h
  case h_2 => simp at h
  rename_i n r' hn
  have e := (rdN_eq hn).1
  unfold flgB
  split at h
  · rename_i h0
    simp only [Option.some.injEq, Prod.mk.injEq] at h
    obtain ⟨rfl, rfl⟩ := h
    rw [e, h0]; simp
  · split at h
    · rename_i h1
      simp only [Option.some.injEq, Prod.mk.injEq] at h
      obtain ⟨rfl, rfl⟩ := h
      rw [e, h1]; simp
    · simp at h
theorem rdP_nums {x y z u v : Int} (h1 : In63 x) (h2 : In63 y) (h3 : In63 z) (h4 : In63 u) (h5 : In63 v) (r : List UInt8) : rdP ([x, y, z, u, v].flatMap numB ++ r) = some ((x, y, z, u, v), r) := by
  unfold rdP
  simp only [List.flatMap_cons, List.flatMap_nil, List.append_nil, List.append_assoc, rdN_num h1, rdN_num h2, rdN_num h3, rdN_num h4, rdN_num h5, Option.bind_some]
theorem rdP_eq {l r : List UInt8} {x y z u v : Int} (h : rdP l = some ((x, y, z, u, v), r)) : l = [x, y, z, u, v].flatMap numB ++ r := by
  unfold rdP at h
  simp only [Option.bind_eq_some_iff, Option.some.injEq, Prod.mk.injEq] at h
  obtain ⟨⟨x', r1⟩, n1, ⟨y', r2⟩, n2, ⟨z', r3⟩, n3, ⟨u', r4⟩, n4, ⟨v', r5⟩, n5, ⟨rfl, rfl, rfl, rfl, rfl⟩, rfl⟩ := h
  simp only at n1 n2 n3 n4 n5 ⊢
  have e1 := (rdN_eq n1).1
  have e2 := (rdN_eq n2).1
  have e3 := (rdN_eq n3).1
  have e4 := (rdN_eq n4).1
  have e5 := (rdN_eq n5).1
  simp only [List.flatMap_cons, List.flatMap_nil, List.append_nil, List.append_assoc]
  rw [e1, e2, e3, e4, e5]

theorem rdEl_el {m : Mem} (h : wok m) (r : List UInt8) : rdEl (elB m ++ r) = some (m, r) := by
  obtain ⟨h0, h1, h2, h3⟩ := h
  unfold rdEl elB
  simp only [List.flatMap_cons, List.flatMap_nil, List.append_nil, List.append_assoc, rdT_txt (s := m.name) (by omega), rdN_num h1, rdN_num h2, rdN_num h3, rdF_flg m.server, Option.bind_some]
theorem rdEl_eq {l r : List UInt8} {m : Mem} (h : rdEl l = some (m, r)) : l = elB m ++ r := by
  unfold rdEl at h
  simp only [Option.bind_eq_some_iff, Option.some.injEq, Prod.mk.injEq] at h
  obtain ⟨⟨x0, r1⟩, n0, ⟨x1, r2⟩, n1, ⟨x2, r3⟩, n2, ⟨x3, r4⟩, n3, ⟨x4, r5⟩, n4, rfl, rfl⟩ := h
  simp only at n0 n1 n2 n3 n4 ⊢
  have e0 := rdT_eq n0
  have e1 := (rdN_eq n1).1
  have e2 := (rdN_eq n2).1
  have e3 := (rdN_eq n3).1
  have e4 := rdF_eq n4
  unfold elB
  simp only [List.flatMap_cons, List.flatMap_nil, List.append_nil, List.append_assoc]
  rw [e0, e1, e2, e3, e4]
theorem rdLs_el : ∀ (E : List Mem), (∀ m ∈ E, wok m) → ∀ (D : List Mem) (r : List UInt8), rdLs E.length (E.flatMap elB ++ r) D = some (D ++ E, r)
  | [], _, D, r => by simp [rdLs]
  | m :: E, h, D, r => by
    rw [List.flatMap_cons, List.append_assoc, List.length_cons, rdLs, rdEl_el (h m List.mem_cons_self)]
    simp only
    rw [rdLs_el E (fun x hx => h x (List.mem_cons_of_mem _ hx)) (D ++ [m]) r, List.append_assoc]; rfl
theorem rdLs_eq : ∀ {n : Nat} {l r : List UInt8} {D E : List Mem}, rdLs n l D = some (E, r) → ∃ X : List Mem, X.length = n ∧ E = D ++ X ∧ l = X.flatMap elB ++ r
  | 0, l, r, D, E, h => by
    simp only [rdLs, Option.some.injEq, Prod.mk.injEq] at h
    obtain ⟨rfl, rfl⟩ := h
    exact ⟨[], rfl, by simp, by simp⟩
  | n + 1, l, r, D, E, h => by
    simp only [rdLs] at h
    split at h
    · cases h
    · rename_i m r' he
      obtain ⟨X, h1, h2, h3⟩ := rdLs_eq h
      exact ⟨m :: X, by simp [h1], by rw [h2]; simp, by rw [rdEl_eq he, h3, List.flatMap_cons, List.append_assoc]⟩
theorem rdList_el {E : List Mem} (hl : E.length ≤ 1000) (h : ∀ m ∈ E, wok m) (r : List UInt8) : rdList (numB E.length ++ E.flatMap elB ++ r) = some (E, r) := by
  unfold rdList
  rw [List.append_assoc, rdN_num ⟨by omega, by omega⟩, Option.bind_some]
  simp only
  rw [if_pos (by omega), Int.toNat_natCast, rdLs_el E h [] r]; rfl
theorem rdList_eq {l r : List UInt8} {E : List Mem} (h : rdList l = some (E, r)) : l = numB E.length ++ E.flatMap elB ++ r := by
  unfold rdList at h
  rw [Option.bind_eq_some_iff] at h
  obtain ⟨⟨n, r1⟩, h1, h2⟩ := h
  simp only at h2
  split at h2
  · rename_i h0
    obtain ⟨X, g1, g2, g3⟩ := rdLs_eq h2
    rw [List.nil_append] at g2
    subst g2
    rw [(rdN_eq h1).1, g3, g1, show ((n.toNat : Nat) : Int) = n by omega, List.append_assoc]
  · cases h2

namespace Sv
theorem rdEl_el {m : Svc} (h : wok m) (r : List UInt8) : rdEl (elB m ++ r) = some (m, r) := by
  obtain ⟨h0, h1, h2, h3, h4, h5, h6⟩ := h
  unfold rdEl elB
  simp only [List.flatMap_cons, List.flatMap_nil, List.append_nil, List.append_assoc, rdT_txt (s := m.node) (by omega), rdT_txt (s := m.idn) (by omega), rdT_txt (s := m.name) (by omega), rdT_txt (s := m.tag) (by omega), rdN_num h4, rdN_num h5, rdF_flg m.passing, rdN_num h6, rdF_flg m.gone, Option.bind_some]
theorem rdEl_eq {l r : List UInt8} {m : Svc} (h : rdEl l = some (m, r)) : l = elB m ++ r := by
  unfold rdEl at h
  simp only [Option.bind_eq_some_iff, Option.some.injEq, Prod.mk.injEq] at h
  obtain ⟨⟨x0, r1⟩, n0, ⟨x1, r2⟩, n1, ⟨x2, r3⟩, n2, ⟨x3, r4⟩, n3, ⟨x4, r5⟩, n4, ⟨x5, r6⟩, n5, ⟨x6, r7⟩, n6, ⟨x7, r8⟩, n7, ⟨x8, r9⟩, n8, rfl, rfl⟩ := h
  simp only at n0 n1 n2 n3 n4 n5 n6 n7 n8 ⊢
  have e0 := rdT_eq n0
  have e1 := rdT_eq n1
  have e2 := rdT_eq n2
  have e3 := rdT_eq n3
  have e4 := (rdN_eq n4).1
  have e5 := (rdN_eq n5).1
  have e6 := rdF_eq n6
  have e7 := (rdN_eq n7).1
  have e8 := rdF_eq n8
  unfold elB
  simp only [List.flatMap_cons, List.flatMap_nil, List.append_nil, List.append_assoc]
  rw [e0, e1, e2, e3, e4, e5, e6, e7, e8]
theorem rdLs_el : ∀ (E : List Svc), (∀ m ∈ E, wok m) → ∀ (D : List Svc) (r : List UInt8), rdLs E.length (E.flatMap elB ++ r) D = some (D ++ E, r)
  | [], _, D, r => by simp [rdLs]
  | m :: E, h, D, r => by
    rw [List.flatMap_cons, List.append_assoc, List.length_cons, rdLs, rdEl_el (h m List.mem_cons_self)]
    simp only
    rw [rdLs_el E (fun x hx => h x (List.mem_cons_of_mem _ hx)) (D ++ [m]) r, List.append_assoc]; rfl
theorem rdLs_eq : ∀ {n : Nat} {l r : List UInt8} {D E : List Svc}, rdLs n l D = some (E, r) → ∃ X : List Svc, X.length = n ∧ E = D ++ X ∧ l = X.flatMap elB ++ r
  | 0, l, r, D, E, h => by
    simp only [rdLs, Option.some.injEq, Prod.mk.injEq] at h
    obtain ⟨rfl, rfl⟩ := h
    exact ⟨[], rfl, by simp, by simp⟩
  | n + 1, l, r, D, E, h => by
    simp only [rdLs] at h
    split at h
    · cases h
    · rename_i m r' he
      obtain ⟨X, h1, h2, h3⟩ := rdLs_eq h
      exact ⟨m :: X, by simp [h1], by rw [h2]; simp, by rw [rdEl_eq he, h3, List.flatMap_cons, List.append_assoc]⟩
theorem rdList_el {E : List Svc} (hl : E.length ≤ 1000) (h : ∀ m ∈ E, wok m) (r : List UInt8) : rdList (numB E.length ++ E.flatMap elB ++ r) = some (E, r) := by
  unfold rdList
  rw [List.append_assoc, rdN_num ⟨by omega, by omega⟩, Option.bind_some]
  simp only
  rw [if_pos (by omega), Int.toNat_natCast, rdLs_el E h [] r]; rfl
theorem rdList_eq {l r : List UInt8} {E : List Svc} (h : rdList l = some (E, r)) : l = numB E.length ++ E.flatMap elB ++ r := by
  unfold rdList at h
  rw [Option.bind_eq_some_iff] at h
  obtain ⟨⟨n, r1⟩, h1, h2⟩ := h
  simp only at h2
  split at h2
  · rename_i h0
    obtain ⟨X, g1, g2, g3⟩ := rdLs_eq h2
    rw [List.nil_append] at g2
    subst g2
    rw [(rdN_eq h1).1, g3, g1, show ((n.toNat : Nat) : Int) = n by omega, List.append_assoc]
  · cases h2
end Sv

namespace Gw
theorem rdEl_el {m : Gwy} (h : wok m) (r : List UInt8) : rdEl (elB m ++ r) = some (m, r) := by
  obtain ⟨h0, h1, h2⟩ := h
  unfold rdEl elB
  simp only [List.flatMap_cons, List.flatMap_nil, List.append_nil, List.append_assoc, rdT_txt (s := m.centre) (by omega), rdN_num h1, rdN_num h2, Option.bind_some]
theorem rdEl_eq {l r : List UInt8} {m : Gwy} (h : rdEl l = some (m, r)) : l = elB m ++ r := by
  unfold rdEl at h
  simp only [Option.bind_eq_some_iff, Option.some.injEq, Prod.mk.injEq] at h
  obtain ⟨⟨x0, r1⟩, n0, ⟨x1, r2⟩, n1, ⟨x2, r3⟩, n2, rfl, rfl⟩ := h
  simp only at n0 n1 n2 ⊢
  have e0 := rdT_eq n0
  have e1 := (rdN_eq n1).1
  have e2 := (rdN_eq n2).1
  unfold elB
  simp only [List.flatMap_cons, List.flatMap_nil, List.append_nil, List.append_assoc]
  rw [e0, e1, e2]
theorem rdLs_el : ∀ (E : List Gwy), (∀ m ∈ E, wok m) → ∀ (D : List Gwy) (r : List UInt8), rdLs E.length (E.flatMap elB ++ r) D = some (D ++ E, r)
  | [], _, D, r => by simp [rdLs]
  | m :: E, h, D, r => by
    rw [List.flatMap_cons, List.append_assoc, List.length_cons, rdLs, rdEl_el (h m List.mem_cons_self)]
    simp only
    rw [rdLs_el E (fun x hx => h x (List.mem_cons_of_mem _ hx)) (D ++ [m]) r, List.append_assoc]; rfl
theorem rdLs_eq : ∀ {n : Nat} {l r : List UInt8} {D E : List Gwy}, rdLs n l D = some (E, r) → ∃ X : List Gwy, X.length = n ∧ E = D ++ X ∧ l = X.flatMap elB ++ r
  | 0, l, r, D, E, h => by
    simp only [rdLs, Option.some.injEq, Prod.mk.injEq] at h
    obtain ⟨rfl, rfl⟩ := h
    exact ⟨[], rfl, by simp, by simp⟩
  | n + 1, l, r, D, E, h => by
    simp only [rdLs] at h
    split at h
    · cases h
    · rename_i m r' he
      obtain ⟨X, h1, h2, h3⟩ := rdLs_eq h
      exact ⟨m :: X, by simp [h1], by rw [h2]; simp, by rw [rdEl_eq he, h3, List.flatMap_cons, List.append_assoc]⟩
theorem rdList_el {E : List Gwy} (hl : E.length ≤ 1000) (h : ∀ m ∈ E, wok m) (r : List UInt8) : rdList (numB E.length ++ E.flatMap elB ++ r) = some (E, r) := by
  unfold rdList
  rw [List.append_assoc, rdN_num ⟨by omega, by omega⟩, Option.bind_some]
  simp only
  rw [if_pos (by omega), Int.toNat_natCast, rdLs_el E h [] r]; rfl
theorem rdList_eq {l r : List UInt8} {E : List Gwy} (h : rdList l = some (E, r)) : l = numB E.length ++ E.flatMap elB ++ r := by
  unfold rdList at h
  rw [Option.bind_eq_some_iff] at h
  obtain ⟨⟨n, r1⟩, h1, h2⟩ := h
  simp only at h2
  split at h2
  · rename_i h0
    obtain ⟨X, g1, g2, g3⟩ := rdLs_eq h2
    rw [List.nil_append] at g2
    subst g2
    rw [(rdN_eq h1).1, g3, g1, show ((n.toNat : Nat) : Int) = n by omega, List.append_assoc]
  · cases h2
end Gw

namespace Wh
theorem rdEl_el {m : Whe} (h : wok m) (r : List UInt8) : rdEl (elB m ++ r) = some (m, r) := by
  obtain ⟨h0, h1, h2, h3, h4, h5⟩ := h
  unfold rdEl elB
  rw [List.append_assoc, rdT_txt (s := m.node) (by omega), Option.bind_some]
  simp only
  rw [rdP_nums h1 h2 h3 h4 h5, Option.bind_some]
theorem rdEl_eq {l r : List UInt8} {m : Whe} (h : rdEl l = some (m, r)) : l = elB m ++ r := by
  unfold rdEl at h
  simp only [Option.bind_eq_some_iff, Option.some.injEq, Prod.mk.injEq] at h
  obtain ⟨⟨x0, r1⟩, n0, ⟨⟨x1, x2, x3, x4, x5⟩, r2⟩, n1, rfl, rfl⟩ := h
  simp only at n0 n1 ⊢
  unfold elB
  rw [rdT_eq n0, rdP_eq n1, List.append_assoc]
theorem rdLs_el : ∀ (E : List Whe), (∀ m ∈ E, wok m) → ∀ (D : List Whe) (r : List UInt8), rdLs E.length (E.flatMap elB ++ r) D = some (D ++ E, r)
  | [], _, D, r => by simp [rdLs]
  | m :: E, h, D, r => by
    rw [List.flatMap_cons, List.append_assoc, List.length_cons, rdLs, rdEl_el (h m List.mem_cons_self)]
    simp only
    rw [rdLs_el E (fun x hx => h x (List.mem_cons_of_mem _ hx)) (D ++ [m]) r, List.append_assoc]; rfl
theorem rdLs_eq : ∀ {n : Nat} {l r : List UInt8} {D E : List Whe}, rdLs n l D = some (E, r) → ∃ X : List Whe, X.length = n ∧ E = D ++ X ∧ l = X.flatMap elB ++ r
  | 0, l, r, D, E, h => by
    simp only [rdLs, Option.some.injEq, Prod.mk.injEq] at h
    obtain ⟨rfl, rfl⟩ := h
    exact ⟨[], rfl, by simp, by simp⟩
  | n + 1, l, r, D, E, h => by
    simp only [rdLs] at h
    split at h
    · cases h
    · rename_i m r' he
      obtain ⟨X, h1, h2, h3⟩ := rdLs_eq h
      exact ⟨m :: X, by simp [h1], by rw [h2]; simp, by rw [rdEl_eq he, h3, List.flatMap_cons, List.append_assoc]⟩
theorem rdList_el {E : List Whe} (hl : E.length ≤ 1000) (h : ∀ m ∈ E, wok m) (r : List UInt8) : rdList (numB E.length ++ E.flatMap elB ++ r) = some (E, r) := by
  unfold rdList
  rw [List.append_assoc, rdN_num ⟨by omega, by omega⟩, Option.bind_some]
  simp only
  rw [if_pos (by omega), Int.toNat_natCast, rdLs_el E h [] r]; rfl
theorem rdList_eq {l r : List UInt8} {E : List Whe} (h : rdList l = some (E, r)) : l = numB E.length ++ E.flatMap elB ++ r := by
  unfold rdList at h
  rw [Option.bind_eq_some_iff] at h
  obtain ⟨⟨n, r1⟩, h1, h2⟩ := h
  simp only at h2
  split at h2
  · rename_i h0
    obtain ⟨X, g1, g2, g3⟩ := rdLs_eq h2
    rw [List.nil_append] at g2
    subst g2
    rw [(rdN_eq h1).1, g3, g1, show ((n.toNat : Nat) : Int) = n by omega, List.append_assoc]
  · cases h2
end Wh

/-- What is written is read as it was. -/
theorem rdPk_B {p : Pk} (h : p.Wok) (r : List UInt8) : rdPk (p.B ++ r) = some (p, r) := by
  unfold rdPk Pk.B
  rw [List.append_assoc, List.append_assoc, List.append_assoc, List.append_assoc, List.append_assoc, rdT_txt (by have := h.frm; omega), Option.bind_some]
  simp only
  rw [rdF_flg, Option.bind_some]
  simp only
  rw [rdList_el (by have := h.ms.1; omega) h.ms.2, Option.bind_some]
  simp only
  rw [Sv.rdList_el (by have := h.sv.1; omega) h.sv.2, Option.bind_some]
  simp only
  rw [Gw.rdList_el (by have := h.gw.1; omega) h.gw.2, Option.bind_some]
  simp only
  rw [Wh.rdList_el (by have := h.wh.1; omega) h.wh.2, Option.bind_some]
/-- And nothing else is. -/
theorem rdPk_eq {l r : List UInt8} {p : Pk} (h : rdPk l = some (p, r)) : l = p.B ++ r := by
  unfold rdPk at h
  simp only [Option.bind_eq_some_iff, Option.some.injEq, Prod.mk.injEq] at h
  obtain ⟨⟨x0, r1⟩, n0, ⟨x1, r2⟩, n1, ⟨x2, r3⟩, n2, ⟨x3, r4⟩, n3, ⟨x4, r5⟩, n4, ⟨x5, r6⟩, n5, rfl, rfl⟩ := h
  simp only at n0 n1 n2 n3 n4 n5 ⊢
  have e0 := rdT_eq n0
  have e1 := rdF_eq n1
  have e2 := rdList_eq n2
  have e3 := Sv.rdList_eq n3
  have e4 := Gw.rdList_eq n4
  have e5 := Wh.rdList_eq n5
  unfold Pk.B
  simp only [List.append_assoc] at e2 e3 e4 e5 ⊢
  rw [e0, e1, e2, e3, e4, e5]
def pk0 : Pk := ⟨⟨#[]⟩, false, [], [], [], []⟩
/-- I3: the packet that a text is, if it is one. -/
def rdR (l : List UInt8) : Option Pk := (rdPk l).bind fun a => if a.2 = [] ∧ a.1.e = 0 then some a.1 else none
theorem rdR_some {l : List UInt8} {p : Pk} : rdR l = some p ↔ l = p.B ∧ p.e = 0 := by
  unfold rdR
  rw [Option.bind_eq_some_iff]
  constructor
  · rintro ⟨⟨q, r⟩, h1, h2⟩
    simp only at h2
    split at h2
    · rename_i h3
      simp only [Option.some.injEq] at h2
      subst h2
      have := rdPk_eq h1
      rw [h3.1, List.append_nil] at this
      exact ⟨this, h3.2⟩
    · cases h2
  · rintro ⟨rfl, he⟩
    have := rdPk_B (pk_wok he) []
    rw [List.append_nil] at this
    exact ⟨(p, []), this, by simp [he]⟩

end Go.Proofs.YtdfkpehggecbaaaGreatDoor

/- Stores of a whole box. -/
namespace Go.Proofs.YtdfkpehggecbaaaGreatDoor
open Go.RowKit

/-- One cell of a box after another. -/
def setAll (b : Nat) : List Value → Nat → World → World
  | [], _, w => w
  | x :: r, j, w => setAll b r (j + 1) (w.setCell ⟨b, j, none⟩ x)
theorem setAll_below {B b : Nat} (hb : B ≤ b) : ∀ (L : List Value) (j : Nat) {a w : World}, Below B a w → Below B a (setAll b L j w)
  | [], _, _, _, h => h
  | _ :: r, j, _, _, h => setAll_below hb r (j + 1) (h.setCell (p := ⟨b, j, none⟩) hb _)
theorem setAll_owns {base b n k : Nat} {T : TypeId} {v : Value} {xs : List Value} (hb : b < base) : ∀ (L : List Value) (j : Nat) {w : World}, w.ownsRow base T k v n xs → (setAll b L j w).ownsRow base T k v n xs
  | [], _, _, h => h
  | _ :: r, j, _, h => setAll_owns hb r (j + 1) (ownsRow_setCell_below h hb _)
theorem setAll_other {b c : Nat} (hc : c ≠ b) : ∀ (L : List Value) (j : Nat) (w : World), (setAll b L j w).heap[c]? = w.heap[c]?
  | [], _, _ => rfl
  | _ :: r, j, _ => (setAll_other hc r (j + 1) _).trans (Below.heap_setCell _ _ _ _ hc)
theorem setAll_size (b : Nat) : ∀ (L : List Value) (j : Nat) (w : World), (setAll b L j w).heap.size = w.heap.size
  | [], _, _ => rfl
  | _ :: r, j, _ => (setAll_size b r (j + 1) _).trans (by simp [World.setCell])
theorem owns_below {base n k : Nat} {T : TypeId} {w w' : World} {v : Value} {xs : List Value} (h : w.ownsRow base T k v n xs) (hb : Below w.heap.size w w') : w'.ownsRow base T k v n xs := by
  rcases h.2 with ⟨rfl, h0⟩ | ⟨g, c, cur, rfl, hbg, hg, hnc, hcm, hcs, htake⟩
  · exact ⟨h.1, .inl ⟨rfl, h0⟩⟩
  · have hlt : g < w.heap.size := (Array.getElem?_eq_some_iff.1 hg).1
    exact ⟨h.1, .inr ⟨g, c, cur, rfl, hbg, (hb.block g hlt).trans hg, hnc, hcm, hcs, htake⟩⟩
theorem drew_heap (w : World) : w.drew.heap = w.heap := rfl
theorem drew_owns {base n k : Nat} {T : TypeId} {w : World} {v : Value} {xs : List Value} (h : w.ownsRow base T k v n xs) : w.drew.ownsRow base T k v n xs := h
theorem drew_below {B : Nat} {a w : World} (h : Below B a w) : Below B a w.drew := ⟨h.os, h.tape, h.output, h.size, h.block⟩
theorem setAll_block {b : Nat} {T : TypeId} {f : Nat × Nat} : ∀ (L pre suf : List Value) {w : World}, w.heap[b]? = some (.cells (pre ++ suf).toArray T f) → suf.length = L.length → (setAll b L pre.length w).heap[b]? = some (.cells (pre ++ L).toArray T f)
  | [], pre, suf, w, h, hl => by
    have : suf = [] := List.eq_nil_of_length_eq_zero (by simpa using hl)
    subst this; exact h
  | x :: r, pre, [], w, h, hl => absurd hl (by simp)
  | x :: r, pre, y :: s, w, h, hl => by
    have h1 := Joins.block_setCell (i := pre.length) h x
    rw [List.setIfInBounds_toArray, show (pre ++ y :: s).set pre.length x = (pre ++ [x]) ++ s by simp] at h1
    have h2 := setAll_block r (pre ++ [x]) s h1 (by simpa using hl)
    rw [show (pre ++ [x]).length = pre.length + 1 by simp, show (pre ++ [x]) ++ r = pre ++ x :: r by simp] at h2
    exact h2
theorem setAll12 {b : Nat} {w : World} {T : TypeId} {f : Nat × Nat} {c0 c1 c2 c3 c4 c5 c6 c7 c8 c9 c10 c11 : Value} (h : w.heap[b]? = some (.cells #[c0, c1, c2, c3, c4, c5, c6, c7, c8, c9, c10, c11] T f)) (x0 x1 x2 x3 x4 x5 x6 x7 x8 x9 x10 x11 : Value) : (setAll b [x0, x1, x2, x3, x4, x5, x6, x7, x8, x9, x10, x11] 0 w).heap[b]? = some (.cells #[x0, x1, x2, x3, x4, x5, x6, x7, x8, x9, x10, x11] T f) := setAll_block [x0, x1, x2, x3, x4, x5, x6, x7, x8, x9, x10, x11] [] [c0, c1, c2, c3, c4, c5, c6, c7, c8, c9, c10, c11] h rfl
theorem setAll6 {b : Nat} {w : World} {T : TypeId} {f : Nat × Nat} {c0 c1 c2 c3 c4 c5 : Value} (h : w.heap[b]? = some (.cells #[c0, c1, c2, c3, c4, c5] T f)) (x0 x1 x2 x3 x4 x5 : Value) : (setAll b [x0, x1, x2, x3, x4, x5] 0 w).heap[b]? = some (.cells #[x0, x1, x2, x3, x4, x5] T f) := setAll_block [x0, x1, x2, x3, x4, x5] [] [c0, c1, c2, c3, c4, c5] h rfl
theorem setAll5 {b : Nat} {w : World} {T : TypeId} {f : Nat × Nat} {c0 c1 c2 c3 c4 : Value} (h : w.heap[b]? = some (.cells #[c0, c1, c2, c3, c4] T f)) (x0 x1 x2 x3 x4 : Value) : (setAll b [x0, x1, x2, x3, x4] 0 w).heap[b]? = some (.cells #[x0, x1, x2, x3, x4] T f) := setAll_block [x0, x1, x2, x3, x4] [] [c0, c1, c2, c3, c4] h rfl

end Go.Proofs.YtdfkpehggecbaaaGreatDoor

/- Packets: Read. -/
namespace Go.Proofs.YtdfkpehggecbaaaGreatDoor
open Go.RowKit

theorem setAll_os (b : Nat) : ∀ (L : List Value) (j : Nat) (w : World), (setAll b L j w).os = w.os ∧ (setAll b L j w).tape = w.tape ∧ (setAll b L j w).output = w.output
  | [], _, _ => ⟨rfl, rfl, rfl⟩
  | _ :: r, j, w => setAll_os b r (j + 1) (w.setCell ⟨b, j, none⟩ _)
theorem Rp.setAll {g : Nat} {w w1 : World} (h : Rp g w w1) (L : List Value) : Rp g w (setAll g L 0 w1) := by
  obtain ⟨h1, h2, h3⟩ := setAll_os g L 0 w1
  exact ⟨h1.trans h.os, h2.trans h.tape, h3.trans h.output, by rw [setAll_size]; exact h.size, fun k hk hg => (setAll_other hg L 0 w1).trans (h.block k hk hg)⟩
theorem cells6 {W : World} {b : Nat} {T : TypeId} {f : Nat × Nat} {c0 c1 c2 c3 c4 c5 : Value} (h : W.heap[b]? = some (.cells #[c0, c1, c2, c3, c4, c5] T f)) : W.cell? ⟨b, 0, none⟩ = some c0 ∧ W.cell? ⟨b, 1, none⟩ = some c1 ∧ W.cell? ⟨b, 2, none⟩ = some c2 ∧ W.cell? ⟨b, 3, none⟩ = some c3 ∧ W.cell? ⟨b, 4, none⟩ = some c4 ∧ W.cell? ⟨b, 5, none⟩ = some c5 := ⟨cellsAt h 0, cellsAt h 1, cellsAt h 2, cellsAt h 3, cellsAt h 4, cellsAt h 5⟩
theorem free6 {W : World} {b : Nat} {T : TypeId} {C : Array Value} (h : W.heap[b]? = some (.cells C T (0, 0))) : W.frozen? ⟨b, 0, none⟩ = false ∧ W.frozen? ⟨b, 1, none⟩ = false ∧ W.frozen? ⟨b, 2, none⟩ = false ∧ W.frozen? ⟨b, 3, none⟩ = false ∧ W.frozen? ⟨b, 4, none⟩ = false ∧ W.frozen? ⟨b, 5, none⟩ = false := by simp [World.frozen?, h]
theorem roomy_own {base n k : Nat} {T : TypeId} {w : World} {v : Value} {xs : List Value} (h : w.ownsRow base T k v n xs) : Roomy v := by
  rcases h.2 with ⟨rfl, h0⟩ | ⟨g, c, cur, rfl, hbg, hg, hnc, hcm, hcs, htake⟩
  · unfold Roomy; exact Nat.le_refl _
  · unfold Roomy; exact hnc
/-- What the work of Read leaves. -/
def ReP (cp : Nat) (w : World) (o : Option Pk) (e : Ending) (w' : World) : Prop :=
  Rp cp w w' ∧ ((∃ p vm vs vg vw, o = some p ∧ e = .returned (.tuple #[]) ∧ w'.heap[cp]? = some (.cells #[.string p.frm, .bool p.whole, vm, vs, vg, vw] 27 (0, 0)) ∧ PkOwn (w.heap.size + 1) w' p vm vs vg vw) ∨ (o = none ∧ e = outP 1))
theorem PkOwn.mono {a b : Nat} {w : World} {p : Pk} {vm vs vg vw : Value} (h : PkOwn b w p vm vs vg vw) (hab : a ≤ b) : PkOwn a w p vm vs vg vw := ⟨h.ms.mono hab, h.sv.mono hab, h.gw.mono hab, h.wh.mono hab⟩
theorem rdPk_in {l r : List UInt8} {p : Pk} (h : rdPk l = some (p, r)) (hl : l.length ≤ 16777216) : p.frm.size ≤ maxLen ∧ (∀ m ∈ p.ms, m.name.size ≤ maxLen) ∧ (∀ m ∈ p.sv, m.node.size ≤ maxLen ∧ m.idn.size ≤ maxLen ∧ m.name.size ≤ maxLen ∧ m.tag.size ≤ maxLen) ∧ (∀ m ∈ p.gw, m.centre.size ≤ maxLen) ∧ (∀ m ∈ p.wh, m.node.size ≤ maxLen) := by
  unfold rdPk at h
  simp only [Option.bind_eq_some_iff, Option.some.injEq, Prod.mk.injEq] at h
  obtain ⟨⟨x0, r1⟩, n0, ⟨x1, r2⟩, n1, ⟨x2, r3⟩, n2, ⟨x3, r4⟩, n3, ⟨x4, r5⟩, n4, ⟨x5, r6⟩, n5, rfl, rfl⟩ := h
  simp only at n0 n1 n2 n3 n4 n5 ⊢
  have e0 := rdT_in n0
  have e1 := rdF_in n1
  have e2 := rdList_ok n2 (by omega)
  have e3 := Sv.rdList_ok n3 (by omega)
  have e4 := Gw.rdList_ok n4 (by omega)
  have e5 := Wh.rdList_ok n5 (by omega)
  refine ⟨by unfold maxLen; omega, e2.1, e3.1, e4.1, e5.1⟩
theorem rdLen {l r : List UInt8} {p : Pk} (h : rdPk l = some (p, r)) (hl : l.length ≤ 16777216) : p.sv.length + p.gw.length + p.wh.length ≤ 16777216 := by
  have e := rdPk_eq h
  have hS : ∀ m : Sv.Svc, 1 ≤ (Sv.elB m).length := fun m => by unfold Sv.elB txtB numB; simp only [List.length_append, List.length_singleton]; omega
  have hG : ∀ m : Gw.Gwy, 1 ≤ (Gw.elB m).length := fun m => by unfold Gw.elB txtB numB; simp only [List.length_append, List.length_singleton]; omega
  have hW : ∀ m : Wh.Whe, 1 ≤ (Wh.elB m).length := fun m => by unfold Wh.elB txtB numB; simp only [List.length_append, List.length_singleton]; omega
  have fl : ∀ {α : Type} (f : α → List UInt8), (∀ m, 1 ≤ (f m).length) → ∀ L : List α, L.length ≤ (L.flatMap f).length := fun f hf L => by
    induction L with
    | nil => simp
    | cons m L ih => rw [List.flatMap_cons, List.length_append, List.length_cons]; have := hf m; omega
  have h1 := fl Sv.elB hS p.sv
  have h2 := fl Gw.elB hG p.gw
  have h3 := fl Wh.elB hW p.wh
  have h4 := congrArg List.length e
  unfold Pk.B at h4
  simp only [List.length_append] at h4
  omega

set_option maxHeartbeats 6400000 in
set_option maxRecDepth 100000 in
theorem read1_b {B cs cp : Nat} {l : List UInt8} {w : World} (hV : Rv B w) (hs : l.length ≤ 16777216) (hcs : w.cell? ⟨cs, 0, none⟩ = some (.string (bstr l))) (hcp : w.heap[cp]? = some (.cells #[.string ⟨#[]⟩, .bool false, .slice none 0 0, .slice none 0 0, .slice none 0 0, .slice none 0 0] 27 (0, 0))) :
    Calls Tryz.prog 32 #[.pointer (some ⟨cs, 0, none⟩), .pointer (some ⟨cp, 0, none⟩)] w (ReP cp w (rdR l)) := by
  obtain ⟨F, hF⟩ : ∃ F, F = rdR l := ⟨_, rfl⟩
  rw [← hF]
  unfold rdR at hF
  have HF : Hid (F = (rdPk l).bind fun a => if a.2 = [] ∧ a.1.e = 0 then some a.1 else none) := hF
  have hcpl : cp < w.heap.size := (Array.getElem?_eq_some_iff.1 hcp).1
  obtain ⟨W0, hW0⟩ : ∃ W0, W0 = w.alloc (.cells #[.string (bstr l)] 68) := ⟨_, rfl⟩
  have hb0 : Below w.heap.size w W0 := by rw [hW0]; exact (Below.refl _ _).alloc (Nat.le_refl _) _
  have hg0 : W0.heap[w.heap.size]? = some (.cells #[.string (bstr l)] 68 (0, 0)) := by rw [hW0]; exact heap_alloc_new w _
  have hs0 : W0.heap.size = w.heap.size + 1 := by rw [hW0]; simp
  have hp0 : IsP w.heap.size l W0 := ⟨cellsAt hg0 0, by simp [World.frozen?, hg0], by omega⟩
  have HPK : Hid (Calls Tryz.prog 33 #[.pointer (some ⟨w.heap.size, 0, none⟩)] W0 (PkP w.heap.size W0 (rdPk l))) := packet_b (hV.below (hb0.mono hV.le)) hV.le hp0 hs
  have HB0 : Hid (Below w.heap.size w W0) := hb0
  have HS0 : Hid (W0.heap.size = w.heap.size + 1) := hs0
  have HCP : Hid (∀ W, Rp w.heap.size W0 W → W.heap[cp]? = some (.cells #[.string ⟨#[]⟩, .bool false, .slice none 0 0, .slice none 0 0, .slice none 0 0, .slice none 0 0] 27 (0, 0))) := fun W hW => hW.block' (by omega) ((hb0.block cp hcpl).trans hcp)
  have HIN : Hid (∀ p r, rdPk l = some (p, r) → (p.frm.size ≤ maxLen ∧ (∀ m ∈ p.ms, m.name.size ≤ maxLen) ∧ (∀ m ∈ p.sv, m.node.size ≤ maxLen ∧ m.idn.size ≤ maxLen ∧ m.name.size ≤ maxLen ∧ m.tag.size ≤ maxLen) ∧ (∀ m ∈ p.gw, m.centre.size ≤ maxLen) ∧ (∀ m ∈ p.wh, m.node.size ≤ maxLen)) ∧ p.sv.length + p.gw.length + p.wh.length ≤ 16777216) := fun p r h => ⟨rdPk_in h hs, rdLen h hs⟩
  have HRP0 : Hid (Rp cp w W0) := Rp.of_below hb0 (Nat.le_refl _)
  clear hF hV hs hcp hb0 hg0 hs0 hp0
  go_enter Tryz.func32, Tryz.ntmps32
  go_wp2_with fail
  rw [← hW0]
  clear hW0 hcs
  refine HPK.out.mono ?_
  rintro e w1 ⟨hr, ⟨p, r, vm, vs, vg, vw, hn, rfl, ho, hp⟩ | ⟨hn, rfl⟩⟩
  rotate_left
  · exact ⟨rfl, ⟨hr.os.trans HRP0.out.os, hr.tape.trans HRP0.out.tape, hr.output.trans HRP0.out.output, Nat.le_trans HRP0.out.size hr.size, fun k hk hkc => (hr.block k (Nat.lt_of_lt_of_le hk HRP0.out.size) (by omega)).trans (HRP0.out.block k hk hkc)⟩, .inr ⟨bind_no HF.out hn, rfl⟩⟩
  have hF1 := bind_go HF.out hn
  have HF1 : Hid (F = if r = [] ∧ p.e = 0 then some p else none) := hF1
  obtain ⟨⟨hfr, hok⟩, hlen⟩ := HIN.out p r hn
  obtain ⟨a2, l2, c2, rfl⟩ := slice_of_row ho.ms
  obtain ⟨a3, l3, c3, rfl⟩ := slice_of_row ho.sv
  obtain ⟨a4, l4, c4, rfl⟩ := slice_of_row ho.gw
  obtain ⟨a5, l5, c5, rfl⟩ := slice_of_row ho.wh
  have hk1 := HCP.out w1 hr
  have hr1 : Rp cp w w1 := ⟨hr.os.trans HRP0.out.os, hr.tape.trans HRP0.out.tape, hr.output.trans HRP0.out.output, Nat.le_trans HRP0.out.size hr.size, fun k hk hkc => (hr.block k (Nat.lt_of_lt_of_le hk HRP0.out.size) (by omega)).trans (HRP0.out.block k hk hkc)⟩
  obtain ⟨w2, hw2⟩ : ∃ w2, w2 = setAll cp [.string p.frm, .bool p.whole, .slice a2 l2 c2, .slice a3 l3 c3, .slice a4 l4 c4, .slice a5 l5 c5] 0 w1 := ⟨_, rfl⟩
  have hk2 : w2.heap[cp]? = some (.cells #[.string p.frm, .bool p.whole, .slice a2 l2 c2, .slice a3 l3 c3, .slice a4 l4 c4, .slice a5 l5 c5] 27 (0, 0)) := by rw [hw2]; exact setAll6 hk1 _ _ _ _ _ _
  have hr2 : Rp cp w w2 := by rw [hw2]; exact hr1.setAll _
  have hkk : ∀ b, b ≠ cp → w2.heap[b]? = w1.heap[b]? := fun b hb => by rw [hw2]; exact setAll_other hb _ _ _
  have hz2 : w2.heap.size = w1.heap.size := by rw [hw2]; exact setAll_size _ _ _ _
  have ho2 : PkOwn (w.heap.size + 1) w2 p (.slice a2 l2 c2) (.slice a3 l3 c3) (.slice a4 l4 c4) (.slice a5 l5 c5) := (ho.mono (by have := HS0.out; omega)).keep (fun b hb _ => hkk b (by omega))
  have his : PkIs w2 p (.slice a2 l2 c2) (.slice a3 l3 c3) (.slice a4 l4 c4) (.slice a5 l5 c5) := ⟨own_names ho2.ms hok.1, Sv.own_names ho2.sv hok.2.1, Gw.own_names ho2.gw hok.2.2.1, Wh.own_names ho2.wh hok.2.2.2, hfr, roomy_own ho2.ms⟩
  have HCK : Hid (Calls Tryz.prog 10 #[.agg #[.string p.frm, .bool p.whole, .slice a2 l2 c2, .slice a3 l3 c3, .slice a4 l4 c4, .slice a5 l5 c5]] w2 fun e w' => e = .returned (.int .i64 p.e) ∧ Below w2.heap.size w2 w') := pcheck_any p _ _ _ _ w2 his (.inr (by omega))
  have d2 : w2.cell? ⟨w.heap.size, 0, none⟩ = some (.string (bstr r)) := by
    have := hp.c0
    simp only [World.cell?] at this ⊢
    rw [hkk _ (by omega)]; exact this
  have HR2 : Hid (Rp cp w w2) := hr2
  have HK2 : Hid (w2.heap[cp]? = some (.cells #[.string p.frm, .bool p.whole, .slice a2 l2 c2, .slice a3 l3 c3, .slice a4 l4 c4, .slice a5 l5 c5] 27 (0, 0))) := hk2
  have HO2 : Hid (PkOwn (w.heap.size + 1) w2 p (.slice a2 l2 c2) (.slice a3 l3 c3) (.slice a4 l4 c4) (.slice a5 l5 c5)) := ho2
  have HEND : Hid (∀ w3, Below w2.heap.size w2 w3 → Rp cp w w3 ∧ w3.heap[cp]? = some (.cells #[.string p.frm, .bool p.whole, .slice a2 l2 c2, .slice a3 l3 c3, .slice a4 l4 c4, .slice a5 l5 c5] 27 (0, 0)) ∧ PkOwn (w.heap.size + 1) w3 p (.slice a2 l2 c2) (.slice a3 l3 c3) (.slice a4 l4 c4) (.slice a5 l5 c5)) := fun w3 hb =>
    ⟨HR2.out.trans (Rp.of_below hb (Nat.le_refl _)), (hb.block cp (Array.getElem?_eq_some_iff.1 HK2.out).1).trans HK2.out, HO2.out.keep (fun b _ hbl => hb.block b hbl)⟩
  obtain ⟨b0, b1, b2, b3, b4, b5⟩ := cells6 hk1
  obtain ⟨z0, z1, z2, z3, z4, z5⟩ := free6 hk1
  obtain ⟨f0, f1, f2, f3, f4, f5⟩ := cells6 hk2
  generalize hpe : p.e = pe at *
  have HPE : Hid (p.e = pe) := hpe
  clear hpe
  obtain ⟨q0, q1, qm, qs, qg, qw⟩ := p
  simp only at f0 f1 HCK hw2 HEND b0 b1 ⊢
  clear hn hr hp ho hF1 HF HPK HIN HCP HB0 HS0 hfr hok hlen hk1 hr1 hk2 hr2 hkk hz2 ho2 his HR2 HK2 HO2 HRP0
  go_upto_region 2 with fail
  simp only [setAll, Nat.zero_add, Nat.reduceAdd] at hw2
  rw [← hw2]
  clear hw2 b0 b1 b2 b3 b4 b5 z0 z1 z2 z3 z4 z5
  cases r with
  | cons x rs =>
    have hne : ((bstr (x :: rs)).toList == ([] : List UInt8)) = false := by rw [ByteArray.toList_eq, bstr_list]; rfl
    have hne2 : ((bstr (x :: rs)).toList == (ByteArray.toList ⟨#[]⟩)) = false := by rw [ByteArray.toList_eq, bstr_list, ByteArray.toList_eq]; rfl
    have hno : F = none := HF1.out.trans (if_neg (fun h => by cases h.1))
    have HNO : Hid (F = none) := hno
    clear hno HF1
    generalize bstr (x :: rs) = R at *
    go_wp2_with fail
    refine (need_no _ _).mono ?_
    rintro e w4 ⟨rfl, hw4⟩
    subst hw4
    exact ⟨rfl, (HEND.out _ (Below.refl _ _)).1, .inr ⟨HNO.out, rfl⟩⟩
  | nil =>
    have HF2 : Hid (F = if pe = 0 then some ⟨q0, q1, qm, qs, qg, qw⟩ else none) := by
      show _ = _
      rw [HF1.out]; simp
    clear HF1
    have d3 : w2.cell? ⟨w.heap.size, 0, none⟩ = some (.string ⟨#[]⟩) := d2
    clear d2
    go_wp2_with fail
    refine HCK.out.mono ?_
    rintro e w3 ⟨rfl, hb3⟩
    have HE3 := HEND.out w3 hb3
    have HE3h : Hid _ := HE3
    clear HE3 hb3
    by_cases h0 : pe = 0
    · have hd : (pe == 0) = true := by simpa using h0
      have HFO : Hid (F = some ⟨q0, q1, qm, qs, qg, qw⟩) := HF2.out.trans (if_pos h0)
      clear h0 HF2
      go_wp2_with fail
      refine (need_ok _ _).mono ?_
      rintro e w4 ⟨rfl, hw4⟩
      subst hw4
      go_wp2_with fail
      simp only [bodyPost, results, Tryz.results32]
      exact ⟨trivial, .tuple #[], by simp, HE3h.out.1, .inl ⟨_, _, _, _, _, HFO.out, rfl, HE3h.out.2⟩⟩
    · have hd : (pe == 0) = false := by simpa using h0
      have HFO : Hid (F = none) := HF2.out.trans (if_neg h0)
      clear h0 HF2
      go_wp2_with fail
      refine (need_no _ _).mono ?_
      rintro e w4 ⟨rfl, hw4⟩
      subst hw4
      exact ⟨rfl, HE3h.out.1, .inr ⟨HFO.out, rfl⟩⟩

end Go.Proofs.YtdfkpehggecbaaaGreatDoor

