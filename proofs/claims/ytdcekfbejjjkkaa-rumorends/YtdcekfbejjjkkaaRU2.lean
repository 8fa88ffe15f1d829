
/- Check of rumors: the program's. -/
import Derived.Test.YtdcekfbejjjkkaaRU1
namespace Go.Proofs.Ytdcekfbejjjkkaa
open Go.RowKit Go.WideMaps Go.Maps

theorem chk_oneR (m : Mem) : chk [m] = m.e := by
  unfold chk
  by_cases h : m.e = 0
  · simp [firstE, h, risesB]
  · simp [firstE, h]
theorem cell_top' {W : World} {cs : Array Value} {t : TypeId} {g k : Nat} (hg : g = W.heap.size) : (W.alloc (.cells cs t)).cell? ⟨g, k, none⟩ = cs[k]? := by subst hg; simp

set_option maxHeartbeats 800000 in
theorem checkMember_any (m : Mem) (w : World) (hs : m.name.size ≤ maxLen) :
    Calls Try.prog 20 #[.agg #[.string m.name, .int .i64 m.state, .int .i64 m.life, .int .i64 m.addr, .bool m.server]] w fun e w' => e = .returned (.int .i64 m.e) ∧ Below w.heap.size w w' := by
  go_enter Try.func20, Try.ntmps20
  go_wp2_with fail
  refine (check_any [m] _ _ ⟨_, _, rfl, ns_get (by simpa using hs), .inr ⟨w.heap.size + 1, 0, rfl, by simp, ?_⟩⟩).mono ?_
  · intro j hj
    have : j = 0 := by simpa using hj
    subst this
    exact ⟨cell_top' (by simp), cell_top' (by simp), cell_top' (by simp), cell_top' (by simp), cell_top' (by simp)⟩
  rintro e w1 ⟨rfl, hb1⟩
  have HB : Hid (Below w.heap.size w w1) := (((Below.refl _ _).alloc (Nat.le_refl _) _).alloc (by simp) _).trans (hb1.mono (by simp; omega))
  clear hb1
  rw [chk_oneR]
  go_wp2_with fail
  go_ret
  exact ⟨rfl, HB.out⟩

def Distinct (rs : List Rum) : Prop := ∀ i j, i < j → j < rs.length → (rs.getD i dr).m.name ≠ (rs.getD j dr).m.name
def rmems (rs : List Rum) : List Mem := rs.map (·.m)
theorem rmems_get (rs : List Rum) (k : Nat) : (rmems rs).getD k dm = (rs.getD k dr).m := by
  by_cases h : k < rs.length
  · simp [rmems, List.getD, List.getElem?_eq_getElem h]
  · simp [rmems, List.getD, List.getElem?_eq_none (by omega : rs.length ≤ k), dr]
theorem rmems_len (rs : List Rum) : (rmems rs).length = rs.length := by simp [rmems]
def AllTold (rs : List Rum) : Prop := ∀ j, j < rs.length → within (rs.getD j dr).told 0 100 = true
theorem allTold_iff (rs : List Rum) : ((List.range rs.length).all fun j => within (rs.getD j dr).told 0 100) = true ↔ AllTold rs := by
  unfold AllTold
  simp only [List.all_eq_true, List.mem_range]
theorem distinct_iff (rs : List Rum) : ((List.range rs.length).all fun j => (List.range j).all fun i => decide ((rs.getD i dr).m.name ≠ (rs.getD j dr).m.name)) = true ↔ Distinct rs := by
  unfold Distinct
  simp only [List.all_eq_true, List.mem_range, decide_eq_true_eq]
  exact ⟨fun h i j hi hj => h j hj i hi, fun h j hj i hi => h i j hi hj⟩
/-- C1. -/
def chkR (rs : List Rum) : Int :=
  if 20 < rs.length then 2 else if firstE (rmems rs) = 0 then (@ite _ (AllTold rs) (decidable_of_iff _ (allTold_iff rs)) (@ite _ (Distinct rs) (decidable_of_iff _ (distinct_iff rs)) 0 6) 3) else firstE (rmems rs)
theorem chkR_many {rs : List Rum} (h : 20 < rs.length) : chkR rs = 2 := by unfold chkR; rw [if_pos h]
theorem chkR_mem {rs : List Rum} {k : Nat} (hn : rs.length ≤ 20) (hk : k < rs.length) (hz : ∀ j, j < k → (rs.getD j dr).m.e = 0) (hne : (rs.getD k dr).m.e ≠ 0) : chkR rs = (rs.getD k dr).m.e := by
  have h := firstE_at (rmems rs) k (by rw [rmems_len]; exact hk) (fun j hj => by rw [rmems_get]; exact hz j hj) (by rw [rmems_get]; exact hne)
  rw [rmems_get] at h
  unfold chkR
  rw [if_neg (by omega), if_neg (by rw [h]; exact hne), h]
theorem firstR_zero {rs : List Rum} (hz : ∀ j, j < rs.length → (rs.getD j dr).m.e = 0) : firstE (rmems rs) = 0 :=
  firstE_zero _ (fun j hj => by rw [rmems_get]; exact hz j (by rw [rmems_len] at hj; exact hj))
theorem chkR_told {rs : List Rum} {k : Nat} (hn : rs.length ≤ 20) (hz : ∀ j, j < rs.length → (rs.getD j dr).m.e = 0) (hk : k < rs.length) (hne : within (rs.getD k dr).told 0 100 = false) : chkR rs = 3 := by
  unfold chkR
  rw [if_neg (by omega), if_pos (firstR_zero hz), if_neg]
  intro h
  rw [h k hk] at hne
  cases hne
theorem chkR_twice {rs : List Rum} (hn : rs.length ≤ 20) (hz : ∀ j, j < rs.length → (rs.getD j dr).m.e = 0) (ht : AllTold rs) (hd : ¬ Distinct rs) : chkR rs = 6 := by
  unfold chkR
  rw [if_neg (by omega), if_pos (firstR_zero hz), if_pos ht, if_neg hd]
theorem chkR_ok {rs : List Rum} (hn : rs.length ≤ 20) (hz : ∀ j, j < rs.length → (rs.getD j dr).m.e = 0) (ht : AllTold rs) (hd : Distinct rs) : chkR rs = 0 := by
  unfold chkR
  rw [if_neg (by omega), if_pos (firstR_zero hz), if_pos ht, if_pos hd]

theorem dm_lt {rs : List Rum} (hd : ¬ Distinct rs) : Maps.size (Dm (rnames rs) rs.length) < rs.length := by
  apply Dm_size_lt
  apply Classical.byContradiction
  intro h
  apply hd
  intro i j hij hj e
  exact h ⟨i, j, hij, hj, by rw [rnames_get, rnames_get]; exact e⟩
theorem dm_eq {rs : List Rum} (hd : Distinct rs) : Maps.size (Dm (rnames rs) rs.length) = rs.length :=
  Dm_size_eq _ _ (fun i j hij hj => by rw [rnames_get, rnames_get]; exact hd i j hij hj)

set_option maxHeartbeats 3200000 in
set_option maxRecDepth 100000 in
theorem checkR_any (rs : List Rum) (v : Value) (w : World) (hv : RSl w v rs) :
    Calls Try.prog 12 #[v] w fun e w' => e = .returned (.int .i64 (chkR rs)) ∧ Below w.heap.size w w' := by
  have HV : Hid (RSl w v rs) := hv
  obtain ⟨pa, ca, rfl, hsz, ha⟩ := hv
  by_cases hmany : 20 < rs.length
  · have HE : Hid (chkR rs = 2) := chkR_many hmany
    go_enter Try.func12, Try.ntmps12
    go_wp2_with fail
    go_ret
    exact ⟨ret_int HE.out.symm, Below.refl _ _⟩
  have HA : Hid (rs = [] ∨ ∃ b off, pa = some ⟨b, off, none⟩ ∧ b < w.heap.size ∧ RRow w b off rs) := ha
  have HS : Hid (∀ j, (rs.getD j dr).m.name.size ≤ maxLen) := hsz
  clear ha hsz
  generalize hN : rs.length = n at *
  have HN : Hid (rs.length = n) := hN
  clear hN
  have hn20 : n ≤ 20 := by omega
  go_enter Try.func12, Try.ntmps12
  go_wp2
  go_loopw [13] (fun i wr => ∃ k : Nat, k ≤ n ∧ i = .int .i64 k ∧ Hid (∀ j, j < k → (rs.getD j dr).m.e = 0) ∧ Hid (Below w.heap.size w wr))
    (fun i _ => n - (intOf i).toNat)
  case atStart => exact ⟨0, Nat.zero_le _, rfl, fun j hj => by omega, Below.refl _ _⟩
  case round =>
    obtain ⟨k, hk, rfl, HZ, HB⟩ := hrel
    by_cases hlt : k < n
    · obtain ⟨b, off, hp, hl, hr⟩ : ∃ b off, pa = some ⟨b, off, none⟩ ∧ b < w.heap.size ∧ RRow w b off rs := by
        rcases HA.out with h | h
        · have := HN.out; rw [h] at this; simp at this; omega
        · exact h
      subst hp
      obtain ⟨c0, c1, c2, c3, c4, c5⟩ := hr.below HB.out hl k (by rw [HN.out]; exact hlt)
      have hnm := HS.out k
      have HX : Hid ((rs.getD k dr).m.e ≠ 0 → chkR rs = (rs.getD k dr).m.e) := fun h => chkR_mem (by rw [HN.out]; exact hn20) (by rw [HN.out]; exact hlt) HZ.out h
      have HZ2 : Hid ((rs.getD k dr).m.e = 0 → ∀ j, j < k + 1 → (rs.getD j dr).m.e = 0) := fun h j hj => by
        by_cases e : j = k
        · subst e; exact h
        · exact HZ.out j (by omega)
      generalize (rs.getD k dr) = rk at *
      obtain ⟨⟨nm, st, lf, ad, sv⟩, td⟩ := rk
      simp only at c0 c1 c2 c3 c4 c5 hnm HX HZ2
      clear hr HZ
      go_wp2_with fail
      refine (checkMember_any ⟨nm, st, lf, ad, sv⟩ _ hnm).mono ?_
      rintro e w1 ⟨rfl, hb1⟩
      have HB1 : Hid (Below w.heap.size w w1) := (HB.out.alloc HB.out.size _).trans (hb1.mono (by have := HB.out.size; simp; omega))
      clear hb1 c0 c1 c2 c3 c4 c5 HB
      by_cases he : (Mem.mk nm st lf ad sv).e = 0
      · have he' : ((Mem.mk nm st lf ad sv).e != 0) = false := by simpa using he
        have HZ3 : Hid (∀ j, j < k + 1 → (rs.getD j dr).m.e = 0) := HZ2.out he
        clear HX HZ2 he
        go_wp2_with fail
        go_roundw
        case rel => exact ⟨k + 1, by omega, by go_num, HZ3, HB1⟩
        case measure => simp [intOf]; omega
      · have he' : ((Mem.mk nm st lf ad sv).e != 0) = true := by simpa using he
        have HE : Hid (chkR rs = (Mem.mk nm st lf ad sv).e) := HX.out he
        clear HX HZ2 he
        go_wp2_with fail
        go_ret
        exact ⟨ret_int HE.out.symm, HB1.out⟩
    · have HZA : Hid (∀ j, j < rs.length → (rs.getD j dr).m.e = 0) := fun j hj => HZ.out j (by rw [HN.out] at hj; omega)
      clear HZ
      go_wp2_with fail
      go_loopw [26] (fun i wr => ∃ k : Nat, k ≤ n ∧ i = .int .i64 k ∧ Hid (∀ j, j < k → within (rs.getD j dr).told 0 100 = true) ∧ Hid (Below w.heap.size w wr))
        (fun i _ => n - (intOf i).toNat)
      case atStart => exact ⟨0, Nat.zero_le _, rfl, fun j hj => by omega, HB⟩
      case round =>
        clear HB hlt hk
        obtain ⟨k2, hk, rfl, HZ, HB⟩ := hrel
        by_cases hlt : k2 < n
        · obtain ⟨b, off, hp, hl, hr⟩ : ∃ b off, pa = some ⟨b, off, none⟩ ∧ b < w.heap.size ∧ RRow w b off rs := by
            rcases HA.out with h | h
            · have := HN.out; rw [h] at this; simp at this; omega
            · exact h
          subst hp
          obtain ⟨c0, c1, c2, c3, c4, c5⟩ := hr.below HB.out hl k2 (by rw [HN.out]; exact hlt)
          have HX : Hid (within (rs.getD k2 dr).told 0 100 = false → chkR rs = 3) := fun h => chkR_told (by rw [HN.out]; exact hn20) HZA.out (by rw [HN.out]; exact hlt) h
          have HZ2 : Hid (within (rs.getD k2 dr).told 0 100 = true → ∀ j, j < k2 + 1 → within (rs.getD j dr).told 0 100 = true) := fun h j hj => by
            by_cases e : j = k2
            · subst e; exact h
            · exact HZ.out j (by omega)
          generalize (rs.getD k2 dr) = rk at *
          obtain ⟨⟨nm, st, lf, ad, sv⟩, td⟩ := rk
          simp only at c0 c1 c2 c3 c4 c5 HX HZ2
          clear hr HZ
          rcases ht : within td 0 100 with _ | _
          · have HE : Hid (chkR rs = 3) := HX.out ht
            clear HX HZ2
            go_wp2_with (go_at_call 29; refine (within_any _ _ _ _).mono ?_; rintro e w' ⟨rfl, rfl⟩; rw [ht])
            go_ret
            exact ⟨ret_int HE.out.symm, HB.out.alloc HB.out.size _⟩
          · have HZ3 : Hid (∀ j, j < k2 + 1 → within (rs.getD j dr).told 0 100 = true) := HZ2.out ht
            clear HX HZ2
            go_wp2_with (go_at_call 29; refine (within_any _ _ _ _).mono ?_; rintro e w' ⟨rfl, rfl⟩; rw [ht])
            go_roundw
            case rel => exact ⟨k2 + 1, by omega, by go_num, HZ3, HB.out.alloc HB.out.size _⟩
            case measure => simp [intOf]; omega
        · have HTA : Hid (AllTold rs) := fun j hj => HZ.out j (by rw [HN.out] at hj; omega)
          clear HZ
          go_wp2_with fail
          refine (met_any rs _ _ (HV.out.below HB.out) (by rw [HN.out]; omega)).mono ?_
          rintro e w1 ⟨rfl, hown, hb1⟩
          have HO : Hid (w1.ownsMap Try.prog 9 (plainElem (H := Unit) Try.prog 3) wr.heap.size rs.length (Dm (rnames rs) rs.length)) := hown
          have HB1 : Hid (Below w.heap.size w w1) := HB.out.trans (hb1.mono HB.out.size)
          clear hown hb1
          have hsz1 : (Maps.size (Dm (rnames rs) rs.length) : Nat) ≤ n := by rw [← HN.out]; exact Dm_size_le _ _
          by_cases hd : Distinct rs
          · have HE : Hid (chkR rs = 0) := chkR_ok (by rw [HN.out]; exact hn20) HZA.out HTA.out hd
            have HSZ : ¬ ((Maps.size (Dm (rnames rs) rs.length) : Nat) : Int) < n := by rw [dm_eq hd, HN.out]; omega
            go_wp2_with (at_len; refine wpList_len_own _ rfl _ 50 rfl 9 3 Try.underlying50 _ _ _ _ rfl HO.out ?_)
            go_ret
            exact ⟨ret_int HE.out.symm, HB1.out⟩
          · have HE : Hid (chkR rs = 6) := chkR_twice (by rw [HN.out]; exact hn20) HZA.out HTA.out hd
            have HSZ : ((Maps.size (Dm (rnames rs) rs.length) : Nat) : Int) < n := by have := dm_lt hd; have := HN.out; omega
            go_wp2_with (at_len; refine wpList_len_own _ rfl _ 50 rfl 9 3 Try.underlying50 _ _ _ _ rfl HO.out ?_)
            go_ret
            exact ⟨ret_int HE.out.symm, HB1.out⟩

end Go.Proofs.Ytdcekfbejjjkkaa
