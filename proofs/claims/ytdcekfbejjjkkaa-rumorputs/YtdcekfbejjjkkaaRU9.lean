
/- Rumors: the document's Check, and whether lists are the same. -/
import Derived.Test.YtdcekfbejjjkkaaRU8
namespace Go.Proofs.Ytdcekfbejjjkkaa
open Go.RowKit Go.WideMaps Go.Maps

set_option maxHeartbeats 800000 in
theorem eqInM (d : Nat) (m : Mem) (w : World) : (Op.equalIn (d + 1 + 1) 24 (.agg #[.string m.name, .int .i64 m.state, .int .i64 m.life, .int .i64 m.addr, .bool m.server]) (.agg #[.string m.name, .int .i64 m.state, .int .i64 m.life, .int .i64 m.addr, .bool m.server])).run Try.prog w = .ok true w := by
  obtain ⟨n1, s1, l1, a1, v1⟩ := m
  have u3 := run_underlying Try.underlying3
  have a3 := Try.isAgg3
  have z3 := Try.sizeOf3
  have u4 := run_underlying Try.underlying4
  have a4 := Try.isAgg4
  have z4 := Try.sizeOf4
  have u9 := run_underlying Try.underlying9
  have a9 := Try.isAgg9
  have z9 := Try.sizeOf9
  have hS : Try.prog.underlying 24 = some (.struct (Try.prog.fieldsOf 24)) := by kernel_rfl
  have hp : Try.prog.stoodInHeld 24 = false := by kernel_rfl
  rw [run_equalIn_agg w (d + 1) 24 _ _ hS hp]
  simp only [Program.fieldsOf, Try.underlying24]
  go_simp

set_option maxHeartbeats 800000 in
theorem eqInR (r : Rum) (w : World) : (Op.equalIn 10000 47 (.agg #[.string r.m.name, .int .i64 r.m.state, .int .i64 r.m.life, .int .i64 r.m.addr, .bool r.m.server, .int .i64 r.told]) (.agg #[.string r.m.name, .int .i64 r.m.state, .int .i64 r.m.life, .int .i64 r.m.addr, .bool r.m.server, .int .i64 r.told])).run Try.prog w = .ok true w := by
  have hM := fun w => eqInM 9997 r.m w
  obtain ⟨⟨n1, s1, l1, a1, v1⟩, t1⟩ := r
  have u3 := run_underlying Try.underlying3
  have a3 := Try.isAgg3
  have z3 := Try.sizeOf3
  have a24 := Try.isAgg24
  have z24 := Try.sizeOf24
  have hS : Try.prog.underlying 47 = some (.struct (Try.prog.fieldsOf 47)) := by kernel_rfl
  have hp : Try.prog.stoodInHeld 47 = false := by kernel_rfl
  simp only at hM
  rw [show (10000 : Nat) = 9999 + 1 from rfl, run_equalIn_agg w 9999 47 _ _ hS hp]
  simp only [Program.fieldsOf, Try.underlying47]
  go_simp

theorem neqR (r : Rum) (w : World) : Sem.run Try.prog (binOp .neq 47 (.agg #[.string r.m.name, .int .i64 r.m.state, .int .i64 r.m.life, .int .i64 r.m.addr, .bool r.m.server, .int .i64 r.told]) (.agg #[.string r.m.name, .int .i64 r.m.state, .int .i64 r.m.life, .int .i64 r.m.addr, .bool r.m.server, .int .i64 r.told])) w = .ok (.bool false) w := by
  rw [run_neq_struct, eqInR]
  rfl

set_option maxHeartbeats 1600000 in
theorem sameR_self (rs : List Rum) (va vb : Value) (w : World) (ha : RSl w va rs) (hb : RSl w vb rs) (hsm : rs.length ≤ 1000) :
    Calls Try.prog 13 #[va, vb] w fun e w' => e = .returned (.bool true) ∧ Below w.heap.size w w' := by
  obtain ⟨pa, ca, rfl, _, ha⟩ := ha
  obtain ⟨pv, cb, rfl, _, hb⟩ := hb
  have HA : Hid (rs = [] ∨ ∃ b off, pa = some ⟨b, off, none⟩ ∧ b < w.heap.size ∧ RRow w b off rs) := ha
  have HB : Hid (rs = [] ∨ ∃ b off, pv = some ⟨b, off, none⟩ ∧ b < w.heap.size ∧ RRow w b off rs) := hb
  clear ha hb
  generalize hna : rs.length = n at *
  have HN : Hid (rs.length = n) := hna
  clear hna
  have hgR : Try.prog.eqGuardType Try.prog.depth 47 = false := by kernel_rfl
  go_enter Try.func13, Try.ntmps13
  go_wp2_with fail
  go_loopw [5] (fun i w' => ∃ k : Nat, k ≤ n ∧ i = .int .i64 k ∧ Hid (Below w.heap.size w w')) (fun i _ => n - (intOf i).toNat)
  case atStart => exact ⟨0, Nat.zero_le _, rfl, Below.refl _ _⟩
  case round =>
    obtain ⟨k, hk, rfl, HBL⟩ := hrel
    by_cases hlt : k < n
    · obtain ⟨b1, o1, hp1, hl1, hr1⟩ : ∃ b off, pa = some ⟨b, off, none⟩ ∧ b < w.heap.size ∧ RRow w b off rs := by
        rcases HA.out with h | h
        · have := HN.out; rw [h] at this; simp at this; omega
        · exact h
      obtain ⟨b2, o2, hp2, hl2, hr2⟩ : ∃ b off, pv = some ⟨b, off, none⟩ ∧ b < w.heap.size ∧ RRow w b off rs := by
        rcases HB.out with h | h
        · have := HN.out; rw [h] at this; simp at this; omega
        · exact h
      subst hp1
      subst hp2
      obtain ⟨c0, c1, c2, c3, c4, c5⟩ := hr1.below HBL.out hl1 k (by rw [HN.out]; exact hlt)
      obtain ⟨d0, d1, d2, d3, d4, d5⟩ := hr2.below HBL.out hl2 k (by rw [HN.out]; exact hlt)
      clear hr1 hr2
      have hneq := neqR (rs.getD k dr)
      generalize rs.getD k dr = rk at *
      obtain ⟨⟨n1, s1, l1, a1, v1⟩, t1⟩ := rk
      simp only at c0 c1 c2 c3 c4 c5 d0 d1 d2 d3 d4 d5 hneq
      go_wp2_with fail
      go_quiet (fail)
      go_wp2_with fail
      go_roundw
      case rel => exact ⟨k + 1, by omega, by go_num, below_drewN HBL.out _⟩
      case measure => simp [intOf]; omega
    · go_wp2_with fail
      go_ret
      exact ⟨rfl, HBL.out⟩

theorem beq_names (a b : ByteArray) : (a.toList == b.toList) = decide (a = b) := by
  by_cases h : a = b
  · subst h; simp
  · have h2 : ¬ a.toList = b.toList := fun e => h (ba_ext (by rw [Lib.toList_data, Lib.toList_data] at e; exact e))
    simp [h, h2]

set_option maxHeartbeats 6400000 in
set_option maxRecDepth 100000 in
theorem checkRumors_any (rs : List Rum) (v : Value) (w : World) (hv : RSl w v rs) :
    Calls Try.prog 8 #[v] w fun e w' => e = .returned (.int .i64 (chkR rs)) ∧ Below w.heap.size w w' := by
  obtain ⟨pa, ca, rfl, hsz, ha⟩ := hv
  by_cases hmany : 20 < rs.length
  · have HE : Hid (chkR rs = 2) := chkR_many hmany
    go_enter Try.func8, Try.ntmps8
    go_wp2_with fail
    go_ret
    exact ⟨ret_int HE.out.symm, Below.refl _ _⟩
  have HA : Hid (rs = [] ∨ ∃ b off, pa = some ⟨b, off, none⟩ ∧ b < w.heap.size ∧ RRow w b off rs) := ha
  have HS : Hid (∀ j, (rs.getD j dr).m.name.size ≤ maxLen) := hsz
  clear ha hsz
  generalize hN : rs.length = n at *
  have HN : Hid (rs.length = n) := hN
  clear hN
  have hn20 : n ≤ 20 := by omega
  go_enter Try.func8, Try.ntmps8
  go_wp2
  go_loopw [3] (fun i wr => ∃ k : Nat, k ≤ n ∧ i = .int .i64 k ∧ Hid (∀ j, j < k → (rs.getD j dr).m.e = 0) ∧ Hid (Below w.heap.size w wr))
    (fun i _ => n - (intOf i).toNat)
  case atStart => exact ⟨0, Nat.zero_le _, rfl, fun j hj => by omega, Below.refl _ _⟩
  case round =>
    obtain ⟨k, hk, rfl, HZ, HB⟩ := hrel
    by_cases hlt : k < n
    · obtain ⟨b, off, hp, hl, hr⟩ : ∃ b off, pa = some ⟨b, off, none⟩ ∧ b < w.heap.size ∧ RRow w b off rs := by
        rcases HA.out with h | h
        · have := HN.out; rw [h] at this; simp at this; omega
        · exact h
      subst hp
      obtain ⟨c0, c1, c2, c3, c4, c5⟩ := hr.below HB.out hl k (by rw [HN.out]; exact hlt)
      have hnm := HS.out k
      have HX : Hid ((rs.getD k dr).m.e ≠ 0 → chkR rs = (rs.getD k dr).m.e) := fun h => chkR_mem (by rw [HN.out]; exact hn20) (by rw [HN.out]; exact hlt) HZ.out h
      have HZ2 : Hid ((rs.getD k dr).m.e = 0 → ∀ j, j < k + 1 → (rs.getD j dr).m.e = 0) := fun h j hj => by
        by_cases e : j = k
        · subst e; exact h
        · exact HZ.out j (by omega)
      generalize (rs.getD k dr) = rk at *
      obtain ⟨⟨nm, st, lf, ad, sv⟩, td⟩ := rk
      simp only at c0 c1 c2 c3 c4 c5 hnm HX HZ2
      simp only [Mem.e] at HX HZ2
      clear hr HZ
      go_wp2_with fail
      refine (oneMember_any nm st lf ad sv _ hnm).mono ?_
      rintro e w1 ⟨rfl, rfl⟩
      have HB1 : Hid (Below w.heap.size w (wr.alloc (.cells #[.string nm, .int .i64 st, .int .i64 lf, .int .i64 ad, .bool sv] 24))) := HB.out.alloc HB.out.size _
      clear c0 c1 c2 c3 c4 c5 HB
      by_cases he : oneE nm st lf ad = 0
      · have he' : (oneE nm st lf ad != 0) = false := by simpa using he
        have HZ3 : Hid (∀ j, j < k + 1 → (rs.getD j dr).m.e = 0) := HZ2.out he
        clear HX HZ2 he
        go_wp2_with fail
        go_roundw
        case rel => exact ⟨k + 1, by omega, by go_num, HZ3, HB1⟩
        case measure => simp [intOf]; omega
      · have he' : (oneE nm st lf ad != 0) = true := by simpa using he
        have HE : Hid (chkR rs = oneE nm st lf ad) := HX.out he
        clear HX HZ2 he
        go_wp2_with fail
        go_ret
        exact ⟨ret_int HE.out.symm, HB1.out⟩
    · have HZA : Hid (∀ j, j < rs.length → (rs.getD j dr).m.e = 0) := fun j hj => HZ.out j (by rw [HN.out] at hj; omega)
      clear HZ
      go_wp2_with fail
      go_loopw [5] (fun i wr => ∃ k : Nat, k ≤ n ∧ i = .int .i64 k ∧ Hid (∀ j, j < k → within (rs.getD j dr).told 0 100 = true) ∧ Hid (Below w.heap.size w wr))
        (fun i _ => n - (intOf i).toNat)
      case atStart => exact ⟨0, Nat.zero_le _, rfl, fun j hj => by omega, HB⟩
      case round =>
        clear HB hlt hk
        obtain ⟨k2, hk, rfl, HZ, HB⟩ := hrel
        by_cases hlt : k2 < n
        · obtain ⟨b, off, hp, hl, hr⟩ : ∃ b off, pa = some ⟨b, off, none⟩ ∧ b < w.heap.size ∧ RRow w b off rs := by
            rcases HA.out with h | h
            · have := HN.out; rw [h] at this; simp at this; omega
            · exact h
          subst hp
          obtain ⟨c0, c1, c2, c3, c4, c5⟩ := hr.below HB.out hl k2 (by rw [HN.out]; exact hlt)
          have HX : Hid (within (rs.getD k2 dr).told 0 100 = false → chkR rs = 3) := fun h => chkR_told (by rw [HN.out]; exact hn20) HZA.out (by rw [HN.out]; exact hlt) h
          have HZ2 : Hid (within (rs.getD k2 dr).told 0 100 = true → ∀ j, j < k2 + 1 → within (rs.getD j dr).told 0 100 = true) := fun h j hj => by
            by_cases e : j = k2
            · subst e; exact h
            · exact HZ.out j (by omega)
          generalize (rs.getD k2 dr) = rk at *
          obtain ⟨⟨nm, st, lf, ad, sv⟩, td⟩ := rk
          simp only at c0 c1 c2 c3 c4 c5 HX HZ2
          clear hr HZ
          rcases ht : within td 0 100 with _ | _
          · have HE : Hid (chkR rs = 3) := HX.out ht
            clear HX HZ2
            go_wp2_with (go_at_call 25; refine (between_any _ _ _ _).mono ?_; rintro e w' ⟨rfl, rfl⟩; rw [ht])
            go_ret
            exact ⟨ret_int HE.out.symm, HB.out⟩
          · have HZ3 : Hid (∀ j, j < k2 + 1 → within (rs.getD j dr).told 0 100 = true) := HZ2.out ht
            clear HX HZ2
            go_wp2_with (go_at_call 25; refine (between_any _ _ _ _).mono ?_; rintro e w' ⟨rfl, rfl⟩; rw [ht])
            go_roundw
            case rel => exact ⟨k2 + 1, by omega, by go_num, HZ3, HB⟩
            case measure => simp [intOf]; omega
        · have HTA : Hid (AllTold rs) := fun j hj => HZ.out j (by rw [HN.out] at hj; omega)
          clear HZ
          go_wp2_with fail
          go_loopw [6] (fun i wr => ∃ k : Nat, k ≤ n ∧ i = .int .i64 k ∧ Hid (∀ a b, a < b → b < k → (rs.getD a dr).m.name ≠ (rs.getD b dr).m.name) ∧ Hid (Below w.heap.size w wr))
            (fun i _ => n - (intOf i).toNat)
          case atStart => exact ⟨0, Nat.zero_le _, rfl, fun a b _ hb => by omega, HB⟩
          case round =>
            clear HB hlt hk
            obtain ⟨k3, hk, rfl, HZ, HB⟩ := hrel
            by_cases hlt : k3 < n
            · obtain ⟨b, off, hp, hl, hr⟩ : ∃ b off, pa = some ⟨b, off, none⟩ ∧ b < w.heap.size ∧ RRow w b off rs := by
                rcases HA.out with h | h
                · have := HN.out; rw [h] at this; simp at this; omega
                · exact h
              subst hp
              have HR : Hid (RRow w b off rs) := hr
              clear hr
              go_wp2_with fail
              go_loopw [7] (fun i wr => ∃ k : Nat, k ≤ k3 ∧ i = .int .i64 k ∧ Hid (∀ a, a < k → (rs.getD a dr).m.name ≠ (rs.getD k3 dr).m.name) ∧ Hid (Below w.heap.size w wr))
                (fun i _ => k3 - (intOf i).toNat)
              case atStart => exact ⟨0, Nat.zero_le _, rfl, fun a ha => by omega, HB⟩
              case round =>
                clear HB hk
                obtain ⟨k4, hk4, rfl, HY, HB⟩ := hrel
                by_cases hlt4 : k4 < k3
                · obtain ⟨c0, _, _, _, _, _⟩ := HR.out.below HB.out hl k4 (by rw [HN.out]; omega)
                  obtain ⟨d0, _, _, _, _, _⟩ := HR.out.below HB.out hl k3 (by rw [HN.out]; exact hlt)
                  have HX : Hid ((rs.getD k4 dr).m.name = (rs.getD k3 dr).m.name → chkR rs = 6) := fun h => chkR_twice (by rw [HN.out]; exact hn20) HZA.out HTA.out (fun hd => hd k4 k3 hlt4 (by rw [HN.out]; exact hlt) h)
                  have HY2 : Hid ((rs.getD k4 dr).m.name ≠ (rs.getD k3 dr).m.name → ∀ a, a < k4 + 1 → (rs.getD a dr).m.name ≠ (rs.getD k3 dr).m.name) := fun h a ha => by
                    by_cases e : a = k4
                    · subst e; exact h
                    · exact HY.out a (by omega)
                  have hbq := beq_names (rs.getD k4 dr).m.name (rs.getD k3 dr).m.name
                  clear HY HZ
                  generalize (rs.getD k4 dr).m.name = x4 at *
                  generalize (rs.getD k3 dr).m.name = x3 at *
                  by_cases hx : x4 = x3
                  · have HE : Hid (chkR rs = 6) := HX.out hx
                    subst hx
                    clear HX HY2 hbq
                    go_wp2_with fail
                    go_quiet (fail)
                    go_wp2_with fail
                    go_ret
                    exact ⟨ret_int HE.out.symm, below_drewN HB.out _⟩
                  · have HY3 : Hid (∀ a, a < k4 + 1 → (rs.getD a dr).m.name ≠ x3) := HY2.out hx
                    rw [decide_eq_false hx] at hbq
                    clear HX HY2 hx
                    go_wp2_with fail
                    go_quiet (fail)
                    go_wp2_with fail
                    exact ⟨⟨k4 + 1, by omega, by go_num, HY3, below_drewN HB.out _⟩, by simp [intOf]; omega⟩
                · have HZ3 : Hid (∀ a b, a < b → b < k3 + 1 → (rs.getD a dr).m.name ≠ (rs.getD b dr).m.name) := fun a b hab hb => by
                    by_cases e : b = k3
                    · subst e; exact HY.out a (by omega)
                    · exact HZ.out a b hab (by omega)
                  clear HZ HY
                  go_wp2_with fail
                  exact ⟨⟨k3 + 1, by omega, by go_num, HZ3, HB⟩, by simp [intOf]; omega⟩
            · have HE : Hid (chkR rs = 0) := chkR_ok (by rw [HN.out]; exact hn20) HZA.out HTA.out (fun a b hab hb => HZ.out a b hab (by rw [HN.out] at hb; omega))
              clear HZ
              go_wp2_with fail
              go_ret
              exact ⟨ret_int HE.out.symm, HB.out⟩

end Go.Proofs.Ytdcekfbejjjkkaa
