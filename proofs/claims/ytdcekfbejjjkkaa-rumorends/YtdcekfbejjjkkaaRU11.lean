
/- The law RumorPuts. -/
import Derived.Test.YtdcekfbejjjkkaaRU10
import Derived.Test.YtdcekfbejjjkkaaRU6
namespace Go.Proofs.Ytdcekfbejjjkkaa
open Go.RowKit

theorem rsl_nil (w : World) : RSl w (.slice none 0 0) [] := ⟨none, 0, rfl, rns_get (by simp), .inl rfl⟩
theorem ROwn.names {base : Nat} {w : World} {v : Value} {ms : List Rum} (h : ROwn base w v ms) (hs : ∀ r ∈ ms, r.m.name.size ≤ maxLen) : RSl w v ms := h.sl (rns_get hs)

set_option maxHeartbeats 800000 in
theorem put_bad1 (rs : List Rum) (v : Value) (m : Mem) (w : World) (hv : RSl w v rs) (h0 : chkR rs ≠ 0) :
    Calls Try.prog 7 #[v, .agg #[.string m.name, .int .i64 m.state, .int .i64 m.life, .int .i64 m.addr, .bool m.server]] w fun e w' => e = .returned (.tuple #[.slice none 0 0, .int .i64 (chkR rs)]) ∧ Below w.heap.size w w' := by
  have HV : Hid (RSl w v rs) := hv
  have hne : (chkR rs != 0) = true := by simpa using h0
  have hchk := fun (w : World) (h : RSl w v rs) => checkR_any rs v w h
  clear hv h0
  generalize chkR rs = q at *
  have hB0 : Below w.heap.size w (w.alloc (.cells #[.string m.name, .int .i64 m.state, .int .i64 m.life, .int .i64 m.addr, .bool m.server] 24)) := (Below.refl _ _).alloc (Nat.le_refl _) _
  go_enter Try.func7, Try.ntmps7
  go_wp2_with fail
  refine (hchk _ (HV.out.below hB0)).mono ?_
  rintro e w1 ⟨rfl, hb1⟩
  have HB1 : Hid (Below w.heap.size w w1) := hB0.trans (hb1.mono (by simp))
  clear hb1 hB0 hchk
  go_wp2_with fail
  go_ret2
  exact ⟨rfl, HB1.out⟩

set_option maxHeartbeats 800000 in
theorem put_bad2 (rs : List Rum) (v : Value) (m : Mem) (w : World) (hv : RSl w v rs) (hm : m.name.size ≤ maxLen) (h0 : chkR rs = 0) (he : m.e ≠ 0) :
    Calls Try.prog 7 #[v, .agg #[.string m.name, .int .i64 m.state, .int .i64 m.life, .int .i64 m.addr, .bool m.server]] w fun e w' => e = .returned (.tuple #[.slice none 0 0, .int .i64 m.e]) ∧ Below w.heap.size w w' := by
  have HV : Hid (RSl w v rs) := hv
  have hne : (m.e != 0) = true := by simpa using he
  have hchk := fun (w : World) (h : RSl w v rs) => checkR_any rs v w h
  rw [h0] at hchk
  have hcm := fun w => checkMember_any m w hm
  clear hv h0 he
  generalize m.e = q at *
  have hB0 : Below w.heap.size w (w.alloc (.cells #[.string m.name, .int .i64 m.state, .int .i64 m.life, .int .i64 m.addr, .bool m.server] 24)) := (Below.refl _ _).alloc (Nat.le_refl _) _
  go_enter Try.func7, Try.ntmps7
  go_wp2_with fail
  refine (hchk _ (HV.out.below hB0)).mono ?_
  rintro e w1 ⟨rfl, hb1⟩
  have c1 : ∀ o, w1.cell? ⟨w.heap.size, o, none⟩ = #[Value.string m.name, .int .i64 m.state, .int .i64 m.life, .int .i64 m.addr, .bool m.server][o]? := fun o => by
    rw [hb1.cell (p := ⟨w.heap.size, o, none⟩) (by simp)]; exact cell_top' rfl
  have HB1 : Hid (Below w.heap.size w w1) := hB0.trans (hb1.mono (by simp))
  clear hb1 hB0 hchk
  go_wp2_with fail
  refine (hcm _).mono ?_
  rintro e w2 ⟨rfl, hb2⟩
  have HB2 : Hid (Below w.heap.size w w2) := HB1.out.trans (hb2.mono HB1.out.size)
  clear hb2 c1 hcm
  go_wp2_with fail
  go_ret2
  exact ⟨rfl, HB2.out⟩

theorem find_name (rs : List Rum) (nm : ByteArray) : NotIn rs nm ∨ ∃ p, p < rs.length ∧ (rs.getD p dr).m.name = nm := by
  by_cases h : ∃ p, p < rs.length ∧ (rs.getD p dr).m.name = nm
  · exact .inr h
  · exact .inl (fun j hj e => h ⟨j, hj, e⟩)

/-- What Put answers: the program's and the document's. -/
structure PutIs (rs : List Rum) (m : Mem) (E : Int) (res : List Rum) : Prop where
  prog : ∀ v w, RSl w v rs → Calls Try.prog 7 #[v, .agg #[.string m.name, .int .i64 m.state, .int .i64 m.life, .int .i64 m.addr, .bool m.server]] w fun e w' => ∃ v', e = .returned (.tuple #[v', .int .i64 E]) ∧ RSl w' v' res ∧ Below w.heap.size w w'
  doc : chkR rs = 0 → m.e = 0 → ∀ v w, RSl w v rs → Calls Try.prog 10 #[v, .agg #[.string m.name, .int .i64 m.state, .int .i64 m.life, .int .i64 m.addr, .bool m.server]] w fun e w' => ∃ v', e = .returned (.tuple #[v', .int .i64 E]) ∧ RSl w' v' res ∧ Below w.heap.size w w'
  bad1 : chkR rs ≠ 0 → E = chkR rs ∧ res = []
  bad2 : chkR rs = 0 → m.e ≠ 0 → E = m.e ∧ res = []
  len : res.length ≤ 20

theorem put_all (rs : List Rum) (m : Mem) (hm : m.name.size ≤ maxLen) : ∃ E res, PutIs rs m E res := by
  by_cases h0 : chkR rs = 0
  · by_cases he : m.e = 0
    · obtain ⟨hn20, _, _, hd⟩ := chkR_zero h0
      have hs : ∀ {v w}, RSl w v rs → ∀ r ∈ rs, r.m.name.size ≤ maxLen := fun h => by obtain ⟨_, _, _, h, _⟩ := h; exact rns_mem h
      rcases find_name rs m.name with hno | ⟨p, hp, hpn⟩
      · have heq : rs.eraseIdx rs.length = rs := List.eraseIdx_of_length_le (Nat.le_refl _)
        have hdoc := fun v w hv => putRumor_newer rs v m w hv hm hn20 rs.length (fun j hj _ => hno j hj) (fun h => absurd h (Nat.lt_irrefl _))
        rw [heq] at hdoc
        by_cases hl : rs.length = 20
        · refine ⟨2, [], ⟨fun v w hv => (put_full rs v m w hv hm h0 he hno hl).mono ?_, fun _ _ v w hv => (hdoc v w hv).mono ?_, fun h => absurd h0 h, fun _ h => absurd he h, by simp⟩⟩
          · rintro e w' ⟨rfl, hb⟩
            exact ⟨_, rfl, rsl_nil _, hb⟩
          · rintro e w' (⟨_, rfl, hb⟩ | ⟨h, _⟩)
            · exact ⟨_, rfl, rsl_nil _, hb⟩
            · omega
        · have hlt : rs.length < 20 := by omega
          have hnm : ∀ {v w}, RSl w v rs → ∀ r ∈ rs ++ [⟨m, 0⟩], r.m.name.size ≤ maxLen := fun h r hr => by
            rcases List.mem_append.1 hr with hr | hr
            · exact hs h r hr
            · have : r = ⟨m, 0⟩ := by simpa using hr
              subst this; exact hm
          refine ⟨0, rs ++ [⟨m, 0⟩], ⟨fun v w hv => (put_new rs v m w hv hm h0 he hno hlt).mono ?_, fun _ _ v w hv => (hdoc v w hv).mono ?_, fun h => absurd h0 h, fun _ h => absurd he h, by simp; omega⟩⟩
          · rintro e w' ⟨v', rfl, ho, hb⟩
            exact ⟨v', rfl, ho.names (hnm hv), hb⟩
          · rintro e w' (⟨h, _⟩ | ⟨_, v', rfl, ho, hb⟩)
            · omega
            · exact ⟨v', rfl, ho.names (hnm hv), hb⟩
      · have hne : ∀ j, j < rs.length → j ≠ p → (rs.getD j dr).m.name ≠ m.name := fun j hj hjp e => by
          rcases Nat.lt_or_gt_of_ne hjp with h | h
          · exact hd j p h hp (e.trans hpn.symm)
          · exact hd p j h hj (hpn.trans e.symm)
        rcases hq : newM m (rs.getD p dr).m with _ | _
        · refine ⟨0, rs, ⟨fun v w hv => (put_old rs v m w hv hm h0 he p hp hpn hq).mono ?_, fun _ _ v w hv => (putRumor_old rs v m w hv hm hn20 p hne hp (fun _ => ⟨hpn, hq⟩)).mono ?_, fun h => absurd h0 h, fun _ h => absurd he h, hn20⟩⟩
          · rintro e w' ⟨v', rfl, ho, hb⟩
            exact ⟨v', rfl, ho.names (hs hv), hb⟩
          · rintro e w' ⟨rfl, hb⟩
            exact ⟨v, rfl, hv.below hb, hb⟩
        · have hle : (rs.eraseIdx p).length = rs.length - 1 := by rw [List.length_eraseIdx, if_pos hp]
          have hnm : ∀ {v w}, RSl w v rs → ∀ r ∈ rs.eraseIdx p ++ [⟨m, 0⟩], r.m.name.size ≤ maxLen := fun h r hr => by
            rcases List.mem_append.1 hr with hr | hr
            · exact hs h r (List.mem_of_mem_eraseIdx hr)
            · have : r = ⟨m, 0⟩ := by simpa using hr
              subst this; exact hm
          refine ⟨0, rs.eraseIdx p ++ [⟨m, 0⟩], ⟨fun v w hv => (put_newer rs v m w hv hm h0 he p hp hpn hq).mono ?_, fun _ _ v w hv => (putRumor_newer rs v m w hv hm hn20 p hne (fun _ => ⟨hpn, hq⟩)).mono ?_, fun h => absurd h0 h, fun _ h => absurd he h, by rw [List.length_append, hle]; simp; omega⟩⟩
          · rintro e w' ⟨v', rfl, ho, hb⟩
            exact ⟨v', rfl, ho.names (hnm hv), hb⟩
          · rintro e w' (⟨h, _⟩ | ⟨_, v', rfl, ho, hb⟩)
            · rw [hle] at h; omega
            · exact ⟨v', rfl, ho.names (hnm hv), hb⟩
    · refine ⟨m.e, [], ⟨fun v w hv => (put_bad2 rs v m w hv hm h0 he).mono ?_, fun _ h => absurd h he, fun h => absurd h0 h, fun _ _ => ⟨rfl, rfl⟩, by simp⟩⟩
      rintro e w' ⟨rfl, hb⟩
      exact ⟨_, rfl, rsl_nil _, hb⟩
  · refine ⟨chkR rs, [], ⟨fun v w hv => (put_bad1 rs v m w hv h0).mono ?_, fun h => absurd h h0, fun _ => ⟨rfl, rfl⟩, fun h => absurd h h0, by simp⟩⟩
    rintro e w' ⟨rfl, hb⟩
    exact ⟨_, rfl, rsl_nil _, hb⟩

set_option maxHeartbeats 1600000 in
theorem rumorPuts_walk (rs : List Rum) (v : Value) (m : Mem) (w : World) (hv : RSl w v rs) (hm : m.name.size ≤ maxLen) :
    Calls Try.prog 3 #[v, .agg #[.string m.name, .int .i64 m.state, .int .i64 m.life, .int .i64 m.addr, .bool m.server]] w fun e w' => e = .returned (.bool true) ∧ Below w.heap.size w w' := by
  obtain ⟨E, res, hP⟩ := put_all rs m hm
  have HP : Hid (PutIs rs m E res) := hP
  have HV : Hid (RSl w v rs) := hv
  have hOM := fun w => oneMember_any m.name m.state m.life m.addr m.server w hm
  have hme : oneE m.name m.state m.life m.addr = m.e := rfl
  rw [hme] at hOM
  have hlen := hP.len
  clear hP hv hme
  have hB0 : Below w.heap.size w (w.alloc (.cells #[.string m.name, .int .i64 m.state, .int .i64 m.life, .int .i64 m.addr, .bool m.server] 24)) := (Below.refl _ _).alloc (Nat.le_refl _) _
  go_enter Try.func3, Try.ntmps3
  go_wp2_with fail
  refine (HP.out.prog v _ (HV.out.below hB0)).mono ?_
  rintro e w1 ⟨x, rfl, hx, hb1⟩
  have c1 : ∀ o, w1.cell? ⟨w.heap.size, o, none⟩ = #[Value.string m.name, .int .i64 m.state, .int .i64 m.life, .int .i64 m.addr, .bool m.server][o]? := fun o => by
    rw [hb1.cell (p := ⟨w.heap.size, o, none⟩) (by simp)]; exact cell_top' rfl
  have HX1 : Hid (RSl w1 x res) := hx
  have HB1 : Hid (Below w.heap.size w w1) := hB0.trans (hb1.mono (by simp))
  have hz1 : w.heap.size < w1.heap.size := by have := hb1.size; simp at this; omega
  clear hb1 hB0 hx
  go_wp2_with fail
  refine (checkRumors_any rs v _ (HV.out.below HB1.out)).mono ?_
  rintro e w2 ⟨rfl, hb2⟩
  have c2 : ∀ o, w2.cell? ⟨w.heap.size, o, none⟩ = #[Value.string m.name, .int .i64 m.state, .int .i64 m.life, .int .i64 m.addr, .bool m.server][o]? := fun o => by
    rw [hb2.cell (p := ⟨w.heap.size, o, none⟩) (by simp only; omega)]; exact c1 o
  have HX2 : Hid (RSl w2 x res) := HX1.out.below hb2
  have HB2 : Hid (Below w.heap.size w w2) := HB1.out.trans (hb2.mono HB1.out.size)
  have hz2 : w.heap.size < w2.heap.size := by have := hb2.size; omega
  clear hb2 c1 hz1 HX1 HB1
  by_cases h0 : chkR rs = 0
  · by_cases he : m.e = 0
    · have hchk := fun (w : World) (h : RSl w v rs) => checkR_any rs v w h
      rw [h0] at hchk
      rw [he] at hOM
      rw [h0]
      go_wp2_with fail
      refine (hOM _).mono ?_
      rintro e w3 ⟨rfl, rfl⟩
      have hb3 : Below w2.heap.size w2 (w2.alloc (.cells #[.string m.name, .int .i64 m.state, .int .i64 m.life, .int .i64 m.addr, .bool m.server] 24)) := (Below.refl _ _).alloc (Nat.le_refl _) _
      generalize w2.alloc (.cells #[.string m.name, .int .i64 m.state, .int .i64 m.life, .int .i64 m.addr, .bool m.server] 24) = w3 at *
      have c3 : ∀ o, w3.cell? ⟨w.heap.size, o, none⟩ = #[Value.string m.name, .int .i64 m.state, .int .i64 m.life, .int .i64 m.addr, .bool m.server][o]? := fun o => by
        rw [hb3.cell (p := ⟨w.heap.size, o, none⟩) (by simp only; omega)]; exact c2 o
      have HX3 : Hid (RSl w3 x res) := HX2.out.below hb3
      have HB3 : Hid (Below w.heap.size w w3) := HB2.out.trans (hb3.mono HB2.out.size)
      clear hb3 c2 hz2 HX2 HB2 hOM
      go_wp2_with fail
      refine (HP.out.doc h0 he v _ (HV.out.below HB3.out)).mono ?_
      rintro e w4 ⟨y, rfl, hy, hb4⟩
      have HX4 : Hid (RSl w4 x res) := HX3.out.below hb4
      have HY4 : Hid (RSl w4 y res) := hy
      have HB4 : Hid (Below w.heap.size w w4) := HB3.out.trans (hb4.mono HB3.out.size)
      clear hb4 hy c3 HX3 HB3
      go_wp2_with fail
      refine (rumorBegun_any _).mono ?_
      rintro e w5 ⟨rfl, hb5⟩
      have HX5 : Hid (RSl w5 x res) := HX4.out.below hb5
      have HY5 : Hid (RSl w5 y res) := HY4.out.below hb5
      have HB5 : Hid (Below w.heap.size w w5) := HB4.out.trans (hb5.mono HB4.out.size)
      clear hb5 HX4 HY4 HB4
      go_wp2_with fail
      refine (hchk _ (HV.out.below HB5.out)).mono ?_
      rintro e w6 ⟨rfl, hb6⟩
      have HX6 : Hid (RSl w6 x res) := HX5.out.below hb6
      have HY6 : Hid (RSl w6 y res) := HY5.out.below hb6
      have HB6 : Hid (Below w.heap.size w w6) := HB5.out.trans (hb6.mono HB5.out.size)
      clear hb6 HX5 HY5 HB5 hchk
      go_wp2_with fail
      refine (sameR_self res x y _ HX6.out HY6.out (by omega)).mono ?_
      rintro e w7 ⟨rfl, hb7⟩
      have HB7 : Hid (Below w.heap.size w w7) := HB6.out.trans (hb7.mono HB6.out.size)
      clear hb7
      go_wp2_with fail
      go_ret
      exact ⟨rfl, HB7.out⟩
    · obtain ⟨rfl, rfl⟩ := HP.out.bad2 h0 he
      have hchk := fun (w : World) (h : RSl w v rs) => checkR_any rs v w h
      rw [h0] at hchk
      have hneq : (m.e == 0) = false := by simpa using he
      rw [h0]
      clear he
      go_wp2_with fail
      refine (hOM _).mono ?_
      rintro e w3 ⟨rfl, rfl⟩
      have hb3 : Below w2.heap.size w2 (w2.alloc (.cells #[.string m.name, .int .i64 m.state, .int .i64 m.life, .int .i64 m.addr, .bool m.server] 24)) := (Below.refl _ _).alloc (Nat.le_refl _) _
      generalize w2.alloc (.cells #[.string m.name, .int .i64 m.state, .int .i64 m.life, .int .i64 m.addr, .bool m.server] 24) = w4 at *
      have HX4 : Hid (RSl w4 x []) := HX2.out.below hb3
      have HB4 : Hid (Below w.heap.size w w4) := HB2.out.trans (hb3.mono HB2.out.size)
      clear hb3 c2 hz2 HX2 HB2 hOM
      go_wp2_with fail
      refine (rumorBegun_any _).mono ?_
      rintro e w5 ⟨rfl, hb5⟩
      have HX5 : Hid (RSl w5 x []) := HX4.out.below hb5
      have HB5 : Hid (Below w.heap.size w w5) := HB4.out.trans (hb5.mono HB4.out.size)
      clear hb5 HX4 HB4
      go_wp2_with fail
      refine (hchk _ (HV.out.below HB5.out)).mono ?_
      rintro e w6 ⟨rfl, hb6⟩
      have HX6 : Hid (RSl w6 x []) := HX5.out.below hb6
      have HB6 : Hid (Below w.heap.size w w6) := HB5.out.trans (hb6.mono HB5.out.size)
      clear hb6 HX5 HB5 hchk
      go_wp2_with fail
      refine (sameR_self [] x _ _ HX6.out (rsl_nil _) (by simp)).mono ?_
      rintro e w7 ⟨rfl, hb7⟩
      have HB7 : Hid (Below w.heap.size w w7) := HB6.out.trans (hb7.mono HB6.out.size)
      clear hb7
      go_wp2_with fail
      go_ret
      exact ⟨rfl, HB7.out⟩
  · obtain ⟨rfl, rfl⟩ := HP.out.bad1 h0
    have hchk := fun (w : World) (h : RSl w v rs) => checkR_any rs v w h
    have hneq : (chkR rs == 0) = false := by simpa using h0
    clear h0 HP
    generalize chkR rs = q at *
    go_wp2_with fail
    refine (rumorBegun_any _).mono ?_
    rintro e w5 ⟨rfl, hb5⟩
    have HX5 : Hid (RSl w5 x []) := HX2.out.below hb5
    have HB5 : Hid (Below w.heap.size w w5) := HB2.out.trans (hb5.mono HB2.out.size)
    clear hb5 HX2 HB2 c2
    go_wp2_with fail
    refine (hchk _ (HV.out.below HB5.out)).mono ?_
    rintro e w6 ⟨rfl, hb6⟩
    have HX6 : Hid (RSl w6 x []) := HX5.out.below hb6
    have HB6 : Hid (Below w.heap.size w w6) := HB5.out.trans (hb6.mono HB5.out.size)
    clear hb6 HX5 HB5 hchk
    go_wp2_with fail
    refine (sameR_self [] x _ _ HX6.out (rsl_nil _) (by simp)).mono ?_
    rintro e w7 ⟨rfl, hb7⟩
    have HB7 : Hid (Below w.heap.size w w7) := HB6.out.trans (hb7.mono HB6.out.size)
    clear hb7
    go_wp2_with fail
    go_ret
    exact ⟨rfl, HB7.out⟩

end Go.Proofs.Ytdcekfbejjjkkaa
