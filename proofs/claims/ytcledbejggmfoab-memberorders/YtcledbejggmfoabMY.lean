/- The law MemberOrders. -/
import Derived.Test.YtcledbejggmfoabMX
namespace Go.Proofs.Ytcledbejggmfoab
open Go.RowKit

theorem hear_jx (ms : List Mem) (m : Mem) (v : Value) (w : World) (hv : Sl w v ms) (hm : m.name.size ≤ maxLen) :
    Calls Try.prog 15 #[v, .agg #[.string m.name, .int .i64 m.state, .int .i64 m.life, .int .i64 m.addr, .bool m.server]] w fun e w' => ∃ (v' : Value) (r : Bool), e = .returned (.tuple #[v', .bool r, .int .i64 (joinE ms [m])]) ∧ Hid (Sl w' v' (jx ms [m])) ∧ Hid (joinE ms [m] = 0 → (r = true ↔ hearL ms m ≠ ms)) ∧ Below w.heap.size w w' := by
  have hns : ∀ x ∈ ms, x.name.size ≤ maxLen := by obtain ⟨_, _, _, h, _⟩ := hv; exact ns_mem h
  refine (hear_any ms m v w hv hm).mono ?_
  rintro e w' ⟨v', r, rfl, hb, hbad, hgood⟩
  refine ⟨v', r, rfl, ?_, fun h => (hgood h).2, hb⟩
  show Sl w' v' (jx ms [m])
  by_cases h : joinE ms [m] = 0
  · rw [jx, if_pos h]
    exact own_names (hgood h).1 (ns_hear hns hm)
  · rw [jx, if_neg h, (hbad h).1]
    exact sl_nil _

theorem join_jx (a b : List Mem) (va vb : Value) (w : World) (ha : Sl w va a) (hb : Sl w vb b) :
    Calls Try.prog 18 #[va, vb] w fun e w' => ∃ v', e = .returned (.tuple #[v', .int .i64 (joinE a b)]) ∧ Hid (Sl w' v' (jx a b)) ∧ Below w.heap.size w w' := by
  have hna : ∀ x ∈ a, x.name.size ≤ maxLen := by obtain ⟨_, _, _, h, _⟩ := ha; exact ns_mem h
  have hnb : ∀ x ∈ b, x.name.size ≤ maxLen := by obtain ⟨_, _, _, h, _⟩ := hb; exact ns_mem h
  refine (join2_any a b va vb w ha hb).mono ?_
  rintro e w' ⟨v', rfl, hbl, hbad, hgood⟩
  refine ⟨v', rfl, ?_, hbl⟩
  show Sl w' v' (jx a b)
  by_cases h : joinE a b = 0
  · rw [jx, if_pos h]
    exact own_names (hgood h) (ns_join b a hna hnb)
  · rw [jx, if_neg h, hbad h]
    exact sl_nil _

theorem same_eq (L : List Mem) (v1 v2 : Value) (w : World) (h1 : Sl w v1 L) (h2 : Sl w v2 L) (hn : L.length ≤ 1000) :
    Calls Try.prog 26 #[v1, v2] w fun e w' => e = .returned (.bool true) ∧ Below w.heap.size w w' := by
  refine (same_any L L v1 v2 w h1 h2 hn).mono ?_
  rintro e w' ⟨r, rfl, h, hb⟩
  exact ⟨ret_bool (h.2 rfl), hb⟩

set_option maxHeartbeats 16000000 in
set_option maxRecDepth 100000 in
theorem memberOrders_walk (l o t : List Mem) (vl vo vt : Value) (a b : Mem) (w : World) (hl : Sl w vl l) (ho : Sl w vo o) (ht : Sl w vt t) (ha : a.name.size ≤ maxLen) (hb : b.name.size ≤ maxLen) :
    Calls Try.prog 8 #[vl, .agg #[.string a.name, .int .i64 a.state, .int .i64 a.life, .int .i64 a.addr, .bool a.server], .agg #[.string b.name, .int .i64 b.state, .int .i64 b.life, .int .i64 b.addr, .bool b.server], vo, vt] w fun e w' => e = .returned (.bool true) ∧ Below w.heap.size w w' := by
  have hb0 : Below w.heap.size w ((w.alloc (.cells #[.string a.name, .int .i64 a.state, .int .i64 a.life, .int .i64 a.addr, .bool a.server] 28)).alloc (.cells #[.string b.name, .int .i64 b.state, .int .i64 b.life, .int .i64 b.addr, .bool b.server] 28)) := ((Below.refl _ _).alloc (Nat.le_refl _) _).alloc (by simp) _
  have SL : Hid (Sl ((w.alloc (.cells #[.string a.name, .int .i64 a.state, .int .i64 a.life, .int .i64 a.addr, .bool a.server] 28)).alloc (.cells #[.string b.name, .int .i64 b.state, .int .i64 b.life, .int .i64 b.addr, .bool b.server] 28)) vl l) := hl.below hb0
  have SO : Hid (Sl ((w.alloc (.cells #[.string a.name, .int .i64 a.state, .int .i64 a.life, .int .i64 a.addr, .bool a.server] 28)).alloc (.cells #[.string b.name, .int .i64 b.state, .int .i64 b.life, .int .i64 b.addr, .bool b.server] 28)) vo o) := ho.below hb0
  have ST : Hid (Sl ((w.alloc (.cells #[.string a.name, .int .i64 a.state, .int .i64 a.life, .int .i64 a.addr, .bool a.server] 28)).alloc (.cells #[.string b.name, .int .i64 b.state, .int .i64 b.life, .int .i64 b.addr, .bool b.server] 28)) vt t) := ht.below hb0
  have HAM : Hid (a.name.size ≤ maxLen) := ha
  have HBM : Hid (b.name.size ≤ maxLen) := hb
  have hwl : w.heap.size < w.heap.size + 1 + 1 := by omega
  have hwl2 : w.heap.size + 1 < w.heap.size + 1 + 1 := by omega
  have L1 := jx_len l [a]
  have HLX : Hid (∀ u v, (jx u v).length ≤ 20) := jx_len
  clear L1 hl ho ht ha hb
  go_enter Try.func8, Try.ntmps8
  go_wp2_with fail
  refine (begun_any _).mono ?_
  rintro e x0 ⟨rfl, hb⟩
  have SL0 : Hid (Sl x0 vl l) := SL.out.below hb
  have SO0 : Hid (Sl x0 vo o) := SO.out.below hb
  have ST0 : Hid (Sl x0 vt t) := ST.out.below hb
  have HB0 : Hid (Below w.heap.size w x0) := hb0.trans (hb.mono (by simp; omega))
  have hbx0 : ∀ k o, k < w.heap.size + 1 + 1 → x0.cell? ⟨k, o, none⟩ = ((w.alloc (.cells #[.string a.name, .int .i64 a.state, .int .i64 a.life, .int .i64 a.addr, .bool a.server] 28)).alloc (.cells #[.string b.name, .int .i64 b.state, .int .i64 b.life, .int .i64 b.addr, .bool b.server] 28)).cell? ⟨k, o, none⟩ := fun k o h => hb.cell (p := ⟨k, o, none⟩) (by simpa using h)
  have hsz0 : w.heap.size + 1 + 1 ≤ x0.heap.size := by have := hb.size; simpa using this
  clear hb hb0 SL SO ST
  go_wp2_with fail
  refine (hear_jx l a vl _ SL0.out HAM.out).mono ?_
  rintro e x1 ⟨v1, r1, rfl, SX, HR1, hb⟩
  have SL1 : Hid (Sl x1 vl l) := SL0.out.below hb
  have SO1 : Hid (Sl x1 vo o) := SO0.out.below hb
  have ST1 : Hid (Sl x1 vt t) := ST0.out.below hb
  have HB1 : Hid (Below w.heap.size w x1) := HB0.out.trans (hb.mono HB0.out.size)
  have hbx1 : ∀ k o, k < w.heap.size + 1 + 1 → x1.cell? ⟨k, o, none⟩ = ((w.alloc (.cells #[.string a.name, .int .i64 a.state, .int .i64 a.life, .int .i64 a.addr, .bool a.server] 28)).alloc (.cells #[.string b.name, .int .i64 b.state, .int .i64 b.life, .int .i64 b.addr, .bool b.server] 28)).cell? ⟨k, o, none⟩ := fun k o h => (hb.cell (p := ⟨k, o, none⟩) (by show k < x0.heap.size; omega)).trans (hbx0 k o h)
  have hsz1 : w.heap.size + 1 + 1 ≤ x1.heap.size := by have := hb.size; omega
  clear hbx0 hsz0
  clear hb
  go_wp2_with fail
  refine (hear_jx (jx l [a]) b v1 _ SX.out HBM.out).mono ?_
  rintro e x2 ⟨v2, r2, rfl, SY, HR2, hb⟩
  have SL2 : Hid (Sl x2 vl l) := SL1.out.below hb
  have SO2 : Hid (Sl x2 vo o) := SO1.out.below hb
  have ST2 : Hid (Sl x2 vt t) := ST1.out.below hb
  have SX2 : Hid (Sl x2 v1 (jx l [a])) := SX.out.below hb
  have HB2 : Hid (Below w.heap.size w x2) := HB1.out.trans (hb.mono HB1.out.size)
  have hbx2 : ∀ k o, k < w.heap.size + 1 + 1 → x2.cell? ⟨k, o, none⟩ = ((w.alloc (.cells #[.string a.name, .int .i64 a.state, .int .i64 a.life, .int .i64 a.addr, .bool a.server] 28)).alloc (.cells #[.string b.name, .int .i64 b.state, .int .i64 b.life, .int .i64 b.addr, .bool b.server] 28)).cell? ⟨k, o, none⟩ := fun k o h => (hb.cell (p := ⟨k, o, none⟩) (by show k < x1.heap.size; omega)).trans (hbx1 k o h)
  have hsz2 : w.heap.size + 1 + 1 ≤ x2.heap.size := by have := hb.size; omega
  clear hbx1 hsz1
  clear hb
  go_wp2_with fail
  refine (hear_jx l b vl _ SL2.out HBM.out).mono ?_
  rintro e x3 ⟨v3, r3, rfl, SZ, HR3, hb⟩
  have SL3 : Hid (Sl x3 vl l) := SL2.out.below hb
  have SO3 : Hid (Sl x3 vo o) := SO2.out.below hb
  have ST3 : Hid (Sl x3 vt t) := ST2.out.below hb
  have SY3 : Hid (Sl x3 v2 (jx (jx l [a]) [b])) := SY.out.below hb
  have HB3 : Hid (Below w.heap.size w x3) := HB2.out.trans (hb.mono HB2.out.size)
  have hbx3 : ∀ k o, k < w.heap.size + 1 + 1 → x3.cell? ⟨k, o, none⟩ = ((w.alloc (.cells #[.string a.name, .int .i64 a.state, .int .i64 a.life, .int .i64 a.addr, .bool a.server] 28)).alloc (.cells #[.string b.name, .int .i64 b.state, .int .i64 b.life, .int .i64 b.addr, .bool b.server] 28)).cell? ⟨k, o, none⟩ := fun k o h => (hb.cell (p := ⟨k, o, none⟩) (by show k < x2.heap.size; omega)).trans (hbx2 k o h)
  have hsz3 : w.heap.size + 1 + 1 ≤ x3.heap.size := by have := hb.size; omega
  clear hbx2 hsz2
  clear hb
  go_wp2_with fail
  refine (hear_jx (jx l [b]) a v3 _ SZ.out HAM.out).mono ?_
  rintro e x4 ⟨v4, r4, rfl, SV, HR4, hb⟩
  have SL4 : Hid (Sl x4 vl l) := SL3.out.below hb
  have SO4 : Hid (Sl x4 vo o) := SO3.out.below hb
  have ST4 : Hid (Sl x4 vt t) := ST3.out.below hb
  have SY4 : Hid (Sl x4 v2 (jx (jx l [a]) [b])) := SY3.out.below hb
  have SZ4 : Hid (Sl x4 v3 (jx l [b])) := SZ.out.below hb
  have HB4 : Hid (Below w.heap.size w x4) := HB3.out.trans (hb.mono HB3.out.size)
  have hbx4 : ∀ k o, k < w.heap.size + 1 + 1 → x4.cell? ⟨k, o, none⟩ = ((w.alloc (.cells #[.string a.name, .int .i64 a.state, .int .i64 a.life, .int .i64 a.addr, .bool a.server] 28)).alloc (.cells #[.string b.name, .int .i64 b.state, .int .i64 b.life, .int .i64 b.addr, .bool b.server] 28)).cell? ⟨k, o, none⟩ := fun k o h => (hb.cell (p := ⟨k, o, none⟩) (by show k < x3.heap.size; omega)).trans (hbx3 k o h)
  have hsz4 : w.heap.size + 1 + 1 ≤ x4.heap.size := by have := hb.size; omega
  clear hbx3 hsz3
  clear hb
  clear HR1 HR2 HR3 HR4
  rcases hF1 : (joinE l [a] == 0) with _ | _
  · go_wp2_with fail
    refine (join_jx l o vl vo _ SL4.out SO4.out).mono ?_
    rintro e x5 ⟨u1, rfl, SP, hb⟩
    have SL5 : Hid (Sl x5 vl l) := SL4.out.below hb
    have SO5 : Hid (Sl x5 vo o) := SO4.out.below hb
    have ST5 : Hid (Sl x5 vt t) := ST4.out.below hb
    have HB5 : Hid (Below w.heap.size w x5) := HB4.out.trans (hb.mono HB4.out.size)
    clear hb
    go_wp2_with fail
    refine (join_jx o l vo vl _ SO5.out SL5.out).mono ?_
    rintro e x6 ⟨u2, rfl, SQ, hb⟩
    have SL6 : Hid (Sl x6 vl l) := SL5.out.below hb
    have SO6 : Hid (Sl x6 vo o) := SO5.out.below hb
    have ST6 : Hid (Sl x6 vt t) := ST5.out.below hb
    have SP6 : Hid (Sl x6 u1 (jx l o)) := SP.out.below hb
    have HB6 : Hid (Below w.heap.size w x6) := HB5.out.trans (hb.mono HB5.out.size)
    clear hb
    have HPQ : Hid (Sl x6 u2 (jx l o)) := by rw [jx_comm]; exact SQ.out
    have HEQ : Hid ((joinE l o == 0) = (joinE o l == 0)) := by
      show (joinE l o == 0) = (joinE o l == 0)
      rw [Bool.eq_iff_iff]
      simp only [beq_iff_eq]
      exact ⟨joinE_comm0, joinE_comm0⟩
    rcases hE1 : (joinE l o == 0) with _ | _
    · have hE2 : (joinE o l == 0) = false := HEQ.out.symm.trans hE1
      have hE1n : (joinE l o != 0) = true := by rw [bne, hE1]; rfl
      go_wp2_with fail
      refine (same_eq (jx l o) u1 u2 _ SP6.out HPQ.out (by have := HLX.out l o; omega)).mono ?_
      rintro e x7 ⟨rfl, hb⟩
      have SL7 : Hid (Sl x7 vl l) := SL6.out.below hb
      have SO7 : Hid (Sl x7 vo o) := SO6.out.below hb
      have ST7 : Hid (Sl x7 vt t) := ST6.out.below hb
      have SP7 : Hid (Sl x7 u1 (jx l o)) := SP6.out.below hb
      have HB7 : Hid (Below w.heap.size w x7) := HB6.out.trans (hb.mono HB6.out.size)
      clear hb
      go_wp2_with fail
      refine (join_jx (jx l o) t u1 vt _ SP7.out ST7.out).mono ?_
      rintro e x8 ⟨u3, rfl, SR, hb⟩
      have SL8 : Hid (Sl x8 vl l) := SL7.out.below hb
      have SO8 : Hid (Sl x8 vo o) := SO7.out.below hb
      have ST8 : Hid (Sl x8 vt t) := ST7.out.below hb
      have SP8 : Hid (Sl x8 u1 (jx l o)) := SP7.out.below hb
      have HB8 : Hid (Below w.heap.size w x8) := HB7.out.trans (hb.mono HB7.out.size)
      clear hb
      go_wp2_with fail
      refine (join_jx o t vo vt _ SO8.out ST8.out).mono ?_
      rintro e x9 ⟨u4, rfl, SS, hb⟩
      have SL9 : Hid (Sl x9 vl l) := SL8.out.below hb
      have SO9 : Hid (Sl x9 vo o) := SO8.out.below hb
      have ST9 : Hid (Sl x9 vt t) := ST8.out.below hb
      have SR9 : Hid (Sl x9 u3 (jx (jx l o) t)) := SR.out.below hb
      have HB9 : Hid (Below w.heap.size w x9) := HB8.out.trans (hb.mono HB8.out.size)
      clear hb
      go_wp2_with fail
      refine (join_jx l (jx o t) vl u4 _ SL9.out SS.out).mono ?_
      rintro e x10 ⟨u5, rfl, SU, hb⟩
      have SL10 : Hid (Sl x10 vl l) := SL9.out.below hb
      have SR10 : Hid (Sl x10 u3 (jx (jx l o) t)) := SR9.out.below hb
      have SS10 : Hid (Sl x10 u4 (jx o t)) := SS.out.below hb
      have HB10 : Hid (Below w.heap.size w x10) := HB9.out.trans (hb.mono HB9.out.size)
      clear hb
      go_wp2_with fail
      go_ret
      exact ⟨rfl, HB10.out⟩
    · have hE2 : (joinE o l == 0) = true := HEQ.out.symm.trans hE1
      have hE1n : (joinE l o != 0) = false := by rw [bne, hE1]; rfl
      go_wp2_with fail
      refine (same_eq (jx l o) u1 u2 _ SP6.out HPQ.out (by have := HLX.out l o; omega)).mono ?_
      rintro e x7 ⟨rfl, hb⟩
      have SL7 : Hid (Sl x7 vl l) := SL6.out.below hb
      have SO7 : Hid (Sl x7 vo o) := SO6.out.below hb
      have ST7 : Hid (Sl x7 vt t) := ST6.out.below hb
      have SP7 : Hid (Sl x7 u1 (jx l o)) := SP6.out.below hb
      have HB7 : Hid (Below w.heap.size w x7) := HB6.out.trans (hb.mono HB6.out.size)
      clear hb
      go_wp2_with fail
      refine (join_jx (jx l o) t u1 vt _ SP7.out ST7.out).mono ?_
      rintro e x8 ⟨u3, rfl, SR, hb⟩
      have SL8 : Hid (Sl x8 vl l) := SL7.out.below hb
      have SO8 : Hid (Sl x8 vo o) := SO7.out.below hb
      have ST8 : Hid (Sl x8 vt t) := ST7.out.below hb
      have SP8 : Hid (Sl x8 u1 (jx l o)) := SP7.out.below hb
      have HB8 : Hid (Below w.heap.size w x8) := HB7.out.trans (hb.mono HB7.out.size)
      clear hb
      go_wp2_with fail
      refine (join_jx o t vo vt _ SO8.out ST8.out).mono ?_
      rintro e x9 ⟨u4, rfl, SS, hb⟩
      have SL9 : Hid (Sl x9 vl l) := SL8.out.below hb
      have SO9 : Hid (Sl x9 vo o) := SO8.out.below hb
      have ST9 : Hid (Sl x9 vt t) := ST8.out.below hb
      have SR9 : Hid (Sl x9 u3 (jx (jx l o) t)) := SR.out.below hb
      have HB9 : Hid (Below w.heap.size w x9) := HB8.out.trans (hb.mono HB8.out.size)
      clear hb
      go_wp2_with fail
      refine (join_jx l (jx o t) vl u4 _ SL9.out SS.out).mono ?_
      rintro e x10 ⟨u5, rfl, SU, hb⟩
      have SL10 : Hid (Sl x10 vl l) := SL9.out.below hb
      have SR10 : Hid (Sl x10 u3 (jx (jx l o) t)) := SR9.out.below hb
      have SS10 : Hid (Sl x10 u4 (jx o t)) := SS.out.below hb
      have HB10 : Hid (Below w.heap.size w x10) := HB9.out.trans (hb.mono HB9.out.size)
      clear hb
      rcases hE3 : (joinE (jx l o) t != 0) with _ | _
      · rcases hE4 : (joinE o t != 0) with _ | _
        · have hz1 : joinE l o = 0 := by simpa using hE1
          have hz3 : joinE (jx l o) t = 0 := by simpa using hE3
          have hz4 : joinE o t = 0 := by simpa using hE4
          obtain ⟨hz5, hzz⟩ := jx_assoc hz1 hz3 hz4
          have hE5 : (joinE l (jx o t) == 0) = true := by simpa using hz5
          have SU2 : Hid (Sl x10 u5 (jx (jx l o) t)) := by rw [hzz]; exact SU.out
          clear hz1 hz3 hz4 hz5 hzz
          go_wp2_with fail
          refine (same_eq (jx (jx l o) t) u3 u5 _ SR10.out SU2.out (by have := HLX.out (jx l o) t; omega)).mono ?_
          rintro e y9 ⟨rfl, hb⟩
          go_wp2_with fail
          go_ret
          exact ⟨rfl, HB10.out.trans (hb.mono HB10.out.size)⟩
        · go_wp2_with fail
          go_ret
          exact ⟨rfl, HB10.out⟩
      · go_wp2_with fail
        go_ret
        exact ⟨rfl, HB10.out⟩
  · rcases hF2 : (joinE (jx l [a]) [b] == 0) with _ | _
    · go_wp2_with fail
      refine (join_jx l o vl vo _ SL4.out SO4.out).mono ?_
      rintro e x5 ⟨u1, rfl, SP, hb⟩
      have SL5 : Hid (Sl x5 vl l) := SL4.out.below hb
      have SO5 : Hid (Sl x5 vo o) := SO4.out.below hb
      have ST5 : Hid (Sl x5 vt t) := ST4.out.below hb
      have HB5 : Hid (Below w.heap.size w x5) := HB4.out.trans (hb.mono HB4.out.size)
      clear hb
      go_wp2_with fail
      refine (join_jx o l vo vl _ SO5.out SL5.out).mono ?_
      rintro e x6 ⟨u2, rfl, SQ, hb⟩
      have SL6 : Hid (Sl x6 vl l) := SL5.out.below hb
      have SO6 : Hid (Sl x6 vo o) := SO5.out.below hb
      have ST6 : Hid (Sl x6 vt t) := ST5.out.below hb
      have SP6 : Hid (Sl x6 u1 (jx l o)) := SP.out.below hb
      have HB6 : Hid (Below w.heap.size w x6) := HB5.out.trans (hb.mono HB5.out.size)
      clear hb
      have HPQ : Hid (Sl x6 u2 (jx l o)) := by rw [jx_comm]; exact SQ.out
      have HEQ : Hid ((joinE l o == 0) = (joinE o l == 0)) := by
        show (joinE l o == 0) = (joinE o l == 0)
        rw [Bool.eq_iff_iff]
        simp only [beq_iff_eq]
        exact ⟨joinE_comm0, joinE_comm0⟩
      rcases hE1 : (joinE l o == 0) with _ | _
      · have hE2 : (joinE o l == 0) = false := HEQ.out.symm.trans hE1
        have hE1n : (joinE l o != 0) = true := by rw [bne, hE1]; rfl
        go_wp2_with fail
        refine (same_eq (jx l o) u1 u2 _ SP6.out HPQ.out (by have := HLX.out l o; omega)).mono ?_
        rintro e x7 ⟨rfl, hb⟩
        have SL7 : Hid (Sl x7 vl l) := SL6.out.below hb
        have SO7 : Hid (Sl x7 vo o) := SO6.out.below hb
        have ST7 : Hid (Sl x7 vt t) := ST6.out.below hb
        have SP7 : Hid (Sl x7 u1 (jx l o)) := SP6.out.below hb
        have HB7 : Hid (Below w.heap.size w x7) := HB6.out.trans (hb.mono HB6.out.size)
        clear hb
        go_wp2_with fail
        refine (join_jx (jx l o) t u1 vt _ SP7.out ST7.out).mono ?_
        rintro e x8 ⟨u3, rfl, SR, hb⟩
        have SL8 : Hid (Sl x8 vl l) := SL7.out.below hb
        have SO8 : Hid (Sl x8 vo o) := SO7.out.below hb
        have ST8 : Hid (Sl x8 vt t) := ST7.out.below hb
        have SP8 : Hid (Sl x8 u1 (jx l o)) := SP7.out.below hb
        have HB8 : Hid (Below w.heap.size w x8) := HB7.out.trans (hb.mono HB7.out.size)
        clear hb
        go_wp2_with fail
        refine (join_jx o t vo vt _ SO8.out ST8.out).mono ?_
        rintro e x9 ⟨u4, rfl, SS, hb⟩
        have SL9 : Hid (Sl x9 vl l) := SL8.out.below hb
        have SO9 : Hid (Sl x9 vo o) := SO8.out.below hb
        have ST9 : Hid (Sl x9 vt t) := ST8.out.below hb
        have SR9 : Hid (Sl x9 u3 (jx (jx l o) t)) := SR.out.below hb
        have HB9 : Hid (Below w.heap.size w x9) := HB8.out.trans (hb.mono HB8.out.size)
        clear hb
        go_wp2_with fail
        refine (join_jx l (jx o t) vl u4 _ SL9.out SS.out).mono ?_
        rintro e x10 ⟨u5, rfl, SU, hb⟩
        have SL10 : Hid (Sl x10 vl l) := SL9.out.below hb
        have SR10 : Hid (Sl x10 u3 (jx (jx l o) t)) := SR9.out.below hb
        have SS10 : Hid (Sl x10 u4 (jx o t)) := SS.out.below hb
        have HB10 : Hid (Below w.heap.size w x10) := HB9.out.trans (hb.mono HB9.out.size)
        clear hb
        go_wp2_with fail
        go_ret
        exact ⟨rfl, HB10.out⟩
      · have hE2 : (joinE o l == 0) = true := HEQ.out.symm.trans hE1
        have hE1n : (joinE l o != 0) = false := by rw [bne, hE1]; rfl
        go_wp2_with fail
        refine (same_eq (jx l o) u1 u2 _ SP6.out HPQ.out (by have := HLX.out l o; omega)).mono ?_
        rintro e x7 ⟨rfl, hb⟩
        have SL7 : Hid (Sl x7 vl l) := SL6.out.below hb
        have SO7 : Hid (Sl x7 vo o) := SO6.out.below hb
        have ST7 : Hid (Sl x7 vt t) := ST6.out.below hb
        have SP7 : Hid (Sl x7 u1 (jx l o)) := SP6.out.below hb
        have HB7 : Hid (Below w.heap.size w x7) := HB6.out.trans (hb.mono HB6.out.size)
        clear hb
        go_wp2_with fail
        refine (join_jx (jx l o) t u1 vt _ SP7.out ST7.out).mono ?_
        rintro e x8 ⟨u3, rfl, SR, hb⟩
        have SL8 : Hid (Sl x8 vl l) := SL7.out.below hb
        have SO8 : Hid (Sl x8 vo o) := SO7.out.below hb
        have ST8 : Hid (Sl x8 vt t) := ST7.out.below hb
        have SP8 : Hid (Sl x8 u1 (jx l o)) := SP7.out.below hb
        have HB8 : Hid (Below w.heap.size w x8) := HB7.out.trans (hb.mono HB7.out.size)
        clear hb
        go_wp2_with fail
        refine (join_jx o t vo vt _ SO8.out ST8.out).mono ?_
        rintro e x9 ⟨u4, rfl, SS, hb⟩
        have SL9 : Hid (Sl x9 vl l) := SL8.out.below hb
        have SO9 : Hid (Sl x9 vo o) := SO8.out.below hb
        have ST9 : Hid (Sl x9 vt t) := ST8.out.below hb
        have SR9 : Hid (Sl x9 u3 (jx (jx l o) t)) := SR.out.below hb
        have HB9 : Hid (Below w.heap.size w x9) := HB8.out.trans (hb.mono HB8.out.size)
        clear hb
        go_wp2_with fail
        refine (join_jx l (jx o t) vl u4 _ SL9.out SS.out).mono ?_
        rintro e x10 ⟨u5, rfl, SU, hb⟩
        have SL10 : Hid (Sl x10 vl l) := SL9.out.below hb
        have SR10 : Hid (Sl x10 u3 (jx (jx l o) t)) := SR9.out.below hb
        have SS10 : Hid (Sl x10 u4 (jx o t)) := SS.out.below hb
        have HB10 : Hid (Below w.heap.size w x10) := HB9.out.trans (hb.mono HB9.out.size)
        clear hb
        rcases hE3 : (joinE (jx l o) t != 0) with _ | _
        · rcases hE4 : (joinE o t != 0) with _ | _
          · have hz1 : joinE l o = 0 := by simpa using hE1
            have hz3 : joinE (jx l o) t = 0 := by simpa using hE3
            have hz4 : joinE o t = 0 := by simpa using hE4
            obtain ⟨hz5, hzz⟩ := jx_assoc hz1 hz3 hz4
            have hE5 : (joinE l (jx o t) == 0) = true := by simpa using hz5
            have SU2 : Hid (Sl x10 u5 (jx (jx l o) t)) := by rw [hzz]; exact SU.out
            clear hz1 hz3 hz4 hz5 hzz
            go_wp2_with fail
            refine (same_eq (jx (jx l o) t) u3 u5 _ SR10.out SU2.out (by have := HLX.out (jx l o) t; omega)).mono ?_
            rintro e y9 ⟨rfl, hb⟩
            go_wp2_with fail
            go_ret
            exact ⟨rfl, HB10.out.trans (hb.mono HB10.out.size)⟩
          · go_wp2_with fail
            go_ret
            exact ⟨rfl, HB10.out⟩
        · go_wp2_with fail
          go_ret
          exact ⟨rfl, HB10.out⟩
    · have hz1 : joinE l [a] = 0 := by simpa using hF1
      have hz2 : joinE (jx l [a]) [b] = 0 := by simpa using hF2
      obtain ⟨hz3, hz4, hz5, hz6, hz7⟩ := hear_orders hz1 hz2
      have hF3 : (joinE l [b] != 0) = false := by simpa using hz3
      have hF4 : (joinE (jx l [b]) [a] != 0) = false := by simpa using hz4
      have hF6 : (joinE (jx (jx l [a]) [b]) [a] != 0) = false := by simpa using hz6
      have Z5 : Hid (jx (jx l [b]) [a] = jx (jx l [a]) [b]) := hz5
      have Z6 : Hid (joinE (jx (jx l [a]) [b]) [a] = 0) := hz6
      have Z7 : Hid (hearL (jx (jx l [a]) [b]) a = jx (jx l [a]) [b]) := hz7
      clear hz1 hz2 hz3 hz4 hz5 hz6 hz7
      go_wp2_with fail
      refine (hear_jx (jx (jx l [a]) [b]) a v2 _ SY4.out HAM.out).mono ?_
      rintro e x5 ⟨v5, r5, rfl, SW, HR5, hb⟩
      have SL5 : Hid (Sl x5 vl l) := SL4.out.below hb
      have SO5 : Hid (Sl x5 vo o) := SO4.out.below hb
      have ST5 : Hid (Sl x5 vt t) := ST4.out.below hb
      have SY5 : Hid (Sl x5 v2 (jx (jx l [a]) [b])) := SY4.out.below hb
      have SV5 : Hid (Sl x5 v4 (jx (jx l [b]) [a])) := SV.out.below hb
      have HB5 : Hid (Below w.heap.size w x5) := HB4.out.trans (hb.mono HB4.out.size)
      have hbx5 : ∀ k o, k < w.heap.size + 1 + 1 → x5.cell? ⟨k, o, none⟩ = ((w.alloc (.cells #[.string a.name, .int .i64 a.state, .int .i64 a.life, .int .i64 a.addr, .bool a.server] 28)).alloc (.cells #[.string b.name, .int .i64 b.state, .int .i64 b.life, .int .i64 b.addr, .bool b.server] 28)).cell? ⟨k, o, none⟩ := fun k o h => (hb.cell (p := ⟨k, o, none⟩) (by show k < x4.heap.size; omega)).trans (hbx4 k o h)
      have hsz5 : w.heap.size + 1 + 1 ≤ x5.heap.size := by have := hb.size; omega
      clear hbx4 hsz4
      clear hb
      have hr5 : r5 = false := by
        cases r5
        · rfl
        · exact absurd Z7.out ((HR5.out Z6.out).1 rfl)
      subst hr5
      clear HR5
      have SV2 : Hid (Sl x5 v4 (jx (jx l [a]) [b])) := by have h := SV5.out; rw [Z5.out] at h; exact h
      have SW2 : Hid (Sl x5 v5 (jx (jx l [a]) [b])) := by
        have h := SW.out
        have e : jx (jx (jx l [a]) [b]) [a] = jx (jx l [a]) [b] := by rw [jx, if_pos Z6.out]; exact Z7.out
        rw [e] at h
        exact h
      go_wp2_with fail
      refine (same_eq (jx (jx l [a]) [b]) v2 v4 _ SY5.out SV2.out (by have := HLX.out (jx l [a]) [b]; omega)).mono ?_
      rintro e x6 ⟨rfl, hb⟩
      have SL6 : Hid (Sl x6 vl l) := SL5.out.below hb
      have SO6 : Hid (Sl x6 vo o) := SO5.out.below hb
      have ST6 : Hid (Sl x6 vt t) := ST5.out.below hb
      have SY6 : Hid (Sl x6 v2 (jx (jx l [a]) [b])) := SY5.out.below hb
      have SW26 : Hid (Sl x6 v5 (jx (jx l [a]) [b])) := SW2.out.below hb
      have HB6 : Hid (Below w.heap.size w x6) := HB5.out.trans (hb.mono HB5.out.size)
      have hbx6 : ∀ k o, k < w.heap.size + 1 + 1 → x6.cell? ⟨k, o, none⟩ = ((w.alloc (.cells #[.string a.name, .int .i64 a.state, .int .i64 a.life, .int .i64 a.addr, .bool a.server] 28)).alloc (.cells #[.string b.name, .int .i64 b.state, .int .i64 b.life, .int .i64 b.addr, .bool b.server] 28)).cell? ⟨k, o, none⟩ := fun k o h => (hb.cell (p := ⟨k, o, none⟩) (by show k < x5.heap.size; omega)).trans (hbx5 k o h)
      have hsz6 : w.heap.size + 1 + 1 ≤ x6.heap.size := by have := hb.size; omega
      clear hbx5 hsz5
      clear hb
      go_wp2_with fail
      refine (same_eq (jx (jx l [a]) [b]) v5 v2 _ SW26.out SY6.out (by have := HLX.out (jx l [a]) [b]; omega)).mono ?_
      rintro e x7 ⟨rfl, hb⟩
      have SL7 : Hid (Sl x7 vl l) := SL6.out.below hb
      have SO7 : Hid (Sl x7 vo o) := SO6.out.below hb
      have ST7 : Hid (Sl x7 vt t) := ST6.out.below hb
      have SY7 : Hid (Sl x7 v2 (jx (jx l [a]) [b])) := SY6.out.below hb
      have SW27 : Hid (Sl x7 v5 (jx (jx l [a]) [b])) := SW26.out.below hb
      have HB7 : Hid (Below w.heap.size w x7) := HB6.out.trans (hb.mono HB6.out.size)
      have hbx7 : ∀ k o, k < w.heap.size + 1 + 1 → x7.cell? ⟨k, o, none⟩ = ((w.alloc (.cells #[.string a.name, .int .i64 a.state, .int .i64 a.life, .int .i64 a.addr, .bool a.server] 28)).alloc (.cells #[.string b.name, .int .i64 b.state, .int .i64 b.life, .int .i64 b.addr, .bool b.server] 28)).cell? ⟨k, o, none⟩ := fun k o h => (hb.cell (p := ⟨k, o, none⟩) (by show k < x6.heap.size; omega)).trans (hbx6 k o h)
      have hsz7 : w.heap.size + 1 + 1 ≤ x7.heap.size := by have := hb.size; omega
      clear hbx6 hsz6
      clear hb
      go_wp2_with fail
      refine (join_jx l o vl vo _ SL7.out SO7.out).mono ?_
      rintro e x8 ⟨u1, rfl, SP, hb⟩
      have SL8 : Hid (Sl x8 vl l) := SL7.out.below hb
      have SO8 : Hid (Sl x8 vo o) := SO7.out.below hb
      have ST8 : Hid (Sl x8 vt t) := ST7.out.below hb
      have HB8 : Hid (Below w.heap.size w x8) := HB7.out.trans (hb.mono HB7.out.size)
      clear hb
      go_wp2_with fail
      refine (join_jx o l vo vl _ SO8.out SL8.out).mono ?_
      rintro e x9 ⟨u2, rfl, SQ, hb⟩
      have SL9 : Hid (Sl x9 vl l) := SL8.out.below hb
      have SO9 : Hid (Sl x9 vo o) := SO8.out.below hb
      have ST9 : Hid (Sl x9 vt t) := ST8.out.below hb
      have SP9 : Hid (Sl x9 u1 (jx l o)) := SP.out.below hb
      have HB9 : Hid (Below w.heap.size w x9) := HB8.out.trans (hb.mono HB8.out.size)
      clear hb
      have HPQ : Hid (Sl x9 u2 (jx l o)) := by rw [jx_comm]; exact SQ.out
      have HEQ : Hid ((joinE l o == 0) = (joinE o l == 0)) := by
        show (joinE l o == 0) = (joinE o l == 0)
        rw [Bool.eq_iff_iff]
        simp only [beq_iff_eq]
        exact ⟨joinE_comm0, joinE_comm0⟩
      rcases hE1 : (joinE l o == 0) with _ | _
      · have hE2 : (joinE o l == 0) = false := HEQ.out.symm.trans hE1
        have hE1n : (joinE l o != 0) = true := by rw [bne, hE1]; rfl
        go_wp2_with fail
        refine (same_eq (jx l o) u1 u2 _ SP9.out HPQ.out (by have := HLX.out l o; omega)).mono ?_
        rintro e x10 ⟨rfl, hb⟩
        have SL10 : Hid (Sl x10 vl l) := SL9.out.below hb
        have SO10 : Hid (Sl x10 vo o) := SO9.out.below hb
        have ST10 : Hid (Sl x10 vt t) := ST9.out.below hb
        have SP10 : Hid (Sl x10 u1 (jx l o)) := SP9.out.below hb
        have HB10 : Hid (Below w.heap.size w x10) := HB9.out.trans (hb.mono HB9.out.size)
        clear hb
        go_wp2_with fail
        refine (join_jx (jx l o) t u1 vt _ SP10.out ST10.out).mono ?_
        rintro e x11 ⟨u3, rfl, SR, hb⟩
        have SL11 : Hid (Sl x11 vl l) := SL10.out.below hb
        have SO11 : Hid (Sl x11 vo o) := SO10.out.below hb
        have ST11 : Hid (Sl x11 vt t) := ST10.out.below hb
        have SP11 : Hid (Sl x11 u1 (jx l o)) := SP10.out.below hb
        have HB11 : Hid (Below w.heap.size w x11) := HB10.out.trans (hb.mono HB10.out.size)
        clear hb
        go_wp2_with fail
        refine (join_jx o t vo vt _ SO11.out ST11.out).mono ?_
        rintro e x12 ⟨u4, rfl, SS, hb⟩
        have SL12 : Hid (Sl x12 vl l) := SL11.out.below hb
        have SO12 : Hid (Sl x12 vo o) := SO11.out.below hb
        have ST12 : Hid (Sl x12 vt t) := ST11.out.below hb
        have SR12 : Hid (Sl x12 u3 (jx (jx l o) t)) := SR.out.below hb
        have HB12 : Hid (Below w.heap.size w x12) := HB11.out.trans (hb.mono HB11.out.size)
        clear hb
        go_wp2_with fail
        refine (join_jx l (jx o t) vl u4 _ SL12.out SS.out).mono ?_
        rintro e x13 ⟨u5, rfl, SU, hb⟩
        have SL13 : Hid (Sl x13 vl l) := SL12.out.below hb
        have SR13 : Hid (Sl x13 u3 (jx (jx l o) t)) := SR12.out.below hb
        have SS13 : Hid (Sl x13 u4 (jx o t)) := SS.out.below hb
        have HB13 : Hid (Below w.heap.size w x13) := HB12.out.trans (hb.mono HB12.out.size)
        clear hb
        go_wp2_with fail
        go_ret
        exact ⟨rfl, HB13.out⟩
      · have hE2 : (joinE o l == 0) = true := HEQ.out.symm.trans hE1
        have hE1n : (joinE l o != 0) = false := by rw [bne, hE1]; rfl
        go_wp2_with fail
        refine (same_eq (jx l o) u1 u2 _ SP9.out HPQ.out (by have := HLX.out l o; omega)).mono ?_
        rintro e x10 ⟨rfl, hb⟩
        have SL10 : Hid (Sl x10 vl l) := SL9.out.below hb
        have SO10 : Hid (Sl x10 vo o) := SO9.out.below hb
        have ST10 : Hid (Sl x10 vt t) := ST9.out.below hb
        have SP10 : Hid (Sl x10 u1 (jx l o)) := SP9.out.below hb
        have HB10 : Hid (Below w.heap.size w x10) := HB9.out.trans (hb.mono HB9.out.size)
        clear hb
        go_wp2_with fail
        refine (join_jx (jx l o) t u1 vt _ SP10.out ST10.out).mono ?_
        rintro e x11 ⟨u3, rfl, SR, hb⟩
        have SL11 : Hid (Sl x11 vl l) := SL10.out.below hb
        have SO11 : Hid (Sl x11 vo o) := SO10.out.below hb
        have ST11 : Hid (Sl x11 vt t) := ST10.out.below hb
        have SP11 : Hid (Sl x11 u1 (jx l o)) := SP10.out.below hb
        have HB11 : Hid (Below w.heap.size w x11) := HB10.out.trans (hb.mono HB10.out.size)
        clear hb
        go_wp2_with fail
        refine (join_jx o t vo vt _ SO11.out ST11.out).mono ?_
        rintro e x12 ⟨u4, rfl, SS, hb⟩
        have SL12 : Hid (Sl x12 vl l) := SL11.out.below hb
        have SO12 : Hid (Sl x12 vo o) := SO11.out.below hb
        have ST12 : Hid (Sl x12 vt t) := ST11.out.below hb
        have SR12 : Hid (Sl x12 u3 (jx (jx l o) t)) := SR.out.below hb
        have HB12 : Hid (Below w.heap.size w x12) := HB11.out.trans (hb.mono HB11.out.size)
        clear hb
        go_wp2_with fail
        refine (join_jx l (jx o t) vl u4 _ SL12.out SS.out).mono ?_
        rintro e x13 ⟨u5, rfl, SU, hb⟩
        have SL13 : Hid (Sl x13 vl l) := SL12.out.below hb
        have SR13 : Hid (Sl x13 u3 (jx (jx l o) t)) := SR12.out.below hb
        have SS13 : Hid (Sl x13 u4 (jx o t)) := SS.out.below hb
        have HB13 : Hid (Below w.heap.size w x13) := HB12.out.trans (hb.mono HB12.out.size)
        clear hb
        rcases hE3 : (joinE (jx l o) t != 0) with _ | _
        · rcases hE4 : (joinE o t != 0) with _ | _
          · have hz1 : joinE l o = 0 := by simpa using hE1
            have hz3 : joinE (jx l o) t = 0 := by simpa using hE3
            have hz4 : joinE o t = 0 := by simpa using hE4
            obtain ⟨hz5, hzz⟩ := jx_assoc hz1 hz3 hz4
            have hE5 : (joinE l (jx o t) == 0) = true := by simpa using hz5
            have SU2 : Hid (Sl x13 u5 (jx (jx l o) t)) := by rw [hzz]; exact SU.out
            clear hz1 hz3 hz4 hz5 hzz
            go_wp2_with fail
            refine (same_eq (jx (jx l o) t) u3 u5 _ SR13.out SU2.out (by have := HLX.out (jx l o) t; omega)).mono ?_
            rintro e y9 ⟨rfl, hb⟩
            go_wp2_with fail
            go_ret
            exact ⟨rfl, HB13.out.trans (hb.mono HB13.out.size)⟩
          · go_wp2_with fail
            go_ret
            exact ⟨rfl, HB13.out⟩
        · go_wp2_with fail
          go_ret
          exact ⟨rfl, HB13.out⟩

end Go.Proofs.Ytcledbejggmfoab
