/- A message without records, written. -/
import Derived.Test.YtogmkdhljifbpaaDoorF6
namespace Go.Proofs.YtogmkdhljifbpaaDoor
open Go.RowKit

def flg (ans cut : Bool) : Int := (if ans then 128 else 0) + (if cut then 2 else 0)
abbrev msgV (id code typ : Int) (ans cut : Bool) (name : ByteArray) : Value := .agg #[.int .i64 id, .bool ans, .bool cut, .int .i64 code, .string name, .int .i64 typ, .slice none 0 0]

set_option maxHeartbeats 800000 in
set_option maxRecDepth 100000 in
theorem flags_any (id code typ : Int) (ans cut : Bool) (name : ByteArray) (w : World) :
    Calls Tryd.prog 57 #[msgV id code typ ans cut name] w fun e w' => e = .returned (.int .i64 (flg ans cut)) ∧ ∃ o, w' = w.alloc o := by
  cases ans <;> cases cut
  all_goals
    go_enter Tryd.func57, Tryd.ntmps57
    go_wp2_with fail
    go_ret
    exact ⟨rfl, _, rfl⟩

/-- A message without records, as it is written. -/
def wmsg (id code typ : Int) (ans cut : Bool) (name : ByteArray) : List Value :=
  nbs id 2 ++ (nbs (flg ans cut) 1 ++ (nbs code 1 ++ (nbs 1 2 ++ (nbs 0 2 ++ (nbs 0 2 ++ (nbs 0 2 ++ (wname name ++ (nbs typ 2 ++ nbs 1 2))))))))

theorem ML.kp {B b : Nat} {w w' : World} (h : ML w) (hk : Kp B b w w') (hB : 0 < B) : ML w' := by
  obtain ⟨h1, m, h2⟩ := h
  exact ⟨Nat.lt_of_lt_of_le h1 hk.size, m, (hk.bel.cell (p := ⟨0, 0, none⟩) hB).trans h2⟩

set_option maxHeartbeats 1600000 in
set_option maxRecDepth 100000 in
theorem message_none (B b : Nat) (bs : List Value) (id code typ : Int) (ans cut : Bool) (name : ByteArray) (w : World) (hm : ML w) (h : IsW B b bs w) (hlen : bs.length ≤ 1000) (hn : chkN name = 0) (hBw : B ≤ w.heap.size) (hB0 : 0 < B) :
    Calls Tryd.prog 53 #[.pointer (some ⟨b, 0, none⟩), msgV id code typ ans cut name] w fun e w' => e = .returned (.tuple #[]) ∧ IsW B b (bs ++ wmsg id code typ ans cut name) w' ∧ Kp B b w w' := by
  have HI : Hid (IsW B b bs w) := h
  clear h
  have hbl := HI.out.lt
  obtain ⟨hL8, hL30⟩ := chk_facts hn
  have hwn : (wname name).length ≤ 249 := by
    unfold wname
    rw [List.length_append, nbs_len]
    have := flat_len (labs name) hL30
    omega
  clear hL8 hL30
  go_enter Tryd.func53, Tryd.ntmps53
  go_wp2_with fail
  obtain ⟨w0, hw0⟩ : ∃ w0, w0 = w.alloc (.cells #[.int .i64 id, .bool ans, .bool cut, .int .i64 code, .string name, .int .i64 typ, .slice none 0 0] 30) := ⟨_, rfl⟩
  rw [← hw0]
  have hg0 : w0.heap[w.heap.size]? = some (.cells #[.int .i64 id, .bool ans, .bool cut, .int .i64 code, .string name, .int .i64 typ, .slice none 0 0] 30 (0, 0)) := by rw [hw0]; exact heap_alloc_new w _
  have HK0 : Hid (Kp B b w w0) := (show Kp B b w w0 by rw [hw0]; exact Kp.alloc _ hBw)
  have HI0 : Hid (IsW B b bs w0) := (show IsW B b bs w0 by rw [hw0]; exact HI.out.alloc _)
  have HM0 : Hid (ML w0) := (show ML w0 from hm.kp HK0.out hB0)
  have HG : Hid (∀ W, Kp B b w0 W → W.cell? ⟨w.heap.size, 0, none⟩ = some (.int .i64 id) ∧ W.cell? ⟨w.heap.size, 1, none⟩ = some (.bool ans) ∧ W.cell? ⟨w.heap.size, 2, none⟩ = some (.bool cut) ∧ W.cell? ⟨w.heap.size, 3, none⟩ = some (.int .i64 code) ∧ W.cell? ⟨w.heap.size, 4, none⟩ = some (.string name) ∧ W.cell? ⟨w.heap.size, 5, none⟩ = some (.int .i64 typ) ∧ W.cell? ⟨w.heap.size, 6, none⟩ = some (.slice none 0 0)) := fun W hW => by
    have hg : W.heap[w.heap.size]? = some (.cells #[.int .i64 id, .bool ans, .bool cut, .int .i64 code, .string name, .int .i64 typ, .slice none 0 0] 30 (0, 0)) := hW.oth _ _ hg0 (by simp; omega) (by simp)
    exact ⟨cellsAt hg 0, cellsAt hg 1, cellsAt hg 2, cellsAt hg 3, cellsAt hg 4, cellsAt hg 5, cellsAt hg 6⟩
  have hz0 : B ≤ w0.heap.size := Nat.le_trans hBw HK0.out.size
  clear hg0 hw0 hm
  refine (wnumber_any B b 2 id bs w0 HI0.out (by omega) (by omega) (Nat.le_trans hz0 (Kp.size (Kp.refl B b w0)))).mono ?_
  rintro e w1 ⟨rfl, h1, hb1⟩
  have HK1 : Hid (Kp B b w0 w1) := Kp.trans (Kp.refl B b w0) hb1
  have l1 : (bs ++ nbs id 2).length ≤ 1002 := by rw [List.length_append, nbs_len]; omega
  obtain ⟨D1, hD1⟩ : ∃ D, D = bs ++ nbs id 2 := ⟨_, rfl⟩
  rw [← hD1] at h1 l1
  have HD1 : Hid (D1 = bs ++ nbs id 2) := hD1
  have HI1 : Hid (IsW B b D1 w1) := h1
  clear hD1 h1 hb1
  obtain ⟨c0, c1, c2, c3, c4, c5, c6⟩ := HG.out w1 HK1.out
  go_wp2_with fail
  refine (flags_any id code typ ans cut name _).mono ?_
  rintro e wf ⟨rfl, o, hwf⟩
  have HIf : Hid (IsW B b D1 wf) := (show IsW B b D1 wf by rw [hwf]; exact IsW.alloc HI1.out _)
  have HKf : Hid (Kp B b w0 wf) := (show Kp B b w0 wf by rw [hwf]; exact Kp.trans HK1.out (Kp.alloc _ (Nat.le_trans hz0 (Kp.size HK1.out))))
  clear hwf
  obtain ⟨x0, x1, x2, x3, x4, x5, x6⟩ := HG.out wf HKf.out
  clear c0 c1 c2 c3 c4 c5 c6
  have c0 := x0
  have c1 := x1
  have c2 := x2
  have c3 := x3
  have c4 := x4
  have c5 := x5
  have c6 := x6
  clear x0 x1 x2 x3 x4 x5 x6
  go_wp2_with fail
  refine (wnumber_any B b 1 (flg ans cut) D1 wf HIf.out (by omega) (by omega) (Nat.le_trans hz0 (Kp.size HKf.out))).mono ?_
  rintro e w2 ⟨rfl, h2, hb2⟩
  have HK2 : Hid (Kp B b w0 w2) := Kp.trans HKf.out hb2
  have l2 : (D1 ++ nbs (flg ans cut) 1).length ≤ 1003 := by rw [List.length_append, nbs_len]; omega
  obtain ⟨D2, hD2⟩ : ∃ D, D = D1 ++ nbs (flg ans cut) 1 := ⟨_, rfl⟩
  rw [← hD2] at h2 l2
  have HD2 : Hid (D2 = D1 ++ nbs (flg ans cut) 1) := hD2
  have HI2 : Hid (IsW B b D2 w2) := h2
  clear hD2 h2 hb2 c0 c1 c2 c3 c4 c5 c6
  obtain ⟨c0, c1, c2, c3, c4, c5, c6⟩ := HG.out w2 HK2.out
  go_wp2_with fail
  refine (wnumber_any B b 1 code D2 w2 HI2.out (by omega) (by omega) (Nat.le_trans hz0 (Kp.size HK2.out))).mono ?_
  rintro e w3 ⟨rfl, h3, hb3⟩
  have HK3 : Hid (Kp B b w0 w3) := Kp.trans HK2.out hb3
  have l3 : (D2 ++ nbs code 1).length ≤ 1004 := by rw [List.length_append, nbs_len]; omega
  obtain ⟨D3, hD3⟩ : ∃ D, D = D2 ++ nbs code 1 := ⟨_, rfl⟩
  rw [← hD3] at h3 l3
  have HD3 : Hid (D3 = D2 ++ nbs code 1) := hD3
  have HI3 : Hid (IsW B b D3 w3) := h3
  clear hD3 h3 hb3 c0 c1 c2 c3 c4 c5 c6
  obtain ⟨c0, c1, c2, c3, c4, c5, c6⟩ := HG.out w3 HK3.out
  go_wp2_with fail
  refine (wnumber_any B b 2 1 D3 w3 HI3.out (by omega) (by omega) (Nat.le_trans hz0 (Kp.size HK3.out))).mono ?_
  rintro e w4 ⟨rfl, h4, hb4⟩
  have HK4 : Hid (Kp B b w0 w4) := Kp.trans HK3.out hb4
  have l4 : (D3 ++ nbs 1 2).length ≤ 1006 := by rw [List.length_append, nbs_len]; omega
  obtain ⟨D4, hD4⟩ : ∃ D, D = D3 ++ nbs 1 2 := ⟨_, rfl⟩
  rw [← hD4] at h4 l4
  have HD4 : Hid (D4 = D3 ++ nbs 1 2) := hD4
  have HI4 : Hid (IsW B b D4 w4) := h4
  clear hD4 h4 hb4 c0 c1 c2 c3 c4 c5 c6
  obtain ⟨c0, c1, c2, c3, c4, c5, c6⟩ := HG.out w4 HK4.out
  go_wp2_with fail
  refine (wnumber_any B b 2 0 D4 w4 HI4.out (by omega) (by omega) (Nat.le_trans hz0 (Kp.size HK4.out))).mono ?_
  rintro e w5 ⟨rfl, h5, hb5⟩
  have HK5 : Hid (Kp B b w0 w5) := Kp.trans HK4.out hb5
  have l5 : (D4 ++ nbs 0 2).length ≤ 1008 := by rw [List.length_append, nbs_len]; omega
  obtain ⟨D5, hD5⟩ : ∃ D, D = D4 ++ nbs 0 2 := ⟨_, rfl⟩
  rw [← hD5] at h5 l5
  have HD5 : Hid (D5 = D4 ++ nbs 0 2) := hD5
  have HI5 : Hid (IsW B b D5 w5) := h5
  clear hD5 h5 hb5 c0 c1 c2 c3 c4 c5 c6
  obtain ⟨c0, c1, c2, c3, c4, c5, c6⟩ := HG.out w5 HK5.out
  go_wp2_with fail
  refine (wnumber_any B b 2 0 D5 w5 HI5.out (by omega) (by omega) (Nat.le_trans hz0 (Kp.size HK5.out))).mono ?_
  rintro e w6 ⟨rfl, h6, hb6⟩
  have HK6 : Hid (Kp B b w0 w6) := Kp.trans HK5.out hb6
  have l6 : (D5 ++ nbs 0 2).length ≤ 1010 := by rw [List.length_append, nbs_len]; omega
  obtain ⟨D6, hD6⟩ : ∃ D, D = D5 ++ nbs 0 2 := ⟨_, rfl⟩
  rw [← hD6] at h6 l6
  have HD6 : Hid (D6 = D5 ++ nbs 0 2) := hD6
  have HI6 : Hid (IsW B b D6 w6) := h6
  clear hD6 h6 hb6 c0 c1 c2 c3 c4 c5 c6
  obtain ⟨c0, c1, c2, c3, c4, c5, c6⟩ := HG.out w6 HK6.out
  go_wp2_with fail
  refine (wnumber_any B b 2 0 D6 w6 HI6.out (by omega) (by omega) (Nat.le_trans hz0 (Kp.size HK6.out))).mono ?_
  rintro e w7 ⟨rfl, h7, hb7⟩
  have HK7 : Hid (Kp B b w0 w7) := Kp.trans HK6.out hb7
  have l7 : (D6 ++ nbs 0 2).length ≤ 1012 := by rw [List.length_append, nbs_len]; omega
  obtain ⟨D7, hD7⟩ : ∃ D, D = D6 ++ nbs 0 2 := ⟨_, rfl⟩
  rw [← hD7] at h7 l7
  have HD7 : Hid (D7 = D6 ++ nbs 0 2) := hD7
  have HI7 : Hid (IsW B b D7 w7) := h7
  clear hD7 h7 hb7 c0 c1 c2 c3 c4 c5 c6
  obtain ⟨c0, c1, c2, c3, c4, c5, c6⟩ := HG.out w7 HK7.out
  go_wp2_with fail
  refine (wname_any B b D7 name w7 (ML.kp HM0.out HK7.out hB0) HI7.out (by omega) hn (Nat.le_trans hz0 (Kp.size HK7.out))).mono ?_
  rintro e w8 ⟨rfl, h8, hb8⟩
  have HK8 : Hid (Kp B b w0 w8) := Kp.trans HK7.out hb8
  have l8 : (D7 ++ wname name).length ≤ 1261 := by rw [List.length_append]; omega
  obtain ⟨D8, hD8⟩ : ∃ D, D = D7 ++ wname name := ⟨_, rfl⟩
  rw [← hD8] at h8 l8
  have HD8 : Hid (D8 = D7 ++ wname name) := hD8
  have HI8 : Hid (IsW B b D8 w8) := h8
  clear hD8 h8 hb8 c0 c1 c2 c3 c4 c5 c6
  obtain ⟨c0, c1, c2, c3, c4, c5, c6⟩ := HG.out w8 HK8.out
  go_wp2_with fail
  refine (wnumber_any B b 2 typ D8 w8 HI8.out (by omega) (by omega) (Nat.le_trans hz0 (Kp.size HK8.out))).mono ?_
  rintro e w9 ⟨rfl, h9, hb9⟩
  have HK9 : Hid (Kp B b w0 w9) := Kp.trans HK8.out hb9
  have l9 : (D8 ++ nbs typ 2).length ≤ 1263 := by rw [List.length_append, nbs_len]; omega
  obtain ⟨D9, hD9⟩ : ∃ D, D = D8 ++ nbs typ 2 := ⟨_, rfl⟩
  rw [← hD9] at h9 l9
  have HD9 : Hid (D9 = D8 ++ nbs typ 2) := hD9
  have HI9 : Hid (IsW B b D9 w9) := h9
  clear hD9 h9 hb9 c0 c1 c2 c3 c4 c5 c6
  obtain ⟨c0, c1, c2, c3, c4, c5, c6⟩ := HG.out w9 HK9.out
  go_wp2_with fail
  refine (wnumber_any B b 2 1 D9 w9 HI9.out (by omega) (by omega) (Nat.le_trans hz0 (Kp.size HK9.out))).mono ?_
  rintro e w10 ⟨rfl, h10, hb10⟩
  have HK10 : Hid (Kp B b w0 w10) := Kp.trans HK9.out hb10
  have l10 : (D9 ++ nbs 1 2).length ≤ 1265 := by rw [List.length_append, nbs_len]; omega
  obtain ⟨D10, hD10⟩ : ∃ D, D = D9 ++ nbs 1 2 := ⟨_, rfl⟩
  rw [← hD10] at h10 l10
  have HD10 : Hid (D10 = D9 ++ nbs 1 2) := hD10
  have HI10 : Hid (IsW B b D10 w10) := h10
  clear hD10 h10 hb10 c0 c1 c2 c3 c4 c5 c6
  obtain ⟨c0, c1, c2, c3, c4, c5, c6⟩ := HG.out w10 HK10.out
  go_wp2_with fail
  have HF : Hid (D10 = bs ++ wmsg id code typ ans cut name) := (show _ = _ by rw [HD10.out, HD9.out, HD8.out, HD7.out, HD6.out, HD5.out, HD4.out, HD3.out, HD2.out, HD1.out]; simp [wmsg])
  have HIF : Hid (IsW B b (bs ++ wmsg id code typ ans cut name) w10) := (show IsW _ _ _ _ by rw [← HF.out]; exact HI10.out)
  have HKF : Hid (Kp B b w w10) := HK0.out.trans HK10.out
  go_loopw [44] (fun i wr => i = .int .i64 0 ∧ wr = w10) (fun _ _ => 0)
  case atStart => exact ⟨rfl, rfl⟩
  case round =>
    obtain ⟨rfl, hwr⟩ := hrel
    subst hwr
    go_wp2_with fail
    simp [bodyPost, results, Tryd.results53]
    exact ⟨HIF.out, HKF.out⟩

end Go.Proofs.YtogmkdhljifbpaaDoor
