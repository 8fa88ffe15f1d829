/- FT, FO, FA, FU -/
import Derived.Test.YtogmkdhljifbpaaDoorW8
import Derived.Test.YtogmkdhljifbpaaDoorW7
/- A message with records, written. -/
namespace Go.Proofs.YtogmkdhljifbpaaDoor
open Go.RowKit

set_option maxHeartbeats 800000 in
set_option maxRecDepth 100000 in
theorem flagsR_any (id code typ : Int) (ans cut : Bool) (name : ByteArray) (v : Value) (w : World) :
    Calls Tryd.prog 57 #[.agg #[.int .i64 id, .bool ans, .bool cut, .int .i64 code, .string name, .int .i64 typ, v]] w fun e w' => e = .returned (.int .i64 (flg ans cut)) ∧ ∃ o, w' = w.alloc o := by
  cases ans <;> cases cut
  all_goals
    go_enter Tryd.func57, Tryd.ntmps57
    go_wp2_with fail
    go_ret
    exact ⟨rfl, _, rfl⟩

/-- What stands ahead of a message's records. -/
def whead (id code typ : Int) (ans cut : Bool) (name : ByteArray) (n : Nat) : List Value :=
  nbs id 2 ++ (nbs (flg ans cut) 1 ++ (nbs code 1 ++ (nbs 1 2 ++ (nbs n 2 ++ (nbs 0 2 ++ (nbs 0 2 ++ (wname name ++ (nbs typ 2 ++ nbs 1 2))))))))
theorem wrec_len {r : Rc.Rec} (h : chkRec r = 0) : (wrec r).length ≤ 514 := by
  obtain ⟨h1, _, h3, h4⟩ := chkRec_facts h
  have := wname_len h1
  have := wdat_len h3 h4
  unfold wrec
  simp only [List.length_append, nbs_len]
  omega
theorem recs_len : ∀ (rs : List Rc.Rec), (∀ r ∈ rs, chkRec r = 0) → (rs.flatMap wrec).length ≤ 514 * rs.length
  | [], _ => by simp
  | x :: r, h => by
    have h1 := wrec_len (h x List.mem_cons_self)
    have h2 := recs_len r (fun y hy => h y (List.mem_cons_of_mem _ hy))
    rw [List.flatMap_cons, List.length_append, List.length_cons]
    omega

set_option maxHeartbeats 1600000 in
set_option maxRecDepth 100000 in
theorem message_any (B b : Nat) (bs : List Value) (id code typ : Int) (ans cut : Bool) (name : ByteArray) (rs : List Rc.Rec) (pa : Option Addr) (cap : Nat) (w : World) (hm : ML w) (h : IsW B b bs w) (hlen : bs.length ≤ 1000) (hn : chkN name = 0) (hBw : B ≤ w.heap.size) (hB0 : 0 < B) (h20 : rs.length ≤ 20) (hcs : ∀ r ∈ rs, chkRec r = 0)
    (hrow : ∀ W, Below B w W → rs = [] ∨ ∃ b off, pa = some ⟨b, off, none⟩ ∧ b < W.heap.size ∧ Rc.Row W b off rs) :
    Calls Tryd.prog 53 #[.pointer (some ⟨b, 0, none⟩), .agg #[.int .i64 id, .bool ans, .bool cut, .int .i64 code, .string name, .int .i64 typ, .slice pa rs.length cap]] w fun e w' => e = .returned (.tuple #[]) ∧ IsW B b (bs ++ (whead id code typ ans cut name rs.length ++ rs.flatMap wrec)) w' ∧ Kp B b w w' := by
  have HROW : Hid (∀ W, Below B w W → rs = [] ∨ ∃ b off, pa = some ⟨b, off, none⟩ ∧ b < W.heap.size ∧ Rc.Row W b off rs) := hrow
  have HCS : Hid (∀ k, k < rs.length → chkRec (rs.getD k Rc.dm) = 0) := fun k hk => hcs _ (by simp [List.getD, List.getElem?_eq_getElem hk])
  have HFL : Hid (∀ k, ((rs.take k).flatMap wrec).length ≤ 10280) := fun k => by
    refine Nat.le_trans (recs_len (rs.take k) fun x hx => hcs x (List.mem_of_mem_take hx)) ?_
    rw [List.length_take]; omega
  have HTK : Hid (∀ k, k < rs.length → (rs.take (k + 1)).flatMap wrec = (rs.take k).flatMap wrec ++ wrec (rs.getD k Rc.dm)) := fun k hk => by
    rw [List.take_succ_eq_append_getElem hk, List.flatMap_append]
    simp [List.getD, hk]
  have HALL : Hid (rs.take rs.length = rs) := List.take_length
  have HMW : Hid (ML w) := hm
  clear hrow hcs
  generalize hln : rs.length = n at *
  have HLN : Hid (rs.length = n) := hln
  clear hln
  have HI : Hid (IsW B b bs w) := h
  clear h
  have hbl := HI.out.lt
  obtain ⟨hL8, hL30⟩ := chk_facts hn
  have hwn : (wname name).length ≤ 249 := by
    unfold wname
    rw [List.length_append, nbs_len]
    have := flat_len (labs name) hL30
    omega
  clear hL8 hL30
  go_enter Tryd.func53, Tryd.ntmps53
  go_wp2_with fail
  obtain ⟨w0, hw0⟩ : ∃ w0, w0 = w.alloc (.cells #[.int .i64 id, .bool ans, .bool cut, .int .i64 code, .string name, .int .i64 typ, .slice pa n cap] 30) := ⟨_, rfl⟩
  rw [← hw0]
  have hg0 : w0.heap[w.heap.size]? = some (.cells #[.int .i64 id, .bool ans, .bool cut, .int .i64 code, .string name, .int .i64 typ, .slice pa n cap] 30 (0, 0)) := by rw [hw0]; exact heap_alloc_new w _
  have HK0 : Hid (Kp B b w w0) := (show Kp B b w w0 by rw [hw0]; exact Kp.alloc _ hBw)
  have HI0 : Hid (IsW B b bs w0) := (show IsW B b bs w0 by rw [hw0]; exact HI.out.alloc _)
  have HM0 : Hid (ML w0) := (show ML w0 from hm.kp HK0.out hB0)
  have HG : Hid (∀ W, Kp B b w0 W → W.cell? ⟨w.heap.size, 0, none⟩ = some (.int .i64 id) ∧ W.cell? ⟨w.heap.size, 1, none⟩ = some (.bool ans) ∧ W.cell? ⟨w.heap.size, 2, none⟩ = some (.bool cut) ∧ W.cell? ⟨w.heap.size, 3, none⟩ = some (.int .i64 code) ∧ W.cell? ⟨w.heap.size, 4, none⟩ = some (.string name) ∧ W.cell? ⟨w.heap.size, 5, none⟩ = some (.int .i64 typ) ∧ W.cell? ⟨w.heap.size, 6, none⟩ = some (.slice pa n cap)) := fun W hW => by
    have hg : W.heap[w.heap.size]? = some (.cells #[.int .i64 id, .bool ans, .bool cut, .int .i64 code, .string name, .int .i64 typ, .slice pa n cap] 30 (0, 0)) := hW.oth _ _ hg0 (by simp; omega) (by simp)
    exact ⟨cellsAt hg 0, cellsAt hg 1, cellsAt hg 2, cellsAt hg 3, cellsAt hg 4, cellsAt hg 5, cellsAt hg 6⟩
  have hz0 : B ≤ w0.heap.size := Nat.le_trans hBw HK0.out.size
  clear hg0 hw0 hm
  refine (wnumber_any B b 2 id bs w0 HI0.out (by omega) (by omega) (Nat.le_trans hz0 (Kp.size (Kp.refl B b w0)))).mono ?_
  rintro e w1 ⟨rfl, h1, hb1⟩
  have HK1 : Hid (Kp B b w0 w1) := Kp.trans (Kp.refl B b w0) hb1
  have l1 : (bs ++ nbs id 2).length ≤ 1002 := by rw [List.length_append, nbs_len]; omega
  obtain ⟨D1, hD1⟩ : ∃ D, D = bs ++ nbs id 2 := ⟨_, rfl⟩
  rw [← hD1] at h1 l1
  have HD1 : Hid (D1 = bs ++ nbs id 2) := hD1
  have HI1 : Hid (IsW B b D1 w1) := h1
  clear hD1 h1 hb1
  obtain ⟨c0, c1, c2, c3, c4, c5, c6⟩ := HG.out w1 HK1.out
  go_wp2_with fail
  refine (flagsR_any id code typ ans cut name _ _).mono ?_
  rintro e wf ⟨rfl, o, hwf⟩
  have HIf : Hid (IsW B b D1 wf) := (show IsW B b D1 wf by rw [hwf]; exact IsW.alloc HI1.out _)
  have HKf : Hid (Kp B b w0 wf) := (show Kp B b w0 wf by rw [hwf]; exact Kp.trans HK1.out (Kp.alloc _ (Nat.le_trans hz0 (Kp.size HK1.out))))
  clear hwf
  obtain ⟨x0, x1, x2, x3, x4, x5, x6⟩ := HG.out wf HKf.out
  clear c0 c1 c2 c3 c4 c5 c6
  have c0 := x0
  have c1 := x1
  have c2 := x2
  have c3 := x3
  have c4 := x4
  have c5 := x5
  have c6 := x6
  clear x0 x1 x2 x3 x4 x5 x6
  go_wp2_with fail
  refine (wnumber_any B b 1 (flg ans cut) D1 wf HIf.out (by omega) (by omega) (Nat.le_trans hz0 (Kp.size HKf.out))).mono ?_
  rintro e w2 ⟨rfl, h2, hb2⟩
  have HK2 : Hid (Kp B b w0 w2) := Kp.trans HKf.out hb2
  have l2 : (D1 ++ nbs (flg ans cut) 1).length ≤ 1003 := by rw [List.length_append, nbs_len]; omega
  obtain ⟨D2, hD2⟩ : ∃ D, D = D1 ++ nbs (flg ans cut) 1 := ⟨_, rfl⟩
  rw [← hD2] at h2 l2
  have HD2 : Hid (D2 = D1 ++ nbs (flg ans cut) 1) := hD2
  have HI2 : Hid (IsW B b D2 w2) := h2
  clear hD2 h2 hb2 c0 c1 c2 c3 c4 c5 c6
  obtain ⟨c0, c1, c2, c3, c4, c5, c6⟩ := HG.out w2 HK2.out
  go_wp2_with fail
  refine (wnumber_any B b 1 code D2 w2 HI2.out (by omega) (by omega) (Nat.le_trans hz0 (Kp.size HK2.out))).mono ?_
  rintro e w3 ⟨rfl, h3, hb3⟩
  have HK3 : Hid (Kp B b w0 w3) := Kp.trans HK2.out hb3
  have l3 : (D2 ++ nbs code 1).length ≤ 1004 := by rw [List.length_append, nbs_len]; omega
  obtain ⟨D3, hD3⟩ : ∃ D, D = D2 ++ nbs code 1 := ⟨_, rfl⟩
  rw [← hD3] at h3 l3
  have HD3 : Hid (D3 = D2 ++ nbs code 1) := hD3
  have HI3 : Hid (IsW B b D3 w3) := h3
  clear hD3 h3 hb3 c0 c1 c2 c3 c4 c5 c6
  obtain ⟨c0, c1, c2, c3, c4, c5, c6⟩ := HG.out w3 HK3.out
  go_wp2_with fail
  refine (wnumber_any B b 2 1 D3 w3 HI3.out (by omega) (by omega) (Nat.le_trans hz0 (Kp.size HK3.out))).mono ?_
  rintro e w4 ⟨rfl, h4, hb4⟩
  have HK4 : Hid (Kp B b w0 w4) := Kp.trans HK3.out hb4
  have l4 : (D3 ++ nbs 1 2).length ≤ 1006 := by rw [List.length_append, nbs_len]; omega
  obtain ⟨D4, hD4⟩ : ∃ D, D = D3 ++ nbs 1 2 := ⟨_, rfl⟩
  rw [← hD4] at h4 l4
  have HD4 : Hid (D4 = D3 ++ nbs 1 2) := hD4
  have HI4 : Hid (IsW B b D4 w4) := h4
  clear hD4 h4 hb4 c0 c1 c2 c3 c4 c5 c6
  obtain ⟨c0, c1, c2, c3, c4, c5, c6⟩ := HG.out w4 HK4.out
  go_wp2_with fail
  refine (wnumber_any B b 2 n D4 w4 HI4.out (by omega) (by omega) (Nat.le_trans hz0 (Kp.size HK4.out))).mono ?_
  rintro e w5 ⟨rfl, h5, hb5⟩
  have HK5 : Hid (Kp B b w0 w5) := Kp.trans HK4.out hb5
  have l5 : (D4 ++ nbs n 2).length ≤ 1008 := by rw [List.length_append, nbs_len]; omega
  obtain ⟨D5, hD5⟩ : ∃ D, D = D4 ++ nbs n 2 := ⟨_, rfl⟩
  rw [← hD5] at h5 l5
  have HD5 : Hid (D5 = D4 ++ nbs n 2) := hD5
  have HI5 : Hid (IsW B b D5 w5) := h5
  clear hD5 h5 hb5 c0 c1 c2 c3 c4 c5 c6
  obtain ⟨c0, c1, c2, c3, c4, c5, c6⟩ := HG.out w5 HK5.out
  go_wp2_with fail
  refine (wnumber_any B b 2 0 D5 w5 HI5.out (by omega) (by omega) (Nat.le_trans hz0 (Kp.size HK5.out))).mono ?_
  rintro e w6 ⟨rfl, h6, hb6⟩
  have HK6 : Hid (Kp B b w0 w6) := Kp.trans HK5.out hb6
  have l6 : (D5 ++ nbs 0 2).length ≤ 1010 := by rw [List.length_append, nbs_len]; omega
  obtain ⟨D6, hD6⟩ : ∃ D, D = D5 ++ nbs 0 2 := ⟨_, rfl⟩
  rw [← hD6] at h6 l6
  have HD6 : Hid (D6 = D5 ++ nbs 0 2) := hD6
  have HI6 : Hid (IsW B b D6 w6) := h6
  clear hD6 h6 hb6 c0 c1 c2 c3 c4 c5 c6
  obtain ⟨c0, c1, c2, c3, c4, c5, c6⟩ := HG.out w6 HK6.out
  go_wp2_with fail
  refine (wnumber_any B b 2 0 D6 w6 HI6.out (by omega) (by omega) (Nat.le_trans hz0 (Kp.size HK6.out))).mono ?_
  rintro e w7 ⟨rfl, h7, hb7⟩
  have HK7 : Hid (Kp B b w0 w7) := Kp.trans HK6.out hb7
  have l7 : (D6 ++ nbs 0 2).length ≤ 1012 := by rw [List.length_append, nbs_len]; omega
  obtain ⟨D7, hD7⟩ : ∃ D, D = D6 ++ nbs 0 2 := ⟨_, rfl⟩
  rw [← hD7] at h7 l7
  have HD7 : Hid (D7 = D6 ++ nbs 0 2) := hD7
  have HI7 : Hid (IsW B b D7 w7) := h7
  clear hD7 h7 hb7 c0 c1 c2 c3 c4 c5 c6
  obtain ⟨c0, c1, c2, c3, c4, c5, c6⟩ := HG.out w7 HK7.out
  go_wp2_with fail
  refine (wname_any B b D7 name w7 (ML.kp HM0.out HK7.out hB0) HI7.out (by omega) hn (Nat.le_trans hz0 (Kp.size HK7.out))).mono ?_
  rintro e w8 ⟨rfl, h8, hb8⟩
  have HK8 : Hid (Kp B b w0 w8) := Kp.trans HK7.out hb8
  have l8 : (D7 ++ wname name).length ≤ 1261 := by rw [List.length_append]; omega
  obtain ⟨D8, hD8⟩ : ∃ D, D = D7 ++ wname name := ⟨_, rfl⟩
  rw [← hD8] at h8 l8
  have HD8 : Hid (D8 = D7 ++ wname name) := hD8
  have HI8 : Hid (IsW B b D8 w8) := h8
  clear hD8 h8 hb8 c0 c1 c2 c3 c4 c5 c6
  obtain ⟨c0, c1, c2, c3, c4, c5, c6⟩ := HG.out w8 HK8.out
  go_wp2_with fail
  refine (wnumber_any B b 2 typ D8 w8 HI8.out (by omega) (by omega) (Nat.le_trans hz0 (Kp.size HK8.out))).mono ?_
  rintro e w9 ⟨rfl, h9, hb9⟩
  have HK9 : Hid (Kp B b w0 w9) := Kp.trans HK8.out hb9
  have l9 : (D8 ++ nbs typ 2).length ≤ 1263 := by rw [List.length_append, nbs_len]; omega
  obtain ⟨D9, hD9⟩ : ∃ D, D = D8 ++ nbs typ 2 := ⟨_, rfl⟩
  rw [← hD9] at h9 l9
  have HD9 : Hid (D9 = D8 ++ nbs typ 2) := hD9
  have HI9 : Hid (IsW B b D9 w9) := h9
  clear hD9 h9 hb9 c0 c1 c2 c3 c4 c5 c6
  obtain ⟨c0, c1, c2, c3, c4, c5, c6⟩ := HG.out w9 HK9.out
  go_wp2_with fail
  refine (wnumber_any B b 2 1 D9 w9 HI9.out (by omega) (by omega) (Nat.le_trans hz0 (Kp.size HK9.out))).mono ?_
  rintro e w10 ⟨rfl, h10, hb10⟩
  have HK10 : Hid (Kp B b w0 w10) := Kp.trans HK9.out hb10
  have l10 : (D9 ++ nbs 1 2).length ≤ 1265 := by rw [List.length_append, nbs_len]; omega
  obtain ⟨D10, hD10⟩ : ∃ D, D = D9 ++ nbs 1 2 := ⟨_, rfl⟩
  rw [← hD10] at h10 l10
  have HD10 : Hid (D10 = D9 ++ nbs 1 2) := hD10
  have HI10 : Hid (IsW B b D10 w10) := h10
  clear hD10 h10 hb10 c0 c1 c2 c3 c4 c5 c6
  obtain ⟨c0, c1, c2, c3, c4, c5, c6⟩ := HG.out w10 HK10.out
  go_wp2_with fail
  have HF : Hid (D10 = bs ++ whead id code typ ans cut name n) := (show _ = _ by rw [HD10.out, HD9.out, HD8.out, HD7.out, HD6.out, HD5.out, HD4.out, HD3.out, HD2.out, HD1.out]; simp [whead])
  have HIF : Hid (IsW B b (bs ++ whead id code typ ans cut name n) w10) := (show IsW _ _ _ _ by rw [← HF.out]; exact HI10.out)
  have HKF : Hid (Kp B b w w10) := HK0.out.trans HK10.out
  have hhl : (bs ++ whead id code typ ans cut name n).length ≤ 1265 := by rw [← HF.out]; exact l10
  have hz10 : B ≤ w10.heap.size := Nat.le_trans hBw HKF.out.size
  obtain ⟨H, hH⟩ : ∃ H, H = bs ++ whead id code typ ans cut name n := ⟨_, rfl⟩
  rw [← hH] at hhl HIF
  have HH : Hid (H = bs ++ whead id code typ ans cut name n) := hH
  clear hH
  clear HF HD1 HD2 HD3 HD4 HD5 HD6 HD7 HD8 HD9 HD10 HI1 HI2 HI3 HI4 HI5 HI6 HI7 HI8 HI9 HI10 HK1 HK2 HK3 HK4 HK5 HK6 HK7 HK8 HK9 HIf HKf l1 l2 l3 l4 l5 l6 l7 l8 l9 l10 c0 c1 c2 c3 c4 c5
  go_loopw [44] (fun i wr => ∃ k : Nat, k ≤ n ∧ i = .int .i64 k ∧ Hid (IsW B b (H ++ (rs.take k).flatMap wrec) wr) ∧ Hid (Kp B b w wr)) (fun i _ => n - (intOf i).toNat)
  case atStart => exact ⟨0, Nat.zero_le _, rfl, by simpa using HIF, HKF⟩
  case round =>
    obtain ⟨k, hk, rfl, HW, HKR⟩ := hrel
    have hBr : B ≤ wr.heap.size := Nat.le_trans hBw HKR.out.size
    have hfl := HFL.out k
    by_cases hlt : k < n
    · obtain ⟨bR, off, hpa, hbw, hr⟩ : ∃ b off, pa = some ⟨b, off, none⟩ ∧ b < wr.heap.size ∧ Rc.Row wr b off rs := by
        rcases HROW.out wr HKR.out.bel with h | h
        · have := HLN.out; rw [h] at this; simp at this; omega
        · exact h
      subst hpa
      obtain ⟨c0, c1, c2, c3, c4, c5, c7⟩ := hr k (by rw [HLN.out]; exact hlt)
      have HTK2 := HTK.out k hlt
      have HCK := HCS.out k hlt
      have HTK3 : Hid ((rs.take (k + 1)).flatMap wrec = (rs.take k).flatMap wrec ++ wrec (rs.getD k Rc.dm)) := HTK2
      have HCK2 : Hid (chkRec (rs.getD k Rc.dm) = 0) := HCK
      clear HTK2 HCK hr
      generalize rs.getD k Rc.dm = r at *
      have hd : decide ((k : Int) < (n : Int)) = true := by simp; omega
      have hi0 : (0 : Int) ≤ (k : Int) := by omega
      have hi1 : (k : Int) < (n : Int) := by omega
      have hi2 : ((k : Int)).toNat = k := by omega
      go_wp2_with fail
      obtain ⟨wx, hwx⟩ : ∃ wx, wx = wr.alloc (.cells #[.string r.name, .int .i64 r.typ, .int .i64 r.lasts, .int .i64 r.addr, .string r.text, .int .i64 r.port, .string r.target] 54) := ⟨_, rfl⟩
      rw [← hwx]
      have HIX : Hid (IsW B b (H ++ (rs.take k).flatMap wrec) wx) := (show IsW _ _ _ _ by rw [hwx]; exact HW.out.alloc _)
      have HKX : Hid (Kp B b w wx) := (show Kp _ _ _ _ by rw [hwx]; exact HKR.out.trans (Kp.alloc _ hBr))
      clear hwx c0 c1 c2 c3 c4 c5 c7
      refine (wrecord_any B b _ r wx (HMW.out.kp HKX.out hB0) HIX.out (by rw [List.length_append]; omega) HCK2.out (Nat.le_trans hBw HKX.out.size) hB0).mono ?_
      rintro e w12 ⟨rfl, h1, hb1⟩
      have HI12 : Hid (IsW B b (H ++ (rs.take (k + 1)).flatMap wrec) w12) := (show IsW _ _ _ _ by rw [HTK3.out, ← List.append_assoc]; exact h1)
      have HK12 : Hid (Kp B b w w12) := HKX.out.trans hb1
      clear h1 hb1
      go_wp2_with fail
      exact ⟨⟨k + 1, by omega, by go_num, HI12, HK12⟩, by simp [intOf]; omega⟩
    · have hkn : k = n := by omega
      have HIZ : Hid (IsW B b (bs ++ (whead id code typ ans cut name n ++ rs.flatMap wrec)) wr) := (show IsW _ _ _ _ by
        have h := HW.out
        rw [hkn, HALL.out, HH.out, List.append_assoc] at h
        exact h)
      have hd : decide ((k : Int) < (n : Int)) = false := by simp; omega
      clear hkn
      go_wp2_with fail
      simp [bodyPost, results, Tryd.results53]
      exact ⟨HIZ.out, HKR.out⟩

end Go.Proofs.YtogmkdhljifbpaaDoor

/- A message is checked. -/
namespace Go.Proofs.YtogmkdhljifbpaaDoor
open Go.RowKit

def chkRs : List Rc.Rec → Int
  | [] => 0
  | r :: t => if chkRec r = 0 then chkRs t else chkRec r
/-- What CheckMessage says. -/
def chkMsg (id code typ : Int) (name : ByteArray) (rs : List Rc.Rec) : Int :=
  if (within id 0 65535 && within code 0 15) = false then 3
  else if 20 < rs.length then 2
  else if chkN name ≠ 0 then chkN name
  else if typB typ = false then 7
  else chkRs rs

theorem chkRs_step {rs : List Rc.Rec} {k : Nat} (h : k < rs.length) (he : chkRs rs = chkRs (rs.drop k)) : chkRs rs = if chkRec (rs.getD k Rc.dm) = 0 then chkRs (rs.drop (k + 1)) else chkRec (rs.getD k Rc.dm) := by
  rw [he, List.drop_eq_getElem_cons h, chkRs, show rs.getD k Rc.dm = rs[k] by simp [List.getD, List.getElem?_eq_getElem h]]

set_option maxHeartbeats 1600000 in
set_option maxRecDepth 100000 in
theorem dcheck_any (id code typ : Int) (ans cut : Bool) (name : ByteArray) (rs : List Rc.Rec) (v : Value) (w : World) (hs : name.size ≤ maxLen) (hv : Rc.Sl w v rs) :
    Calls Tryd.prog 30 #[.agg #[.int .i64 id, .bool ans, .bool cut, .int .i64 code, .string name, .int .i64 typ, v]] w fun e w' => e = outE (chkMsg id code typ name rs) ∧ Below w.heap.size w w' := by
  have HN : Hid (∀ W, Calls Tryd.prog 50 #[.string name] W fun e w' => e = outE (chkN name) ∧ Below W.heap.size W w') := fun W => checkName_any _ _ hs
  obtain ⟨pa, cap, rfl, hok, hrow⟩ := hv
  have HOK : Hid (∀ j, (rs.getD j Rc.dm).ok) := hok
  have HROW : Hid (rs = [] ∨ ∃ b off, pa = some ⟨b, off, none⟩ ∧ b < w.heap.size ∧ Rc.Row w b off rs) := hrow
  clear hok hrow hs
  generalize hE : chkMsg id code typ name rs = E
  unfold chkMsg at hE
  go_enter Tryd.func30, Tryd.ntmps30
  go_wp2_with fail
  have hg0 : (w.alloc (.cells #[.int .i64 id, .bool ans, .bool cut, .int .i64 code, .string name, .int .i64 typ, .slice pa rs.length cap] 30)).heap[w.heap.size]? = some (.cells #[.int .i64 id, .bool ans, .bool cut, .int .i64 code, .string name, .int .i64 typ, .slice pa rs.length cap] 30 (0, 0)) := heap_alloc_new w _
  obtain ⟨w0, hw0⟩ : ∃ w0, w0 = w.alloc (.cells #[.int .i64 id, .bool ans, .bool cut, .int .i64 code, .string name, .int .i64 typ, .slice pa rs.length cap] 30) := ⟨_, rfl⟩
  have HB0 : Hid (Below w.heap.size w w0) := (show Below _ _ _ by rw [hw0]; exact (Below.refl _ _).alloc (Nat.le_refl _) _)
  rw [← hw0] at hg0 ⊢
  clear hw0
  have f3 : w0.cell? ⟨w.heap.size, 3, none⟩ = some (.int .i64 code) := cellsAt hg0 3
  have f4 : w0.cell? ⟨w.heap.size, 4, none⟩ = some (.string name) := cellsAt hg0 4
  have f6 : w0.cell? ⟨w.heap.size, 6, none⟩ = some (.slice pa rs.length cap) := cellsAt hg0 6
  refine (within_any _ _ _ _).mono ?_
  rintro e w1 ⟨rfl, hw1⟩
  subst hw1
  by_cases h1 : within id 0 65535 = false
  · rw [if_pos (by rw [h1]; rfl)] at hE
    subst hE
    rw [h1]
    go_wp2_with fail
    refine (need_no _ _).mono ?_
    rintro e w9 ⟨rfl, rfl⟩
    exact ⟨rfl, rfl, HB0.out⟩
  have h1t : within id 0 65535 = true := by simpa using h1
  rw [h1t] at hE ⊢
  rw [Bool.true_and] at hE
  go_wp2_with fail
  refine (within_any _ _ _ _).mono ?_
  rintro e w2 ⟨rfl, hw2⟩
  subst hw2
  by_cases h2 : within code 0 15 = false
  · rw [if_pos h2] at hE
    subst hE
    rw [h2]
    go_wp2_with fail
    refine (need_no _ _).mono ?_
    rintro e w9 ⟨rfl, rfl⟩
    exact ⟨rfl, rfl, HB0.out⟩
  rw [if_neg h2] at hE
  rw [show within code 0 15 = true by simpa using h2]
  go_wp2_with fail
  refine (need_ok _ _).mono ?_
  rintro e w3 ⟨rfl, hw3⟩
  subst hw3
  by_cases h3 : 20 < rs.length
  · rw [if_pos h3] at hE
    subst hE
    have h8 : decide ((rs.length : Int) ≤ 20) = false := by simp; omega
    go_wp2_with fail
    refine (need_no _ _).mono ?_
    rintro e wb ⟨rfl, rfl⟩
    exact ⟨rfl, rfl, HB0.out⟩
  rw [if_neg h3] at hE
  have h8 : decide ((rs.length : Int) ≤ 20) = true := by simp; omega
  go_wp2_with fail
  refine (need_ok _ _).mono ?_
  rintro e w4 ⟨rfl, hw4⟩
  subst hw4
  go_wp2_with fail
  refine (HN.out _).mono ?_
  rintro e w5 ⟨rfl, hb5⟩
  have hg5 := (hb5.block w.heap.size (Array.getElem?_eq_some_iff.1 hg0).1).trans hg0
  have HB5 : Hid (Below w.heap.size w w5) := HB0.out.trans (hb5.mono HB0.out.size)
  clear hg0 hb5 f3 f4 f6 h8
  by_cases h4 : chkN name = 0
  · rw [h4, outE_0]
    rw [if_neg (by simpa using h4)] at hE
    have f5 : w5.cell? ⟨w.heap.size, 5, none⟩ = some (.int .i64 typ) := cellsAt hg5 5
    have f6 : w5.cell? ⟨w.heap.size, 6, none⟩ = some (.slice pa rs.length cap) := cellsAt hg5 6
    go_wp2_with fail
    refine (rtype_any _ _).mono ?_
    rintro e w6 ⟨rfl, hw6⟩
    subst hw6
    rw [show (decide (typ = 1) || decide (typ = 16) || decide (typ = 33)) = typB typ from rfl]
    by_cases h5 : typB typ = false
    · rw [if_pos h5] at hE
      subst hE
      rw [h5]
      go_wp2_with fail
      refine (need_no _ _).mono ?_
      rintro e w7 ⟨rfl, rfl⟩
      exact ⟨rfl, rfl, HB5.out⟩
    rw [if_neg h5] at hE
    rw [show typB typ = true by simpa using h5]
    go_wp2_with fail
    refine (need_ok _ _).mono ?_
    rintro e w7 ⟨rfl, hw7⟩
    subst hw7
    have HEE : Hid (chkRs rs = E) := hE
    have hn20 : rs.length ≤ 20 := by omega
    clear hE h1 h1t h2 h3 h4 h5 hg5
    generalize hnn : rs.length = n at *
    have HNN : Hid (rs.length = n) := hnn
    clear hnn
    go_wp2_with fail
    go_loopw [30] (fun i wr => ∃ k : Nat, k ≤ n ∧ i = .int .i64 k ∧ Hid (Below w.heap.size w wr) ∧ Hid (chkRs rs = chkRs (rs.drop k))) (fun i _ => n - (intOf i).toNat)
    case atStart => exact ⟨0, Nat.zero_le _, rfl, HB5, rfl⟩
    case round =>
      obtain ⟨k, hk, rfl, HBR, HZ⟩ := hrel
      have hsz := HBR.out.size
      by_cases hlt : k < n
      · obtain ⟨b, off, hpa, hbw, hr⟩ : ∃ b off, pa = some ⟨b, off, none⟩ ∧ b < w.heap.size ∧ Rc.Row w b off rs := by
          rcases HROW.out with h | h
          · have := HNN.out; rw [h] at this; simp at this; omega
          · exact h
        subst hpa
        obtain ⟨g0, g1, g2, g3, g4, g5, g6⟩ := hr k (by rw [HNN.out]; exact hlt)
        have c0 := (HBR.out.cell (p := ⟨b, off + k * 7, none⟩) hbw).trans g0
        have c1 := (HBR.out.cell (p := ⟨b, off + k * 7 + 1, none⟩) hbw).trans g1
        have c2 := (HBR.out.cell (p := ⟨b, off + k * 7 + 2, none⟩) hbw).trans g2
        have c3 := (HBR.out.cell (p := ⟨b, off + k * 7 + 3, none⟩) hbw).trans g3
        have c4 := (HBR.out.cell (p := ⟨b, off + k * 7 + 4, none⟩) hbw).trans g4
        have c5 := (HBR.out.cell (p := ⟨b, off + k * 7 + 5, none⟩) hbw).trans g5
        have c6 := (HBR.out.cell (p := ⟨b, off + k * 7 + 6, none⟩) hbw).trans g6
        clear g0 g1 g2 g3 g4 g5 g6 hr
        have HST : Hid (chkRs rs = if chkRec (rs.getD k Rc.dm) = 0 then chkRs (rs.drop (k + 1)) else chkRec (rs.getD k Rc.dm)) := chkRs_step (by rw [HNN.out]; exact hlt) HZ.out
        have HRE : Hid (∀ W, Calls Tryd.prog 52 #[recV (rs.getD k Rc.dm)] W fun e w' => e = outE (chkRec (rs.getD k Rc.dm)) ∧ Below W.heap.size W w') := fun W => checkRecord_any _ W (HOK.out k)
        generalize rs.getD k Rc.dm = r at *
        have hd : decide ((k : Int) < (n : Int)) = true := by simp; omega
        have hi0 : (0 : Int) ≤ (k : Int) := by omega
        have hi1 : (k : Int) < (n : Int) := by omega
        have hi2 : ((k : Int)).toNat = k := by omega
        go_wp2_with fail
        refine (HRE.out _).mono ?_
        rintro e w9 ⟨rfl, hb9⟩
        have HB9 : Hid (Below w.heap.size w w9) := (HBR.out.alloc hsz _).trans (hb9.mono (by simp; omega))
        clear hb9 c0 c1 c2 c3 c4 c5 c6
        by_cases h9 : chkRec r = 0
        · rw [h9, outE_0]
          have HZ2 : Hid (chkRs rs = chkRs (rs.drop (k + 1))) := (show _ = _ by rw [HST.out, if_pos h9])
          clear HST h9
          go_wp2_with fail
          exact ⟨⟨k + 1, by omega, by go_num, HB9, HZ2⟩, by simp [intOf]; omega⟩
        · have HF : Hid (E = chkRec r) := (show _ = _ by rw [← HEE.out, HST.out, if_neg h9])
          rw [outE_ne h9]
          exact ⟨rfl, by rw [HF.out]; exact (outE_ne h9).symm, HB9.out⟩
      · have HF : Hid (E = 0) := (show E = 0 by rw [← HEE.out, HZ.out, List.drop_of_length_le (by rw [HNN.out]; omega)]; rfl)
        have hd : decide ((k : Int) < (n : Int)) = false := by simp; omega
        go_wp2_with fail
        simp [bodyPost, results, Tryd.results30]
        exact ⟨by rw [HF.out]; rfl, HBR.out⟩
  · rw [if_pos h4] at hE
    subst hE
    rw [outE_ne h4]
    exact ⟨rfl, (outE_ne h4).symm, HB5.out⟩

end Go.Proofs.YtogmkdhljifbpaaDoor

/- Write, of a message without records. -/
namespace Go.Proofs.YtogmkdhljifbpaaDoor
open Go.RowKit

set_option maxHeartbeats 800000 in
set_option maxRecDepth 100000 in
theorem write1_ok (g : Nat) (id code typ : Int) (ans cut : Bool) (name : ByteArray) (w : World) (hg : w.heap[g]? = some (.cells #[.int .i64 id, .bool ans, .bool cut, .int .i64 code, .string name, .int .i64 typ, .slice none 0 0] 30 (0, 0))) (h1 : within id 0 65535 = true) (h2 : within code 0 15 = true) (hs : name.size ≤ maxLen) (hn : chkN name = 0) (ht : (decide (typ = 1) || decide (typ = 16) || decide (typ = 33)) = true) :
    Calls Tryd.prog 29 #[.pointer (some ⟨g, 0, none⟩)] w fun r w' => r = .returned (.tuple #[]) ∧ Below w.heap.size w w' := by
  have HC : Hid (Calls Tryd.prog 30 #[.agg #[.int .i64 id, .bool ans, .bool cut, .int .i64 code, .string name, .int .i64 typ, .slice none 0 0]] w fun r w' => r = .returned (.tuple #[]) ∧ Below w.heap.size w w') := dcheck_none id code typ ans cut name w h1 h2 hs hn ht
  have c0 : w.cell? ⟨g, 0, none⟩ = some (.int .i64 id) := cellsAt hg 0
  have c1 : w.cell? ⟨g, 1, none⟩ = some (.bool ans) := cellsAt hg 1
  have c2 : w.cell? ⟨g, 2, none⟩ = some (.bool cut) := cellsAt hg 2
  have c3 : w.cell? ⟨g, 3, none⟩ = some (.int .i64 code) := cellsAt hg 3
  have c4 : w.cell? ⟨g, 4, none⟩ = some (.string name) := cellsAt hg 4
  have c5 : w.cell? ⟨g, 5, none⟩ = some (.int .i64 typ) := cellsAt hg 5
  have c6 : w.cell? ⟨g, 6, none⟩ = some (.slice none 0 0) := cellsAt hg 6
  clear h1 h2 hs hn ht hg
  go_enter Tryd.func29, Tryd.ntmps29
  go_wp2_with fail
  refine HC.out.mono ?_
  rintro e w1 ⟨rfl, hb1⟩
  have HB1 : Hid (Below w.heap.size w w1) := hb1
  clear hb1
  go_wp2_with fail
  simp [bodyPost, results, Tryd.results29]
  exact HB1.out

set_option maxHeartbeats 1600000 in
set_option maxRecDepth 100000 in
theorem write_none (id code typ : Int) (ans cut : Bool) (name : ByteArray) (w : World) (hm : ML w) (h1 : within id 0 65535 = true) (h2 : within code 0 15 = true) (hs : name.size ≤ maxLen) (hn : chkN name = 0) (ht : (decide (typ = 1) || decide (typ = 16) || decide (typ = 33)) = true) (hl : (wmsgL id code typ ans cut name).length ≤ 512) :
    Calls Tryd.prog 12 #[msgV id code typ ans cut name] w fun e w' => e = .returned (.tuple #[.string ⟨(wmsgL id code typ ans cut name).toArray⟩, .int .i64 0]) ∧ Below w.heap.size w w' := by
  have HWR : Hid (∀ W, Below w.heap.size w W → Calls Tryd.prog 31 #[msgV id code typ ans cut name] W fun e w' => e = .returned (.string ⟨(wmsgL id code typ ans cut name).toArray⟩) ∧ Below W.heap.size W w') := fun W hW => written_none id code typ ans cut name W (hm.below hW) hn
  have HW1 : Hid (∀ (g : Nat) (W : World), W.heap[g]? = some (.cells #[.int .i64 id, .bool ans, .bool cut, .int .i64 code, .string name, .int .i64 typ, .slice none 0 0] 30 (0, 0)) → Calls Tryd.prog 29 #[.pointer (some ⟨g, 0, none⟩)] W fun r w' => r = .returned (.tuple #[]) ∧ Below W.heap.size W w') := fun g W hg => write1_ok g id code typ ans cut name W hg h1 h2 hs hn ht
  have ef : ∀ args W, (callFunc 29 args).run Tryd.prog W = .ok (.enter 29 args) W := enters_of Tryd.func29 (by kernel_rfl) rfl
  have hlen : ((⟨(wmsgL id code typ ans cut name).toArray⟩ : ByteArray).size : Int) ≤ 512 := by
    have : (⟨(wmsgL id code typ ans cut name).toArray⟩ : ByteArray).size = (wmsgL id code typ ans cut name).length := by simp [ByteArray.size]
    omega
  generalize (⟨(wmsgL id code typ ans cut name).toArray⟩ : ByteArray) = T at *
  clear h1 h2 hs hn ht hl hm
  go_enter Tryd.func12, Tryd.ntmps12
  go_wp2_with fail
  obtain ⟨w0, hw0⟩ : ∃ w0, w0 = w.alloc (.cells #[.int .i64 id, .bool ans, .bool cut, .int .i64 code, .string name, .int .i64 typ, .slice none 0 0] 30) := ⟨_, rfl⟩
  rw [← hw0]
  have hg0 : w0.heap[w.heap.size]? = some (.cells #[.int .i64 id, .bool ans, .bool cut, .int .i64 code, .string name, .int .i64 typ, .slice none 0 0] 30 (0, 0)) := by rw [hw0]; exact heap_alloc_new w _
  have HB0 : Hid (Below w.heap.size w w0) := (show Below _ _ _ by rw [hw0]; exact (Below.refl _ _).alloc (Nat.le_refl _) _)
  have hl0 : w.heap.size < w0.heap.size := (Array.getElem?_eq_some_iff.1 hg0).1
  clear hw0
  have hge : (w0.alloc (.cells #[.int .i64 0] 23)).heap[w0.heap.size]? = some (.cells #[.int .i64 0] 23 (0, 0)) := heap_alloc_new w0 _
  have hgm : (w0.alloc (.cells #[.int .i64 0] 23)).heap[w.heap.size]? = some (.cells #[.int .i64 id, .bool ans, .bool cut, .int .i64 code, .string name, .int .i64 typ, .slice none 0 0] 30 (0, 0)) := (Lib.alloc_old w0 _ _ hl0).trans hg0
  have hsa : (w0.alloc (.cells #[.int .i64 0] 23)).heap.size = w0.heap.size + 1 := by simp
  have HAT : Hid (Calls Tryd.prog 28 #[.func (.func 29) #[] #[.pointer (some ⟨w.heap.size, 0, none⟩)]] w0 fun r w' => r = .returned (.int .i64 0) ∧ Below w0.heap.size w0 w') := (show Calls _ _ _ _ _ by
    refine (attempt_ok 29 #[.pointer (some ⟨w.heap.size, 0, none⟩)] w0 (fun W => Below (w0.heap.size + 1) (w0.alloc (.cells #[.int .i64 0] 23)) W) ef ?_).mono ?_
    · refine (HW1.out w.heap.size _ hgm).mono ?_
      rintro r w' ⟨rfl, hb⟩
      rw [hsa] at hb
      have hk : w'.heap[w0.heap.size]? = some (.cells #[.int .i64 0] 23 (0, 0)) := (hb.block _ (by omega)).trans hge
      exact ⟨rfl, hb, cellsAt hk 0, by simp [World.frozen?, hk], (Array.getElem?_eq_some_iff.1 hk).1⟩
    · rintro r w' ⟨rfl, w1, hR, _, rfl⟩
      exact ⟨rfl, (((Below.refl _ _).alloc (Nat.le_refl _) _).trans (hR.mono (by omega))).setCell (p := ⟨w0.heap.size, 0, none⟩) (Nat.le_refl _) _⟩)
  have HC : Hid (∀ W, Below w0.heap.size w0 W → W.heap[w.heap.size]? = some (.cells #[.int .i64 id, .bool ans, .bool cut, .int .i64 code, .string name, .int .i64 typ, .slice none 0 0] 30 (0, 0))) := fun W hW => (hW.block _ hl0).trans hg0
  clear hge hgm hsa hg0 HW1 ef
  refine HAT.out.mono ?_
  rintro e w1 ⟨rfl, hb1⟩
  have HB1 : Hid (Below w.heap.size w w1) := HB0.out.trans (hb1.mono (Nat.le_of_lt hl0))
  have hg1 := HC.out w1 hb1
  have c0 : w1.cell? ⟨w.heap.size, 0, none⟩ = some (.int .i64 id) := cellsAt hg1 0
  have c1 : w1.cell? ⟨w.heap.size, 1, none⟩ = some (.bool ans) := cellsAt hg1 1
  have c2 : w1.cell? ⟨w.heap.size, 2, none⟩ = some (.bool cut) := cellsAt hg1 2
  have c3 : w1.cell? ⟨w.heap.size, 3, none⟩ = some (.int .i64 code) := cellsAt hg1 3
  have c4 : w1.cell? ⟨w.heap.size, 4, none⟩ = some (.string name) := cellsAt hg1 4
  have c5 : w1.cell? ⟨w.heap.size, 5, none⟩ = some (.int .i64 typ) := cellsAt hg1 5
  have c6 : w1.cell? ⟨w.heap.size, 6, none⟩ = some (.slice none 0 0) := cellsAt hg1 6
  clear hb1 hg1 HAT HC
  go_wp2_with fail
  refine (HWR.out _ HB1.out).mono ?_
  rintro e w2 ⟨rfl, hb2⟩
  have HB2 : Hid (Below w.heap.size w w2) := HB1.out.trans (hb2.mono HB1.out.size)
  have hcmp : decide (512 < (T.size : Int)) = false := by simp; omega
  clear hb2
  go_wp2_with fail
  go_ret2
  exact ⟨rfl, HB2.out⟩

end Go.Proofs.YtogmkdhljifbpaaDoor

/- Write, of any message. -/
namespace Go.Proofs.YtogmkdhljifbpaaDoor
open Go.RowKit

def wrecL (r : Rc.Rec) : List UInt8 := wnameL r.name ++ (nbl r.typ 2 ++ (nbl 1 2 ++ (nbl r.lasts 4 ++ (nbl (wdatL r).length 2 ++ wdatL r))))
def wheadL (id code typ : Int) (ans cut : Bool) (name : ByteArray) (n : Nat) : List UInt8 :=
  nbl id 2 ++ (nbl (flg ans cut) 1 ++ (nbl code 1 ++ (nbl 1 2 ++ (nbl n 2 ++ (nbl 0 2 ++ (nbl 0 2 ++ (wnameL name ++ (nbl typ 2 ++ nbl 1 2))))))))
/-- A message's bytes. -/
def wallL (id code typ : Int) (ans cut : Bool) (name : ByteArray) (rs : List Rc.Rec) : List UInt8 := wheadL id code typ ans cut name rs.length ++ rs.flatMap wrecL
theorem wrec_cells (r : Rc.Rec) : wrec r = Lib.byteCells (wrecL r) := by
  unfold wrec wrecL
  rw [wdat_cells]
  simp only [cells_app, nbs_cells, wname_cells, Lib.byteCells_length]
theorem recs_cells : ∀ (rs : List Rc.Rec), rs.flatMap wrec = Lib.byteCells (rs.flatMap wrecL)
  | [] => rfl
  | r :: t => by rw [List.flatMap_cons, List.flatMap_cons, cells_app, wrec_cells, recs_cells t]
theorem wall_cells (id code typ : Int) (ans cut : Bool) (name : ByteArray) (rs : List Rc.Rec) : whead id code typ ans cut name rs.length ++ rs.flatMap wrec = Lib.byteCells (wallL id code typ ans cut name rs) := by
  unfold whead wallL wheadL
  simp only [cells_app, nbs_cells, wname_cells, recs_cells]
theorem wallL_ne (id code typ : Int) (ans cut : Bool) (name : ByteArray) (rs : List Rc.Rec) : wallL id code typ ans cut name rs ≠ [] := by
  unfold wallL wheadL
  simp [nbl]
theorem chkRs_all : ∀ {rs : List Rc.Rec}, chkRs rs = 0 → ∀ r ∈ rs, chkRec r = 0
  | [], _, _, h => by cases h
  | x :: t, h0, r, hr => by
    unfold chkRs at h0
    split at h0
    · rename_i h1
      rcases List.mem_cons.1 hr with rfl | hr
      · exact h1
      · exact chkRs_all h0 r hr
    · rename_i h1
      exact absurd h0 h1
theorem chkMsg_facts {id code typ : Int} {name : ByteArray} {rs : List Rc.Rec} (h : chkMsg id code typ name rs = 0) : rs.length ≤ 20 ∧ chkN name = 0 ∧ ∀ r ∈ rs, chkRec r = 0 := by
  unfold chkMsg at h
  split at h
  · omega
  split at h
  · omega
  rename_i h2
  split at h
  · omega
  rename_i h3
  split at h
  · omega
  exact ⟨by omega, by omega, chkRs_all h⟩

set_option maxHeartbeats 1600000 in
set_option maxRecDepth 100000 in
theorem written_any (id code typ : Int) (ans cut : Bool) (name : ByteArray) (rs : List Rc.Rec) (pa : Option Addr) (cap : Nat) (w : World) (hm : ML w) (hn : chkN name = 0) (h20 : rs.length ≤ 20) (hcs : ∀ r ∈ rs, chkRec r = 0)
    (hrow : ∀ W, Below w.heap.size w W → rs = [] ∨ ∃ b off, pa = some ⟨b, off, none⟩ ∧ b < W.heap.size ∧ Rc.Row W b off rs) :
    Calls Tryd.prog 31 #[.agg #[.int .i64 id, .bool ans, .bool cut, .int .i64 code, .string name, .int .i64 typ, .slice pa rs.length cap]] w fun e w' => e = .returned (.string ⟨(wallL id code typ ans cut name rs).toArray⟩) ∧ Below w.heap.size w w' := by
  have HMS : Hid (∀ W, ML W → IsW (w.heap.size + 1) (w.heap.size + 1) [] W → Below w.heap.size w W → w.heap.size + 1 ≤ W.heap.size → Calls Tryd.prog 53 #[.pointer (some ⟨w.heap.size + 1, 0, none⟩), .agg #[.int .i64 id, .bool ans, .bool cut, .int .i64 code, .string name, .int .i64 typ, .slice pa rs.length cap]] W fun e w' => e = .returned (.tuple #[]) ∧ IsW (w.heap.size + 1) (w.heap.size + 1) ([] ++ (whead id code typ ans cut name rs.length ++ rs.flatMap wrec)) w' ∧ Kp (w.heap.size + 1) (w.heap.size + 1) W w') := fun W h1 h2 h3 h4 => message_any (w.heap.size + 1) (w.heap.size + 1) [] id code typ ans cut name rs pa cap W h1 h2 (by simp) hn h4 (by omega) h20 hcs (fun W2 hW2 => hrow W2 (h3.trans (hW2.mono (by omega))))
  clear hrow hcs h20 hn
  generalize hln : rs.length = n at *
  have HLN : Hid (rs.length = n) := hln
  clear hln
  go_enter Tryd.func31, Tryd.ntmps31
  go_wp2_with fail
  obtain ⟨w0, hw0⟩ : ∃ w0, w0 = (w.alloc (.cells #[.int .i64 id, .bool ans, .bool cut, .int .i64 code, .string name, .int .i64 typ, .slice pa n cap] 30)).alloc (.cells #[.pointer none, .slice none 0 0] 81) := ⟨_, rfl⟩
  rw [← hw0]
  have hsz : w0.heap.size = w.heap.size + 2 := by rw [hw0]; simp
  have hgb : w0.heap[w.heap.size + 1]? = some (.cells #[.pointer none, .slice none 0 0] 81 (0, 0)) := by
    have h := heap_alloc_new (w.alloc (.cells #[.int .i64 id, .bool ans, .bool cut, .int .i64 code, .string name, .int .i64 typ, .slice pa n cap] 30)) (.cells #[.pointer none, .slice none 0 0] 81)
    rw [hw0]
    simpa using h
  have HB0 : Hid (Below w.heap.size w w0) := (show Below _ _ _ by rw [hw0]; exact ((Below.refl _ _).alloc (Nat.le_refl _) _).alloc (by simp) _)
  have HI0 : Hid (IsW (w.heap.size + 1) (w.heap.size + 1) [] w0) := (show IsW _ _ _ _ from .inl ⟨Nat.le_refl _, .slice none 0 0, hgb, World.ownsRow_nil w0 _ 5 1, by simp [Value.ownBlock]⟩)
  have HM0 : Hid (ML w0) := (show ML w0 from hm.below HB0.out)
  clear hw0 hgb hm
  refine (HMS.out w0 HM0.out HI0.out HB0.out (by omega)).mono ?_
  rintro e w1 ⟨rfl, h1, hb1⟩
  have HI1 : Hid (IsW (w.heap.size + 1) (w.heap.size + 1) (Lib.byteCells (wallL id code typ ans cut name rs)) w1) := (show IsW _ _ _ _ by rw [← wall_cells, HLN.out]; simpa using h1)
  have HB1 : Hid (Below w.heap.size w w1) := HB0.out.trans (hb1.bel.mono (by omega))
  have hz1 := HB1.out.size
  have hz2 := hb1.size
  clear h1 hb1
  go_wp2_with fail
  refine (string_any (w.heap.size + 1) (w.heap.size + 1) _ w1 HI1.out (wallL_ne _ _ _ _ _ _ _)).mono ?_
  rintro e w2 ⟨rfl, hb2⟩
  have HB2 : Hid (Below w.heap.size w w2) := HB1.out.trans (hb2.mono (by omega))
  clear hb2
  go_wp2_with fail
  go_ret
  exact ⟨rfl, HB2.out⟩

end Go.Proofs.YtogmkdhljifbpaaDoor

