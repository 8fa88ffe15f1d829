
/- Take of one rumor: what must be in any case. -/
import Derived.Test.YtdcekfbejjjkkaaRU4
import Derived.Test.YtdcekfbejjjkkaaShelf
import Derived.Deep.RegionHeld
namespace Go.Proofs.Ytdcekfbejjjkkaa
open Go.RowKit

set_option maxHeartbeats 800000 in
theorem insertion_one (b off c : Nat) (f : Value) (w : World) :
    Calls Try.prog 53 #[.slice (some ⟨b, off, none⟩) 1 c, .int .i64 0, .int .i64 1, f] w fun e w' => e = .returned (.tuple #[]) ∧ w' = w := by
  go_enter Try.func53, Try.ntmps53
  go_wp2_with fail
  refine wp_loop_rounds 1 ?_
  rw [rounds_succ]
  go_wp2_with fail
  go_end0
  exact ⟨rfl, rfl⟩
set_option maxHeartbeats 1600000 in
theorem pdq_one (b off c : Nat) (k : Int) (f : Value) (w : World) :
    Calls Try.prog 48 #[.slice (some ⟨b, off, none⟩) 1 c, .int .i64 0, .int .i64 1, .int .i64 k, f] w fun e w' => e = .returned (.tuple #[]) ∧ w' = w := by
  go_enter Try.func48, Try.ntmps48
  go_wp2_with fail
  refine wp_loop_rounds 1 ?_
  rw [rounds_succ]
  go_wp2_with (go_at_call 53; refine (insertion_one _ _ _ _ _).mono ?_; rintro e w' ⟨rfl, rfl⟩)
  (try simp only [Exit.inBlock, Exit.then]); refine bodyPost_ret (results_none rfl _ _ _) rfl ?_
  exact ⟨rfl, rfl⟩
set_option maxHeartbeats 800000 in
theorem sortFunc_one (b off c : Nat) (f : Value) (w : World) :
    Calls Try.prog 38 #[.slice (some ⟨b, off, none⟩) 1 c, f] w fun e w' => e = .returned (.tuple #[]) ∧ w' = w := by
  go_enter Try.func38, Try.ntmps38
  go_wp2_with (go_at_call 33; refine (Try.bits_Len _ _ (by omega) (by omega)).mono ?_; rintro e w' ⟨rfl, rfl⟩)
  refine (pdq_one _ _ _ _ _ _).mono ?_
  rintro e w' ⟨rfl, rfl⟩
  go_wp2_with fail
  go_end0
  exact ⟨rfl, rfl⟩

set_option maxHeartbeats 800000 in
theorem takeF_any (r : Rum) (tb : Nat) (times : Int) (w : World) (ht : w.cell? ⟨tb, 0, none⟩ = some (.int .i64 times)) (hlt : r.told < times) :
    Calls Try.prog 32 #[.agg #[.string r.m.name, .int .i64 r.m.state, .int .i64 r.m.life, .int .i64 r.m.addr, .bool r.m.server, .int .i64 r.told], .pointer (some ⟨tb, 0, none⟩)] w fun e w' => e = .returned (.bool false) ∧ Below w.heap.size w w' := by
  have hb : tb < w.heap.size := World.block_lt_of_cell? w _ ht
  have ht2 : ∀ ob, (w.alloc ob).cell? ⟨tb, 0, none⟩ = some (.int .i64 times) := fun ob => by
    rw [((Below.refl w.heap.size w).alloc (Nat.le_refl _) ob).cell (p := ⟨tb, 0, none⟩) hb]; exact ht
  go_enter Try.func32, Try.ntmps32
  go_wp2_with fail
  go_ret
  exact ⟨ret_bool (decide_eq_false (by omega)), (Below.refl _ _).alloc (Nat.le_refl _) _⟩

set_option maxHeartbeats 800000 in
theorem indexFunc_one (r : Rum) (b off c tb : Nat) (times : Int) (w : World) (hr : RRow w b off [r]) (ht : w.cell? ⟨tb, 0, none⟩ = some (.int .i64 times)) (hlt : r.told < times) :
    Calls Try.prog 42 #[.slice (some ⟨b, off, none⟩) 1 c, .func (.func 32) #[] #[.pointer (some ⟨tb, 0, none⟩)]] w fun e w' => e = .returned (.int .i64 (-1)) ∧ Below w.heap.size w w' := by
  obtain ⟨c0, c1, c2, c3, c4, c5⟩ := hr 0 (by simp)
  simp only [Nat.zero_mul, Nat.add_zero, List.getD_cons_zero] at c0 c1 c2 c3 c4 c5
  go_enter Try.func42, Try.ntmps42
  go_wp2_with fail
  refine wp_loop_rounds 2 ?_
  rw [rounds_succ]
  go_wp2_with fail
  refine (takeF_any r tb times _ ht hlt).mono ?_
  rintro e w1 ⟨rfl, hb1⟩
  clear c0 c1 c2 c3 c4 c5
  go_wp2_with fail
  rw [rounds_succ]
  go_wp2_with fail
  go_ret
  exact ⟨rfl, hb1⟩

set_option maxHeartbeats 800000 in
theorem deleteFunc_one (r : Rum) (b off c tb : Nat) (times : Int) (w : World) (hr : RRow w b off [r]) (ht : w.cell? ⟨tb, 0, none⟩ = some (.int .i64 times)) (hlt : r.told < times) :
    Calls Try.prog 31 #[.slice (some ⟨b, off, none⟩) 1 c, .func (.func 32) #[] #[.pointer (some ⟨tb, 0, none⟩)]] w fun e w' => e = .returned (.slice (some ⟨b, off, none⟩) 1 c) ∧ Below w.heap.size w w' := by
  go_enter Try.func31, Try.ntmps31
  go_wp2_with fail
  refine (indexFunc_one r b off c tb times _ hr ht hlt).mono ?_
  rintro e w1 ⟨rfl, hb1⟩
  go_wp2_with fail
  go_ret
  exact ⟨rfl, hb1⟩

theorem Try.infoI : (Try.prog.info? 3).map (fun i => (i.zero, i.size, i.bytes)) = some (some (.int .i64 0), 1, 8) := by kernel_rfl

set_option maxHeartbeats 1600000 in
theorem turns_one (v : Value) (r : Rum) (w : World) (hv : RSl w v [r]) :
    Calls Try.prog 30 #[v] w fun e w' => ∃ g c, e = .returned (.slice (some ⟨g, 0, none⟩) 1 c) ∧ w'.cell? ⟨g, 0, none⟩ = some (.int .i64 0) ∧ 1 ≤ c ∧ Below w.heap.size w w' := by
  obtain ⟨i0, hi0, hz0, hzs, hzb⟩ := info_parts Try.infoI
  obtain ⟨pa, ca, rfl, _, _⟩ := hv
  go_enter Try.func30, Try.ntmps30
  go_wp2_with fail
  refine wp_loop_rounds 2 ?_
  rw [rounds_succ]
  go_wp2_with (at_builtin; refine wpList_append_own _ rfl _ _ 45 rfl w.heap.size 3 i0 _ 1 8 Try.underlying45 hi0 hz0 hzs hzb rfl (by omega) _ 0 [] rfl (World.ownsRow_nil _ _ _ _) ⟨w.heap.size + 1, 0, none⟩ 1 1 [.int .i64 0] rfl rfl ?hnews (by simp [Value.oneCell']) ?h63 ?hbytes ?hbase ?_)
  case hnews => (intro j u hj; rw [Addr.add_lit]; exact (cell_top' (by simp)).trans (by simpa using hj))
  case h63 => (unfold maxLen; omega)
  case hbytes => omega
  case hbase => (simp; omega)
  intro v' w1 r1 r2 r3
  obtain ⟨g, c, hv', hbg, hcell, hc1⟩ : ∃ g c, v' = .slice (some ⟨g, 0, none⟩) 1 c ∧ w.heap.size ≤ g ∧ w1.cell? ⟨g, 0, none⟩ = some (.int .i64 0) ∧ 1 ≤ c := by
    rcases r1.2 with ⟨h, _⟩ | ⟨g, c, cur, h, hbg, hg, hnc, hcm, hcs, htake⟩
    · exact absurd h r3
    · refine ⟨g, c, h, hbg, ?_, hnc⟩
      rw [cellsAt hg, ← Array.getElem?_toList, show cur.toList[0]? = (cur.toList.take (1 * 1))[0]? by simp, htake]
      rfl
  subst hv'
  have HB : Hid (Below w.heap.size w w1) := (((Below.refl _ _).alloc (Nat.le_refl _) _).alloc (by simp) _).grown r2 (by simp; omega) (fun k hk => by simp [Value.ownBlock] at hk)
  have HC : Hid (w1.cell? ⟨g, 0, none⟩ = some (.int .i64 0)) := hcell
  clear r1 r2 r3 hcell
  go_wp2_with fail
  rw [rounds_succ]
  go_wp2_with (go_at_call 38; refine (sortFunc_one _ _ _ _ _).mono ?_; rintro e w' ⟨rfl, rfl⟩)
  go_ret
  exact ⟨g, c, rfl, HC.out, hc1, HB.out⟩

theorem flR_told (r : Rum) (t : Int) : (flR [r]).set 5 (.int .i64 t) = flR [⟨r.m, t⟩] := by simp [flR, Rum.cs]

theorem rown_row {base g c n : Nat} {w : World} {rs : List Rum} (h : w.ownsRow base 47 6 (.slice (some ⟨g, 0, none⟩) n c) rs.length (flR rs)) : RRow w g 0 rs := by
  rcases h.2 with ⟨hv, _⟩ | ⟨g', c', cur, hv, hbg, hg, hnc, hcm, hcs, htake⟩
  · cases hv
  · simp only [Value.slice.injEq, Option.some.injEq, Addr.mk.injEq, and_true] at hv
    obtain ⟨rfl, _, _⟩ := hv
    intro j hj
    have hc : ∀ t, t < 6 → w.cell? ⟨g, 0 + j * 6 + t, none⟩ = (rs.getD j dr).cs[t]? := fun t ht => by
      rw [cellsAt hg, ← flR_get rs j hj t ht, ← htake, List.getElem?_take_of_lt (by omega)]; simp
    exact ⟨hc 0 (by omega), hc 1 (by omega), hc 2 (by omega), hc 3 (by omega), hc 4 (by omega), hc 5 (by omega)⟩

set_option maxHeartbeats 3200000 in
theorem take_one (v : Value) (r : Rum) (most times : Int) (w : World) (hv : RSl w v [r]) (h0 : chkR [r] = 0) (hm : within most 1 20 = true) (ht : within times 1 100 = true) (hlt : r.told + 1 < times) (hr0 : 0 ≤ r.told) :
    Calls Try.prog 14 #[v, .int .i64 most, .int .i64 times] w fun e w' => ∃ v1 v2, e = .returned (.tuple #[v1, v2, .int .i64 0]) ∧ Own w.heap.size w' v1 [r.m] ∧ ROwn w.heap.size w' v2 [⟨r.m, r.told + 1⟩] ∧ Below w.heap.size w w' := by
  obtain ⟨j0, hj0, hk0, hks, hkb⟩ := info_parts Try.info24
  have HV : Hid (RSl w v [r]) := hv
  have hm1 : 1 ≤ most := by simp [within] at hm; omega
  have ht1 : times ≤ 100 := by simp [within] at ht; omega
  have hchk := fun (w : World) (h : RSl w v [r]) => checkR_any [r] v w h
  rw [h0] at hchk
  clear h0
  obtain ⟨pa, ca, rfl, _, _⟩ := hv
  simp only [List.length_cons, List.length_nil] at *
  have hB0 : Below w.heap.size w (w.alloc (.cells #[.int .i64 times] 3)) := (Below.refl _ _).alloc (Nat.le_refl _) _
  go_enter Try.func14, Try.ntmps14
  go_wp2_with fail
  refine (hchk _ (HV.out.below hB0)).mono ?_
  rintro e w1 ⟨rfl, hb1⟩
  have c1 : w1.cell? ⟨w.heap.size, 0, none⟩ = some (.int .i64 times) := by
    rw [hb1.cell (p := ⟨w.heap.size, 0, none⟩) (by simp)]; exact cell_top' rfl
  have HB1 : Hid (Below w.heap.size w w1) := hB0.trans (hb1.mono (by simp))
  have hz1 : w.heap.size < w1.heap.size := by have := hb1.size; simp at this; omega
  clear hb1 hB0 hchk
  go_wp2_with (go_at_call 29; refine (within_any _ _ _ _).mono ?_; rintro e w' ⟨rfl, rfl⟩; first | rw [hm] | rw [ht])
  refine (rclone_any [r] _ _ (HV.out.below HB1.out) (by simp)).mono ?_
  rintro e w3 ⟨v3, rfl, ho3, hb3⟩
  have HO3 : Hid (ROwn (w.heap.size + 1) w3 v3 [r]) := ho3.base hz1
  have c3 : w3.cell? ⟨w.heap.size, 0, none⟩ = some (.int .i64 times) := by
    rw [hb3.cell (p := ⟨w.heap.size, 0, none⟩) (by simp only; omega)]; exact c1
  have HB3 : Hid (Below w.heap.size w w3) := HB1.out.trans (hb3.mono HB1.out.size)
  have hz3 : w.heap.size < w3.heap.size := by have := hb3.size; omega
  clear hb3 ho3 c1
  go_wp2_with fail
  refine (turns_one _ r _ (HV.out.below HB3.out)).mono ?_
  rintro e w4 ⟨gt, ct, rfl, hct, hcc, hb4⟩
  have HB4 : Hid (Below w.heap.size w w4) := HB3.out.trans (hb4.mono HB3.out.size)
  have c4 : w4.cell? ⟨w.heap.size, 0, none⟩ = some (.int .i64 times) := by
    rw [hb4.cell (p := ⟨w.heap.size, 0, none⟩) (by simp only; omega)]; exact c3
  have HO4 : Hid (ROwn (w.heap.size + 1) w4 v3 [r]) := HO3.out.below hb4
  have hz4 : w3.heap.size ≤ w4.heap.size := hb4.size
  clear hb4 c3 HO3
  obtain ⟨g, c, hv3⟩ : ∃ g c, v3 = .slice (some ⟨g, 0, none⟩) 1 c := by
    rcases HO4.out.2 with ⟨_, h0⟩ | ⟨g, c, cur, h, _⟩
    · simp at h0
    · exact ⟨g, c, h⟩
  subst hv3
  obtain ⟨hgl, hgh⟩ := HO4.out.lt g rfl
  have d0 : w4.cell? ⟨g, 0, none⟩ = some (.string r.m.name) := World.ownsRow.cellAt HO4.out 0 (by decide)
  have d1 : w4.cell? ⟨g, 1, none⟩ = some (.int .i64 r.m.state) := World.ownsRow.cellAt HO4.out 1 (by decide)
  have d2 : w4.cell? ⟨g, 2, none⟩ = some (.int .i64 r.m.life) := World.ownsRow.cellAt HO4.out 2 (by decide)
  have d3 : w4.cell? ⟨g, 3, none⟩ = some (.int .i64 r.m.addr) := World.ownsRow.cellAt HO4.out 3 (by decide)
  have d4 : w4.cell? ⟨g, 4, none⟩ = some (.bool r.m.server) := World.ownsRow.cellAt HO4.out 4 (by decide)
  have d5 : w4.cell? ⟨g, 5, none⟩ = some (.int .i64 r.told) := World.ownsRow.cellAt HO4.out 5 (by decide)
  have hfz : ∀ o, w4.frozen? ⟨g, o, none⟩ = false := fun o => World.ownsRow.frozenAt HO4.out o
  have hmin : min most (1 : Int) = 1 := by omega
  go_wp2_with fail
  refine wp_loop_rounds 2 ?_
  rw [rounds_succ]
  have HS5 := World.ownsRow.stored HO4.out 5 (.int .i64 (r.told + 1))
  have HO5 : Hid (ROwn (w.heap.size + 1) (w4.setCell ⟨g, 5, none⟩ (.int .i64 (r.told + 1))) (.slice (some ⟨g, 0, none⟩) 1 c) [⟨r.m, r.told + 1⟩]) := by
    have h := HS5.1
    rw [flR_told] at h
    exact h
  clear HS5
  go_wp2_with (at_builtin; refine wpList_append_own _ rfl _ _ 33 rfl (w.heap.size + 1) 24 j0 _ 5 48 Try.underlying33 hj0 hk0 hks hkb rfl (by omega) _ 0 [] rfl (World.ownsRow_nil _ _ _ _) ⟨w4.heap.size, 0, none⟩ 1 1 r.m.cs rfl rfl ?hnews (cs_one _) ?h63 ?hbytes ?hbase ?_)
  case hnews => (intro j u hj; rw [Addr.add_lit]; exact (cell_top' (by simp)).trans (by simpa [Mem.cs] using hj))
  case h63 => (unfold maxLen; omega)
  case hbytes => omega
  case hbase => (simp; omega)
  intro v1 w5 r1 r2 r3
  have hb5 : Below (w4.setCell ⟨g, 5, none⟩ (.int .i64 (r.told + 1))).heap.size (w4.setCell ⟨g, 5, none⟩ (.int .i64 (r.told + 1))) w5 :=
    ((Below.refl _ _).alloc (Nat.le_refl _) _).grown r2 (by simp) (fun k hk => by simp [Value.ownBlock] at hk)
  have HO6 : Hid (ROwn (w.heap.size + 1) w5 (.slice (some ⟨g, 0, none⟩) 1 c) [⟨r.m, r.told + 1⟩]) := HO5.out.below hb5
  have HT6 : Hid (Own (w.heap.size + 1) w5 v1 [r.m]) := (show w5.ownsRow (w.heap.size + 1) 24 5 v1 1 (fl [r.m]) by rw [show fl [r.m] = r.m.cs by simp [fl]]; exact r1)
  have HB6 : Hid (Below w.heap.size w w5) := (HB4.out.setCell (p := ⟨g, 5, none⟩) (by simp only; omega) _).trans (hb5.mono (by have := HB4.out.size; simp; omega))
  have C6 : Hid (w5.cell? ⟨w.heap.size, 0, none⟩ = some (.int .i64 times)) := by
    have h1 : (w4.setCell ⟨g, 5, none⟩ (.int .i64 (r.told + 1))).cell? ⟨w.heap.size, 0, none⟩ = some (.int .i64 times) := by
      rw [World.cell?_setCell_far _ _ _ _ (by simp only; omega)]; exact c4
    have h2 := hb5.cell (p := ⟨w.heap.size, 0, none⟩) (by simp; omega)
    exact h2.trans h1
  clear r1 r2 r3 hb5 HO5 d0 d1 d2 d3 d4 d5 c4 HO4 hfz
  go_wp2_with fail
  rw [rounds_succ]
  go_wp2_with fail
  refine (deleteFunc_one ⟨r.m, r.told + 1⟩ g 0 c w.heap.size times _ (rown_row HO6.out) C6.out hlt).mono ?_
  rintro e w6 ⟨rfl, hb6⟩
  have R1 : Hid (Own w.heap.size w6 v1 [r.m]) := by
    have h := HT6.out.below hb6
    obtain ⟨h1, h2⟩ := h
    refine ⟨h1, ?_⟩
    rcases h2 with h2 | ⟨g, c, cur, hv, hbg, hr⟩
    · exact .inl h2
    · exact .inr ⟨g, c, cur, hv, by omega, hr⟩
  have R2 : Hid (ROwn w.heap.size w6 (.slice (some ⟨g, 0, none⟩) 1 c) [⟨r.m, r.told + 1⟩]) := (HO6.out.below hb6).base (by omega)
  have R3 : Hid (Below w.heap.size w w6) := HB6.out.trans (hb6.mono HB6.out.size)
  clear hb6 HO6 HT6 HB6 C6
  go_wp2_with fail
  go_ret3
  exact ⟨v1, _, rfl, R1.out, R2.out, R3.out⟩

end Go.Proofs.Ytdcekfbejjjkkaa
