/- HD, HE, HF, HG, HI -/
import Derived.Test.YtogmkdhljifbpaaDoorY12
/- DnsBack. -/
namespace Go.Proofs.YtogmkdhljifbpaaDoor
open Go.RowKit

theorem wr_good {id code typ : Int} {ans cut : Bool} {R : ByteArray} {rs : List Rc.Rec} (h : wrE id code typ ans cut R rs = 0) : chkMsg id code typ R rs = 0 ∧ (wallL id code typ ans cut R rs).length ≤ 512 ∧ wrT id code typ ans cut R rs = ⟨(wallL id code typ ans cut R rs).toArray⟩ := by
  unfold wrE at h
  unfold wrT
  split at h
  · rename_i h1
    rw [if_pos h1]
    split at h
    · omega
    · rename_i h2
      exact ⟨h1, by omega, by rw [if_neg h2]⟩
  · rename_i h1
    exact absurd h h1
/-- What Write wrote, Read reads. -/
theorem read_wrote {id code typ : Int} {ans cut : Bool} {R : ByteArray} {rs : List Rc.Rec} (h : wrE id code typ ans cut R rs = 0) (W : World) :
    Calls Tryd.prog 16 #[.string (wrT id code typ ans cut R rs)] W fun e w' => ∃ v, e = .returned (.tuple #[.agg #[.int .i64 id, .bool ans, .bool cut, .int .i64 code, .string R, .int .i64 typ, v], .int .i64 0]) ∧ Below W.heap.size W w' ∧ Hid (Rc.Own W.heap.size w' v rs) := by
  obtain ⟨h1, h2, h3⟩ := wr_good h
  rw [h3]
  exact read_any id code typ ans cut R _ rs W (reads_written h1 h2) (by simp [ByteArray.size]; exact h2) h1

set_option maxHeartbeats 3200000 in
set_option maxRecDepth 100000 in
theorem dnsBack_walk (id code typ : Int) (ans cut : Bool) (name : ByteArray) (rs : List Rc.Rec) (v : Value) (t : ByteArray) (w : World) (hm : ML w) (hs : name.size ≤ maxLen) (hv : Rc.Sl w v rs) :
    Calls Tryd.prog 7 #[.agg #[.int .i64 id, .bool ans, .bool cut, .int .i64 code, .string name, .int .i64 typ, v], .string t] w fun e w' => e = .returned (.bool true) ∧ Below w.heap.size w w' := by
  have HBG : Hid (∀ W, Below w.heap.size w W → Calls Tryd.prog 9 #[] W fun e w' => e = .returned (.bool true) ∧ Below W.heap.size W w') := fun W hW => dnsBegun_any W (hm.below hW)
  have HSL : Hid (∀ W, Below w.heap.size w W → Rc.Sl W v rs) := fun W hW => hv.below hW
  have HWM : Hid (∀ W, Below w.heap.size w W → Calls Tryd.prog 12 #[.agg #[.int .i64 id, .bool ans, .bool cut, .int .i64 code, .string name, .int .i64 typ, v]] W fun e w' => e = .returned (.tuple #[.string (wrT id code typ ans cut name rs), .int .i64 (wrE id code typ ans cut name rs)]) ∧ Below W.heap.size W w') := fun W hW => write_any id code typ ans cut name rs v W (hm.below hW) hs (hv.below hW)
  have HML : Hid (ML w) := hm
  have HRW : Hid (wrE id code typ ans cut name rs = 0 → (∀ j, (rs.getD j Rc.dm).ok) ∧ rs.length ≤ 1000 ∧ ∀ W, Calls Tryd.prog 16 #[.string (wrT id code typ ans cut name rs)] W fun e w' => ∃ v, e = .returned (.tuple #[.agg #[.int .i64 id, .bool ans, .bool cut, .int .i64 code, .string name, .int .i64 typ, v], .int .i64 0]) ∧ Below W.heap.size W w' ∧ Hid (Rc.Own W.heap.size w' v rs)) := fun h => by
    have hc := chkMsg_facts (wr_good h).1
    exact ⟨recs_ok hc.2.2, by omega, fun W => read_wrote h W⟩
  have HSM : Hid (∀ va vb W, Rc.Sl W va rs → Rc.Sl W vb rs → rs.length ≤ 1000 → Calls Tryd.prog 18 #[.agg #[.int .i64 id, .bool ans, .bool cut, .int .i64 code, .string name, .int .i64 typ, va], .agg #[.int .i64 id, .bool ans, .bool cut, .int .i64 code, .string name, .int .i64 typ, vb]] W fun e w' => e = .returned (.bool true) ∧ Below W.heap.size W w') := fun va vb W ha hb hn => sameMsg_ok id code typ ans cut name rs va vb W ha hb hn
  have HRB : Hid (∀ W, Calls Tryd.prog 16 #[.string t] W (RdP t W)) := fun W => read_b t W
  clear hm hs hv
  generalize wrT id code typ ans cut name rs = WT at *
  generalize wrE id code typ ans cut name rs = WE at *
  go_enter Tryd.func7, Tryd.ntmps7
  go_wp2_with fail
  have hw0 : Below w.heap.size w (w.alloc (.cells #[.int .i64 id, .bool ans, .bool cut, .int .i64 code, .string name, .int .i64 typ, v] 30)) := (Below.refl _ _).alloc (Nat.le_refl _) _
  have hg0 : (w.alloc (.cells #[.int .i64 id, .bool ans, .bool cut, .int .i64 code, .string name, .int .i64 typ, v] 30)).heap[w.heap.size]? = some (.cells #[.int .i64 id, .bool ans, .bool cut, .int .i64 code, .string name, .int .i64 typ, v] 30 (0, 0)) := heap_alloc_new w _
  refine (HBG.out _ hw0).mono ?_
  rintro e w1 ⟨rfl, hb1⟩
  have HB1 : Hid (Below w.heap.size w w1) := hw0.trans (hb1.mono (by simp))
  have HG1 : Hid (w1.heap[w.heap.size]? = some (.cells #[.int .i64 id, .bool ans, .bool cut, .int .i64 code, .string name, .int .i64 typ, v] 30 (0, 0))) := (hb1.block _ (by simp)).trans hg0
  clear hw0 hg0 hb1 HBG
  have m0 : w1.cell? ⟨w.heap.size, 0, none⟩ = some (.int .i64 id) := cellsAt HG1.out 0
  have m1 : w1.cell? ⟨w.heap.size, 1, none⟩ = some (.bool ans) := cellsAt HG1.out 1
  have m2 : w1.cell? ⟨w.heap.size, 2, none⟩ = some (.bool cut) := cellsAt HG1.out 2
  have m3 : w1.cell? ⟨w.heap.size, 3, none⟩ = some (.int .i64 code) := cellsAt HG1.out 3
  have m4 : w1.cell? ⟨w.heap.size, 4, none⟩ = some (.string name) := cellsAt HG1.out 4
  have m5 : w1.cell? ⟨w.heap.size, 5, none⟩ = some (.int .i64 typ) := cellsAt HG1.out 5
  have m6 : w1.cell? ⟨w.heap.size, 6, none⟩ = some (v) := cellsAt HG1.out 6
  go_wp2_with fail
  refine (HWM.out w1 HB1.out).mono ?_
  rintro e w2 ⟨rfl, hb2⟩
  have HB2 : Hid (Below w.heap.size w w2) := HB1.out.trans (hb2.mono HB1.out.size)
  have HG2 : Hid (w2.heap[w.heap.size]? = some (.cells #[.int .i64 id, .bool ans, .bool cut, .int .i64 code, .string name, .int .i64 typ, v] 30 (0, 0))) := (hb2.block _ (Array.getElem?_eq_some_iff.1 HG1.out).1).trans HG1.out
  clear hb2 HWM HG1 HB1 m0 m1 m2 m3 m4 m5 m6
  by_cases h0 : WE = 0
  · obtain ⟨hok, hln, hrd⟩ := HRW.out h0
    have HOK : Hid (∀ j, (rs.getD j Rc.dm).ok) := hok
    have HRD : Hid (∀ W, Calls Tryd.prog 16 #[.string WT] W fun e w' => ∃ v, e = .returned (.tuple #[.agg #[.int .i64 id, .bool ans, .bool cut, .int .i64 code, .string name, .int .i64 typ, v], .int .i64 0]) ∧ Below W.heap.size W w' ∧ Hid (Rc.Own W.heap.size w' v rs)) := hrd
    clear hok hrd HRW
    subst h0
    go_wp2_with fail
    refine (HRD.out w2).mono ?_
    rintro e w3 ⟨v3, rfl, hb3, ho3⟩
    obtain ⟨av, lv, cv, hvv⟩ : ∃ a l c, v3 = .slice a l c := by
      rcases ho3.out.2 with ⟨hv, _⟩ | ⟨gq, cq, _, hv, _⟩
      · exact ⟨_, _, _, hv⟩
      · exact ⟨_, _, _, hv⟩
    subst hvv
    obtain ⟨w4, hw4⟩ : ∃ w4, w4 = w3.alloc (.cells #[.int .i64 id, .bool ans, .bool cut, .int .i64 code, .string name, .int .i64 typ, .slice av lv cv] 30) := ⟨_, rfl⟩
    have hb34 : Below w3.heap.size w3 w4 := by rw [hw4]; exact (Below.refl _ _).alloc (Nat.le_refl _) _
    have HGX : Hid (w4.heap[w3.heap.size]? = some (.cells #[.int .i64 id, .bool ans, .bool cut, .int .i64 code, .string name, .int .i64 typ, .slice av lv cv] 30 (0, 0))) := (show _ = _ by rw [hw4]; exact heap_alloc_new w3 _)
    have hl2 := (Array.getElem?_eq_some_iff.1 HG2.out).1
    have HGM : Hid (w4.heap[w.heap.size]? = some (.cells #[.int .i64 id, .bool ans, .bool cut, .int .i64 code, .string name, .int .i64 typ, v] 30 (0, 0))) := ((hb34.block _ (Nat.lt_of_lt_of_le hl2 hb3.size)).trans (hb3.block _ hl2)).trans HG2.out
    have HSA : Hid (Rc.Sl w4 (.slice av lv cv) rs) := ((ho3.out.below hb34).sl HOK.out)
    have HB4 : Hid (Below w.heap.size w w4) := (HB2.out.trans (hb3.mono HB2.out.size)).trans (hb34.mono (Nat.le_trans HB2.out.size hb3.size))
    have HSB : Hid (Rc.Sl w4 v rs) := HSL.out w4 HB4.out
    clear ho3 hb34 hb3 hl2 HG2 HB2 HRD
    have x0 : (w3.alloc (.cells #[.int .i64 id, .bool ans, .bool cut, .int .i64 code, .string name, .int .i64 typ, .slice av lv cv] 30)).cell? ⟨w3.heap.size, 0, none⟩ = some (.int .i64 id) := by rw [← hw4]; exact cellsAt HGX.out 0
    have x1 : (w3.alloc (.cells #[.int .i64 id, .bool ans, .bool cut, .int .i64 code, .string name, .int .i64 typ, .slice av lv cv] 30)).cell? ⟨w3.heap.size, 1, none⟩ = some (.bool ans) := by rw [← hw4]; exact cellsAt HGX.out 1
    have x2 : (w3.alloc (.cells #[.int .i64 id, .bool ans, .bool cut, .int .i64 code, .string name, .int .i64 typ, .slice av lv cv] 30)).cell? ⟨w3.heap.size, 2, none⟩ = some (.bool cut) := by rw [← hw4]; exact cellsAt HGX.out 2
    have x3 : (w3.alloc (.cells #[.int .i64 id, .bool ans, .bool cut, .int .i64 code, .string name, .int .i64 typ, .slice av lv cv] 30)).cell? ⟨w3.heap.size, 3, none⟩ = some (.int .i64 code) := by rw [← hw4]; exact cellsAt HGX.out 3
    have x4 : (w3.alloc (.cells #[.int .i64 id, .bool ans, .bool cut, .int .i64 code, .string name, .int .i64 typ, .slice av lv cv] 30)).cell? ⟨w3.heap.size, 4, none⟩ = some (.string name) := by rw [← hw4]; exact cellsAt HGX.out 4
    have x5 : (w3.alloc (.cells #[.int .i64 id, .bool ans, .bool cut, .int .i64 code, .string name, .int .i64 typ, .slice av lv cv] 30)).cell? ⟨w3.heap.size, 5, none⟩ = some (.int .i64 typ) := by rw [← hw4]; exact cellsAt HGX.out 5
    have x6 : (w3.alloc (.cells #[.int .i64 id, .bool ans, .bool cut, .int .i64 code, .string name, .int .i64 typ, .slice av lv cv] 30)).cell? ⟨w3.heap.size, 6, none⟩ = some (.slice av lv cv) := by rw [← hw4]; exact cellsAt HGX.out 6
    have m0 : (w3.alloc (.cells #[.int .i64 id, .bool ans, .bool cut, .int .i64 code, .string name, .int .i64 typ, .slice av lv cv] 30)).cell? ⟨w.heap.size, 0, none⟩ = some (.int .i64 id) := by rw [← hw4]; exact cellsAt HGM.out 0
    have m1 : (w3.alloc (.cells #[.int .i64 id, .bool ans, .bool cut, .int .i64 code, .string name, .int .i64 typ, .slice av lv cv] 30)).cell? ⟨w.heap.size, 1, none⟩ = some (.bool ans) := by rw [← hw4]; exact cellsAt HGM.out 1
    have m2 : (w3.alloc (.cells #[.int .i64 id, .bool ans, .bool cut, .int .i64 code, .string name, .int .i64 typ, .slice av lv cv] 30)).cell? ⟨w.heap.size, 2, none⟩ = some (.bool cut) := by rw [← hw4]; exact cellsAt HGM.out 2
    have m3 : (w3.alloc (.cells #[.int .i64 id, .bool ans, .bool cut, .int .i64 code, .string name, .int .i64 typ, .slice av lv cv] 30)).cell? ⟨w.heap.size, 3, none⟩ = some (.int .i64 code) := by rw [← hw4]; exact cellsAt HGM.out 3
    have m4 : (w3.alloc (.cells #[.int .i64 id, .bool ans, .bool cut, .int .i64 code, .string name, .int .i64 typ, .slice av lv cv] 30)).cell? ⟨w.heap.size, 4, none⟩ = some (.string name) := by rw [← hw4]; exact cellsAt HGM.out 4
    have m5 : (w3.alloc (.cells #[.int .i64 id, .bool ans, .bool cut, .int .i64 code, .string name, .int .i64 typ, .slice av lv cv] 30)).cell? ⟨w.heap.size, 5, none⟩ = some (.int .i64 typ) := by rw [← hw4]; exact cellsAt HGM.out 5
    have m6 : (w3.alloc (.cells #[.int .i64 id, .bool ans, .bool cut, .int .i64 code, .string name, .int .i64 typ, .slice av lv cv] 30)).cell? ⟨w.heap.size, 6, none⟩ = some (v) := by rw [← hw4]; exact cellsAt HGM.out 6
    go_wp2_with fail
    rw [← hw4]
    clear hw4
    refine (HSM.out _ _ w4 HSA.out HSB.out hln).mono ?_
    rintro e w5 ⟨rfl, hb5⟩
    have HB5 : Hid (Below w.heap.size w w5) := HB4.out.trans (hb5.mono HB4.out.size)
    clear hb5 x0 x1 x2 x3 x4 x5 x6 m0 m1 m2 m3 m4 m5 m6 HGX HGM HSA HSB HB4
    go_wp2_with fail
    refine (HRB.out w5).mono ?_
    rintro e w6 ⟨hb6, ⟨M, v6, hM, hl, hc, rfl, ho⟩ | ⟨E, hE, hE2, rfl⟩⟩
    rotate_left
    · have HB6 : Hid (Below w.heap.size w w6) := HB5.out.trans (hb6.mono HB5.out.size)
      have h1 : (E != 0) = true := by rw [hE]; split <;> rfl
      clear hE hE2 hb6
      go_wp2_with fail
      go_ret
      exact ⟨rfl, HB6.out.alloc HB6.out.size _⟩
    have HB6 : Hid (Below w.heap.size w w6) := HB5.out.trans (hb6.mono HB5.out.size)
    have hz6 : w5.heap.size ≤ w6.heap.size := hb6.size
    obtain ⟨mid, mcode, mtyp, mans, mcut, mR, mrs⟩ := M
    simp only at hc ho ⊢
    have hcf := chkMsg_facts hc
    have HMO : Hid (∀ j, (mrs.getD j Rc.dm).ok) := recs_ok hcf.2.2
    have hmR : mR.size ≤ maxLen := by have := (labs_ok hcf.2.1).2.2; unfold maxLen; omega
    have hm20 : mrs.length ≤ 1000 := by have := hcf.1; omega
    have HWE : Hid (wrE mid mcode mtyp mans mcut mR mrs = 0 ∨ wrE mid mcode mtyp mans mcut mR mrs = 2) := (show _ ∨ _ by unfold wrE; rw [if_pos hc]; split; exact .inr rfl; exact .inl rfl)
    have HWX : Hid (∀ u W, Below w.heap.size w W → Rc.Sl W u mrs → Calls Tryd.prog 12 #[.agg #[.int .i64 mid, .bool mans, .bool mcut, .int .i64 mcode, .string mR, .int .i64 mtyp, u]] W fun e w' => e = .returned (.tuple #[.string (wrT mid mcode mtyp mans mcut mR mrs), .int .i64 (wrE mid mcode mtyp mans mcut mR mrs)]) ∧ Below W.heap.size W w') := fun u W hW hu => write_any mid mcode mtyp mans mcut mR mrs u W (HML.out.below hW) hmR hu
    have HRX : Hid (wrE mid mcode mtyp mans mcut mR mrs = 0 → ∀ W, Calls Tryd.prog 16 #[.string (wrT mid mcode mtyp mans mcut mR mrs)] W fun e w' => ∃ v, e = .returned (.tuple #[.agg #[.int .i64 mid, .bool mans, .bool mcut, .int .i64 mcode, .string mR, .int .i64 mtyp, v], .int .i64 0]) ∧ Below W.heap.size W w' ∧ Hid (Rc.Own W.heap.size w' v mrs)) := fun h W => read_wrote h W
    have HSX : Hid (∀ va vb W, Rc.Sl W va mrs → Rc.Sl W vb mrs → Calls Tryd.prog 18 #[.agg #[.int .i64 mid, .bool mans, .bool mcut, .int .i64 mcode, .string mR, .int .i64 mtyp, va], .agg #[.int .i64 mid, .bool mans, .bool mcut, .int .i64 mcode, .string mR, .int .i64 mtyp, vb]] W fun e w' => e = .returned (.bool true) ∧ Below W.heap.size W w') := fun va vb W ha hb => sameMsg_ok mid mcode mtyp mans mcut mR mrs va vb W ha hb hm20
    clear hM hl hc hcf hmR hm20 hb6
    generalize wrT mid mcode mtyp mans mcut mR mrs = XT at *
    generalize wrE mid mcode mtyp mans mcut mR mrs = XE at *
    obtain ⟨av, lv, cv, hvv⟩ : ∃ a l c, v6 = .slice a l c := by
      rcases ho.out.2 with ⟨hv, _⟩ | ⟨gq, cq, _, hv, _⟩
      · exact ⟨_, _, _, hv⟩
      · exact ⟨_, _, _, hv⟩
    subst hvv
    obtain ⟨w7, hw7⟩ : ∃ w7, w7 = w6.alloc (.cells #[.int .i64 mid, .bool mans, .bool mcut, .int .i64 mcode, .string mR, .int .i64 mtyp, .slice av lv cv] 30) := ⟨_, rfl⟩
    have hb67 : Below w6.heap.size w6 w7 := by rw [hw7]; exact (Below.refl _ _).alloc (Nat.le_refl _) _
    have HG7 : Hid (w7.heap[w6.heap.size]? = some (.cells #[.int .i64 mid, .bool mans, .bool mcut, .int .i64 mcode, .string mR, .int .i64 mtyp, .slice av lv cv] 30 (0, 0))) := (show _ = _ by rw [hw7]; exact heap_alloc_new w6 _)
    have HO7 : Hid (Rc.Sl w7 (.slice av lv cv) mrs) := ((ho.out.below hb67).sl HMO.out)
    have HB7 : Hid (Below w.heap.size w w7) := HB6.out.trans (hb67.mono HB6.out.size)
    clear ho hb67
    go_wp2_with fail
    rw [← hw7]
    clear hw7
    have x0 : w7.cell? ⟨w6.heap.size, 0, none⟩ = some (.int .i64 mid) := cellsAt HG7.out 0
    have x1 : w7.cell? ⟨w6.heap.size, 1, none⟩ = some (.bool mans) := cellsAt HG7.out 1
    have x2 : w7.cell? ⟨w6.heap.size, 2, none⟩ = some (.bool mcut) := cellsAt HG7.out 2
    have x3 : w7.cell? ⟨w6.heap.size, 3, none⟩ = some (.int .i64 mcode) := cellsAt HG7.out 3
    have x4 : w7.cell? ⟨w6.heap.size, 4, none⟩ = some (.string mR) := cellsAt HG7.out 4
    have x5 : w7.cell? ⟨w6.heap.size, 5, none⟩ = some (.int .i64 mtyp) := cellsAt HG7.out 5
    have x6 : w7.cell? ⟨w6.heap.size, 6, none⟩ = some (.slice av lv cv) := cellsAt HG7.out 6
    go_wp2_with fail
    refine (HWX.out _ w7 HB7.out HO7.out).mono ?_
    rintro e w8 ⟨rfl, hb8⟩
    have HB8 : Hid (Below w.heap.size w w8) := HB7.out.trans (hb8.mono HB7.out.size)
    have HG8 : Hid (w8.heap[w6.heap.size]? = some (.cells #[.int .i64 mid, .bool mans, .bool mcut, .int .i64 mcode, .string mR, .int .i64 mtyp, .slice av lv cv] 30 (0, 0))) := (hb8.block _ (Array.getElem?_eq_some_iff.1 HG7.out).1).trans HG7.out
    have HO8 : Hid (Rc.Sl w8 (.slice av lv cv) mrs) := HO7.out.below hb8
    clear hb8 HWX HG7 HO7 HB7 x0 x1 x2 x3 x4 x5 x6
    rcases HWE.out with h0 | h2
    rotate_left
    · subst h2
      go_wp2_with fail
      go_ret
      exact ⟨rfl, HB8.out⟩
    have HRX2 := HRX.out h0
    have HRX3 : Hid (∀ W, Calls Tryd.prog 16 #[.string XT] W fun e w' => ∃ v, e = .returned (.tuple #[.agg #[.int .i64 mid, .bool mans, .bool mcut, .int .i64 mcode, .string mR, .int .i64 mtyp, v], .int .i64 0]) ∧ Below W.heap.size W w' ∧ Hid (Rc.Own W.heap.size w' v mrs)) := HRX2
    clear HRX HRX2 HWE
    subst h0
    go_wp2_with fail
    refine (HRX3.out w8).mono ?_
    rintro e w9 ⟨v9, rfl, hb9, ho9⟩
    obtain ⟨au, lu, cu, hvu⟩ : ∃ a l c, v9 = .slice a l c := by
      rcases ho9.out.2 with ⟨hv, _⟩ | ⟨gq, cq, _, hv, _⟩
      · exact ⟨_, _, _, hv⟩
      · exact ⟨_, _, _, hv⟩
    subst hvu
    obtain ⟨wa, hwa⟩ : ∃ wa, wa = w9.alloc (.cells #[.int .i64 mid, .bool mans, .bool mcut, .int .i64 mcode, .string mR, .int .i64 mtyp, .slice au lu cu] 30) := ⟨_, rfl⟩
    have hb9a : Below w9.heap.size w9 wa := by rw [hwa]; exact (Below.refl _ _).alloc (Nat.le_refl _) _
    have HGY : Hid (wa.heap[w9.heap.size]? = some (.cells #[.int .i64 mid, .bool mans, .bool mcut, .int .i64 mcode, .string mR, .int .i64 mtyp, .slice au lu cu] 30 (0, 0))) := (show _ = _ by rw [hwa]; exact heap_alloc_new w9 _)
    have hl8 := (Array.getElem?_eq_some_iff.1 HG8.out).1
    have HGX : Hid (wa.heap[w6.heap.size]? = some (.cells #[.int .i64 mid, .bool mans, .bool mcut, .int .i64 mcode, .string mR, .int .i64 mtyp, .slice av lv cv] 30 (0, 0))) := ((hb9a.block _ (Nat.lt_of_lt_of_le hl8 hb9.size)).trans (hb9.block _ hl8)).trans HG8.out
    have HSA : Hid (Rc.Sl wa (.slice av lv cv) mrs) := (HO8.out.below hb9).below hb9a
    have HSB : Hid (Rc.Sl wa (.slice au lu cu) mrs) := ((ho9.out.below hb9a).sl HMO.out)
    have HBA : Hid (Below w.heap.size w wa) := (HB8.out.trans (hb9.mono HB8.out.size)).trans (hb9a.mono (Nat.le_trans HB8.out.size hb9.size))
    clear ho9 hb9a hb9 hl8 HG8 HO8 HRX3
    have x0 : (w9.alloc (.cells #[.int .i64 mid, .bool mans, .bool mcut, .int .i64 mcode, .string mR, .int .i64 mtyp, .slice au lu cu] 30)).cell? ⟨w6.heap.size, 0, none⟩ = some (.int .i64 mid) := by rw [← hwa]; exact cellsAt HGX.out 0
    have x1 : (w9.alloc (.cells #[.int .i64 mid, .bool mans, .bool mcut, .int .i64 mcode, .string mR, .int .i64 mtyp, .slice au lu cu] 30)).cell? ⟨w6.heap.size, 1, none⟩ = some (.bool mans) := by rw [← hwa]; exact cellsAt HGX.out 1
    have x2 : (w9.alloc (.cells #[.int .i64 mid, .bool mans, .bool mcut, .int .i64 mcode, .string mR, .int .i64 mtyp, .slice au lu cu] 30)).cell? ⟨w6.heap.size, 2, none⟩ = some (.bool mcut) := by rw [← hwa]; exact cellsAt HGX.out 2
    have x3 : (w9.alloc (.cells #[.int .i64 mid, .bool mans, .bool mcut, .int .i64 mcode, .string mR, .int .i64 mtyp, .slice au lu cu] 30)).cell? ⟨w6.heap.size, 3, none⟩ = some (.int .i64 mcode) := by rw [← hwa]; exact cellsAt HGX.out 3
    have x4 : (w9.alloc (.cells #[.int .i64 mid, .bool mans, .bool mcut, .int .i64 mcode, .string mR, .int .i64 mtyp, .slice au lu cu] 30)).cell? ⟨w6.heap.size, 4, none⟩ = some (.string mR) := by rw [← hwa]; exact cellsAt HGX.out 4
    have x5 : (w9.alloc (.cells #[.int .i64 mid, .bool mans, .bool mcut, .int .i64 mcode, .string mR, .int .i64 mtyp, .slice au lu cu] 30)).cell? ⟨w6.heap.size, 5, none⟩ = some (.int .i64 mtyp) := by rw [← hwa]; exact cellsAt HGX.out 5
    have x6 : (w9.alloc (.cells #[.int .i64 mid, .bool mans, .bool mcut, .int .i64 mcode, .string mR, .int .i64 mtyp, .slice au lu cu] 30)).cell? ⟨w6.heap.size, 6, none⟩ = some (.slice av lv cv) := by rw [← hwa]; exact cellsAt HGX.out 6
    have y0 : (w9.alloc (.cells #[.int .i64 mid, .bool mans, .bool mcut, .int .i64 mcode, .string mR, .int .i64 mtyp, .slice au lu cu] 30)).cell? ⟨w9.heap.size, 0, none⟩ = some (.int .i64 mid) := by rw [← hwa]; exact cellsAt HGY.out 0
    have y1 : (w9.alloc (.cells #[.int .i64 mid, .bool mans, .bool mcut, .int .i64 mcode, .string mR, .int .i64 mtyp, .slice au lu cu] 30)).cell? ⟨w9.heap.size, 1, none⟩ = some (.bool mans) := by rw [← hwa]; exact cellsAt HGY.out 1
    have y2 : (w9.alloc (.cells #[.int .i64 mid, .bool mans, .bool mcut, .int .i64 mcode, .string mR, .int .i64 mtyp, .slice au lu cu] 30)).cell? ⟨w9.heap.size, 2, none⟩ = some (.bool mcut) := by rw [← hwa]; exact cellsAt HGY.out 2
    have y3 : (w9.alloc (.cells #[.int .i64 mid, .bool mans, .bool mcut, .int .i64 mcode, .string mR, .int .i64 mtyp, .slice au lu cu] 30)).cell? ⟨w9.heap.size, 3, none⟩ = some (.int .i64 mcode) := by rw [← hwa]; exact cellsAt HGY.out 3
    have y4 : (w9.alloc (.cells #[.int .i64 mid, .bool mans, .bool mcut, .int .i64 mcode, .string mR, .int .i64 mtyp, .slice au lu cu] 30)).cell? ⟨w9.heap.size, 4, none⟩ = some (.string mR) := by rw [← hwa]; exact cellsAt HGY.out 4
    have y5 : (w9.alloc (.cells #[.int .i64 mid, .bool mans, .bool mcut, .int .i64 mcode, .string mR, .int .i64 mtyp, .slice au lu cu] 30)).cell? ⟨w9.heap.size, 5, none⟩ = some (.int .i64 mtyp) := by rw [← hwa]; exact cellsAt HGY.out 5
    have y6 : (w9.alloc (.cells #[.int .i64 mid, .bool mans, .bool mcut, .int .i64 mcode, .string mR, .int .i64 mtyp, .slice au lu cu] 30)).cell? ⟨w9.heap.size, 6, none⟩ = some (.slice au lu cu) := by rw [← hwa]; exact cellsAt HGY.out 6
    go_wp2_with fail
    rw [← hwa]
    clear hwa
    refine (HSX.out _ _ wa HSA.out HSB.out).mono ?_
    rintro e wz ⟨rfl, hbz⟩
    have HBZ : Hid (Below w.heap.size w wz) := HBA.out.trans (hbz.mono HBA.out.size)
    clear hbz
    go_wp2_with fail
    go_ret
    exact ⟨rfl, HBZ.out⟩
  · have h1 : (WE == 0) = false := by simpa using h0
    have h1' : (WE != 0) = true := by simpa using h0
    go_wp2_with fail
    refine (HRB.out w2).mono ?_
    rintro e w6 ⟨hb6, ⟨M, v6, hM, hl, hc, rfl, ho⟩ | ⟨E, hE, hE2, rfl⟩⟩
    rotate_left
    · have HB6 : Hid (Below w.heap.size w w6) := HB2.out.trans (hb6.mono HB2.out.size)
      have h1 : (E != 0) = true := by rw [hE]; split <;> rfl
      clear hE hE2 hb6
      go_wp2_with fail
      go_ret
      exact ⟨rfl, HB6.out.alloc HB6.out.size _⟩
    have HB6 : Hid (Below w.heap.size w w6) := HB2.out.trans (hb6.mono HB2.out.size)
    have hz6 : w2.heap.size ≤ w6.heap.size := hb6.size
    obtain ⟨mid, mcode, mtyp, mans, mcut, mR, mrs⟩ := M
    simp only at hc ho ⊢
    have hcf := chkMsg_facts hc
    have HMO : Hid (∀ j, (mrs.getD j Rc.dm).ok) := recs_ok hcf.2.2
    have hmR : mR.size ≤ maxLen := by have := (labs_ok hcf.2.1).2.2; unfold maxLen; omega
    have hm20 : mrs.length ≤ 1000 := by have := hcf.1; omega
    have HWE : Hid (wrE mid mcode mtyp mans mcut mR mrs = 0 ∨ wrE mid mcode mtyp mans mcut mR mrs = 2) := (show _ ∨ _ by unfold wrE; rw [if_pos hc]; split; exact .inr rfl; exact .inl rfl)
    have HWX : Hid (∀ u W, Below w.heap.size w W → Rc.Sl W u mrs → Calls Tryd.prog 12 #[.agg #[.int .i64 mid, .bool mans, .bool mcut, .int .i64 mcode, .string mR, .int .i64 mtyp, u]] W fun e w' => e = .returned (.tuple #[.string (wrT mid mcode mtyp mans mcut mR mrs), .int .i64 (wrE mid mcode mtyp mans mcut mR mrs)]) ∧ Below W.heap.size W w') := fun u W hW hu => write_any mid mcode mtyp mans mcut mR mrs u W (HML.out.below hW) hmR hu
    have HRX : Hid (wrE mid mcode mtyp mans mcut mR mrs = 0 → ∀ W, Calls Tryd.prog 16 #[.string (wrT mid mcode mtyp mans mcut mR mrs)] W fun e w' => ∃ v, e = .returned (.tuple #[.agg #[.int .i64 mid, .bool mans, .bool mcut, .int .i64 mcode, .string mR, .int .i64 mtyp, v], .int .i64 0]) ∧ Below W.heap.size W w' ∧ Hid (Rc.Own W.heap.size w' v mrs)) := fun h W => read_wrote h W
    have HSX : Hid (∀ va vb W, Rc.Sl W va mrs → Rc.Sl W vb mrs → Calls Tryd.prog 18 #[.agg #[.int .i64 mid, .bool mans, .bool mcut, .int .i64 mcode, .string mR, .int .i64 mtyp, va], .agg #[.int .i64 mid, .bool mans, .bool mcut, .int .i64 mcode, .string mR, .int .i64 mtyp, vb]] W fun e w' => e = .returned (.bool true) ∧ Below W.heap.size W w') := fun va vb W ha hb => sameMsg_ok mid mcode mtyp mans mcut mR mrs va vb W ha hb hm20
    clear hM hl hc hcf hmR hm20 hb6
    generalize wrT mid mcode mtyp mans mcut mR mrs = XT at *
    generalize wrE mid mcode mtyp mans mcut mR mrs = XE at *
    obtain ⟨av, lv, cv, hvv⟩ : ∃ a l c, v6 = .slice a l c := by
      rcases ho.out.2 with ⟨hv, _⟩ | ⟨gq, cq, _, hv, _⟩
      · exact ⟨_, _, _, hv⟩
      · exact ⟨_, _, _, hv⟩
    subst hvv
    obtain ⟨w7, hw7⟩ : ∃ w7, w7 = w6.alloc (.cells #[.int .i64 mid, .bool mans, .bool mcut, .int .i64 mcode, .string mR, .int .i64 mtyp, .slice av lv cv] 30) := ⟨_, rfl⟩
    have hb67 : Below w6.heap.size w6 w7 := by rw [hw7]; exact (Below.refl _ _).alloc (Nat.le_refl _) _
    have HG7 : Hid (w7.heap[w6.heap.size]? = some (.cells #[.int .i64 mid, .bool mans, .bool mcut, .int .i64 mcode, .string mR, .int .i64 mtyp, .slice av lv cv] 30 (0, 0))) := (show _ = _ by rw [hw7]; exact heap_alloc_new w6 _)
    have HO7 : Hid (Rc.Sl w7 (.slice av lv cv) mrs) := ((ho.out.below hb67).sl HMO.out)
    have HB7 : Hid (Below w.heap.size w w7) := HB6.out.trans (hb67.mono HB6.out.size)
    clear ho hb67
    go_wp2_with fail
    rw [← hw7]
    clear hw7
    have x0 : w7.cell? ⟨w6.heap.size, 0, none⟩ = some (.int .i64 mid) := cellsAt HG7.out 0
    have x1 : w7.cell? ⟨w6.heap.size, 1, none⟩ = some (.bool mans) := cellsAt HG7.out 1
    have x2 : w7.cell? ⟨w6.heap.size, 2, none⟩ = some (.bool mcut) := cellsAt HG7.out 2
    have x3 : w7.cell? ⟨w6.heap.size, 3, none⟩ = some (.int .i64 mcode) := cellsAt HG7.out 3
    have x4 : w7.cell? ⟨w6.heap.size, 4, none⟩ = some (.string mR) := cellsAt HG7.out 4
    have x5 : w7.cell? ⟨w6.heap.size, 5, none⟩ = some (.int .i64 mtyp) := cellsAt HG7.out 5
    have x6 : w7.cell? ⟨w6.heap.size, 6, none⟩ = some (.slice av lv cv) := cellsAt HG7.out 6
    go_wp2_with fail
    refine (HWX.out _ w7 HB7.out HO7.out).mono ?_
    rintro e w8 ⟨rfl, hb8⟩
    have HB8 : Hid (Below w.heap.size w w8) := HB7.out.trans (hb8.mono HB7.out.size)
    have HG8 : Hid (w8.heap[w6.heap.size]? = some (.cells #[.int .i64 mid, .bool mans, .bool mcut, .int .i64 mcode, .string mR, .int .i64 mtyp, .slice av lv cv] 30 (0, 0))) := (hb8.block _ (Array.getElem?_eq_some_iff.1 HG7.out).1).trans HG7.out
    have HO8 : Hid (Rc.Sl w8 (.slice av lv cv) mrs) := HO7.out.below hb8
    clear hb8 HWX HG7 HO7 HB7 x0 x1 x2 x3 x4 x5 x6
    rcases HWE.out with h0 | h2
    rotate_left
    · subst h2
      go_wp2_with fail
      go_ret
      exact ⟨rfl, HB8.out⟩
    have HRX2 := HRX.out h0
    have HRX3 : Hid (∀ W, Calls Tryd.prog 16 #[.string XT] W fun e w' => ∃ v, e = .returned (.tuple #[.agg #[.int .i64 mid, .bool mans, .bool mcut, .int .i64 mcode, .string mR, .int .i64 mtyp, v], .int .i64 0]) ∧ Below W.heap.size W w' ∧ Hid (Rc.Own W.heap.size w' v mrs)) := HRX2
    clear HRX HRX2 HWE
    subst h0
    go_wp2_with fail
    refine (HRX3.out w8).mono ?_
    rintro e w9 ⟨v9, rfl, hb9, ho9⟩
    obtain ⟨au, lu, cu, hvu⟩ : ∃ a l c, v9 = .slice a l c := by
      rcases ho9.out.2 with ⟨hv, _⟩ | ⟨gq, cq, _, hv, _⟩
      · exact ⟨_, _, _, hv⟩
      · exact ⟨_, _, _, hv⟩
    subst hvu
    obtain ⟨wa, hwa⟩ : ∃ wa, wa = w9.alloc (.cells #[.int .i64 mid, .bool mans, .bool mcut, .int .i64 mcode, .string mR, .int .i64 mtyp, .slice au lu cu] 30) := ⟨_, rfl⟩
    have hb9a : Below w9.heap.size w9 wa := by rw [hwa]; exact (Below.refl _ _).alloc (Nat.le_refl _) _
    have HGY : Hid (wa.heap[w9.heap.size]? = some (.cells #[.int .i64 mid, .bool mans, .bool mcut, .int .i64 mcode, .string mR, .int .i64 mtyp, .slice au lu cu] 30 (0, 0))) := (show _ = _ by rw [hwa]; exact heap_alloc_new w9 _)
    have hl8 := (Array.getElem?_eq_some_iff.1 HG8.out).1
    have HGX : Hid (wa.heap[w6.heap.size]? = some (.cells #[.int .i64 mid, .bool mans, .bool mcut, .int .i64 mcode, .string mR, .int .i64 mtyp, .slice av lv cv] 30 (0, 0))) := ((hb9a.block _ (Nat.lt_of_lt_of_le hl8 hb9.size)).trans (hb9.block _ hl8)).trans HG8.out
    have HSA : Hid (Rc.Sl wa (.slice av lv cv) mrs) := (HO8.out.below hb9).below hb9a
    have HSB : Hid (Rc.Sl wa (.slice au lu cu) mrs) := ((ho9.out.below hb9a).sl HMO.out)
    have HBA : Hid (Below w.heap.size w wa) := (HB8.out.trans (hb9.mono HB8.out.size)).trans (hb9a.mono (Nat.le_trans HB8.out.size hb9.size))
    clear ho9 hb9a hb9 hl8 HG8 HO8 HRX3
    have x0 : (w9.alloc (.cells #[.int .i64 mid, .bool mans, .bool mcut, .int .i64 mcode, .string mR, .int .i64 mtyp, .slice au lu cu] 30)).cell? ⟨w6.heap.size, 0, none⟩ = some (.int .i64 mid) := by rw [← hwa]; exact cellsAt HGX.out 0
    have x1 : (w9.alloc (.cells #[.int .i64 mid, .bool mans, .bool mcut, .int .i64 mcode, .string mR, .int .i64 mtyp, .slice au lu cu] 30)).cell? ⟨w6.heap.size, 1, none⟩ = some (.bool mans) := by rw [← hwa]; exact cellsAt HGX.out 1
    have x2 : (w9.alloc (.cells #[.int .i64 mid, .bool mans, .bool mcut, .int .i64 mcode, .string mR, .int .i64 mtyp, .slice au lu cu] 30)).cell? ⟨w6.heap.size, 2, none⟩ = some (.bool mcut) := by rw [← hwa]; exact cellsAt HGX.out 2
    have x3 : (w9.alloc (.cells #[.int .i64 mid, .bool mans, .bool mcut, .int .i64 mcode, .string mR, .int .i64 mtyp, .slice au lu cu] 30)).cell? ⟨w6.heap.size, 3, none⟩ = some (.int .i64 mcode) := by rw [← hwa]; exact cellsAt HGX.out 3
    have x4 : (w9.alloc (.cells #[.int .i64 mid, .bool mans, .bool mcut, .int .i64 mcode, .string mR, .int .i64 mtyp, .slice au lu cu] 30)).cell? ⟨w6.heap.size, 4, none⟩ = some (.string mR) := by rw [← hwa]; exact cellsAt HGX.out 4
    have x5 : (w9.alloc (.cells #[.int .i64 mid, .bool mans, .bool mcut, .int .i64 mcode, .string mR, .int .i64 mtyp, .slice au lu cu] 30)).cell? ⟨w6.heap.size, 5, none⟩ = some (.int .i64 mtyp) := by rw [← hwa]; exact cellsAt HGX.out 5
    have x6 : (w9.alloc (.cells #[.int .i64 mid, .bool mans, .bool mcut, .int .i64 mcode, .string mR, .int .i64 mtyp, .slice au lu cu] 30)).cell? ⟨w6.heap.size, 6, none⟩ = some (.slice av lv cv) := by rw [← hwa]; exact cellsAt HGX.out 6
    have y0 : (w9.alloc (.cells #[.int .i64 mid, .bool mans, .bool mcut, .int .i64 mcode, .string mR, .int .i64 mtyp, .slice au lu cu] 30)).cell? ⟨w9.heap.size, 0, none⟩ = some (.int .i64 mid) := by rw [← hwa]; exact cellsAt HGY.out 0
    have y1 : (w9.alloc (.cells #[.int .i64 mid, .bool mans, .bool mcut, .int .i64 mcode, .string mR, .int .i64 mtyp, .slice au lu cu] 30)).cell? ⟨w9.heap.size, 1, none⟩ = some (.bool mans) := by rw [← hwa]; exact cellsAt HGY.out 1
    have y2 : (w9.alloc (.cells #[.int .i64 mid, .bool mans, .bool mcut, .int .i64 mcode, .string mR, .int .i64 mtyp, .slice au lu cu] 30)).cell? ⟨w9.heap.size, 2, none⟩ = some (.bool mcut) := by rw [← hwa]; exact cellsAt HGY.out 2
    have y3 : (w9.alloc (.cells #[.int .i64 mid, .bool mans, .bool mcut, .int .i64 mcode, .string mR, .int .i64 mtyp, .slice au lu cu] 30)).cell? ⟨w9.heap.size, 3, none⟩ = some (.int .i64 mcode) := by rw [← hwa]; exact cellsAt HGY.out 3
    have y4 : (w9.alloc (.cells #[.int .i64 mid, .bool mans, .bool mcut, .int .i64 mcode, .string mR, .int .i64 mtyp, .slice au lu cu] 30)).cell? ⟨w9.heap.size, 4, none⟩ = some (.string mR) := by rw [← hwa]; exact cellsAt HGY.out 4
    have y5 : (w9.alloc (.cells #[.int .i64 mid, .bool mans, .bool mcut, .int .i64 mcode, .string mR, .int .i64 mtyp, .slice au lu cu] 30)).cell? ⟨w9.heap.size, 5, none⟩ = some (.int .i64 mtyp) := by rw [← hwa]; exact cellsAt HGY.out 5
    have y6 : (w9.alloc (.cells #[.int .i64 mid, .bool mans, .bool mcut, .int .i64 mcode, .string mR, .int .i64 mtyp, .slice au lu cu] 30)).cell? ⟨w9.heap.size, 6, none⟩ = some (.slice au lu cu) := by rw [← hwa]; exact cellsAt HGY.out 6
    go_wp2_with fail
    rw [← hwa]
    clear hwa
    refine (HSX.out _ _ wa HSA.out HSB.out).mono ?_
    rintro e wz ⟨rfl, hbz⟩
    have HBZ : Hid (Below w.heap.size w wz) := HBA.out.trans (hbz.mono HBA.out.size)
    clear hbz
    go_wp2_with fail
    go_ret
    exact ⟨rfl, HBZ.out⟩

end Go.Proofs.YtogmkdhljifbpaaDoor

/- The document's reader: numbers. -/
namespace Go.Proofs.YtogmkdhljifbpaaDoor
open Go.RowKit

/-- AtW k lies the document's reader of t, at a; bad or not. -/
def IsC (k : Nat) (t : ByteArray) (a : Nat) (bad : Bool) (W : World) : Prop := W.heap[k]? = some (.cells #[.string t, .int .i64 a, .bool bad] 62 (0, 0))
theorem IsC.lt {k a : Nat} {t : ByteArray} {bad : Bool} {W : World} (h : IsC k t a bad W) : k < W.heap.size := (Array.getElem?_eq_some_iff.1 h).1
theorem IsC.rd {k g a : Nat} {t : ByteArray} {bad : Bool} {W W' : World} (h : IsC k t a bad W) (h2 : Rd g W W') (hne : k ≠ g) : IsC k t a bad W' := (h2.block k h.lt hne).trans h
theorem IsC.drewN {k a : Nat} {t : ByteArray} {bad : Bool} {W : World} (h : IsC k t a bad W) (m : Nat) : IsC k t a bad (W.drewN m) := h
theorem IsC.at {k a : Nat} {t : ByteArray} {bad : Bool} {W : World} (h : IsC k t a bad W) (b : Nat) : IsC k t b bad (W.setCell ⟨k, 1, none⟩ (.int .i64 b)) := Joins.block_setCell (i := 1) h (.int .i64 b)
theorem IsC.spoil {k a : Nat} {t : ByteArray} {bad : Bool} {W : World} (h : IsC k t a bad W) (b : Bool) : IsC k t a b (W.setCell ⟨k, 2, none⟩ (.bool b)) := Joins.block_setCell (i := 2) h (.bool b)

theorem wrap_digit (x y : Nat) (hx : x < 16777216) (hy : y < 256) : wrap64 (256 * (x : Int) + wrap64 (y : Int)) = ((x * 256 + y : Nat) : Int) := by
  have h1 : wrap64 (y : Int) = (y : Int) := by unfold wrap64; omega
  rw [h1]
  unfold wrap64
  omega

set_option maxHeartbeats 1600000 in
set_option maxRecDepth 100000 in
theorem snum_b (k a n : Nat) (t : ByteArray) (bad : Bool) (w : World) (h : IsC k t a bad w) (hs : t.size ≤ 1000) (hn : n ≤ 4) (hn0 : 0 < n) (ha : a ≤ 20000) :
    Calls Tryd.prog 39 #[.pointer (some ⟨k, 0, none⟩), .int .i64 n] w fun e w' => Hid (Rd k w w') ∧ ((a + n ≤ t.size ∧ e = .returned (.int .i64 (rnum t a n)) ∧ Hid (IsC k t (a + n) bad w')) ∨ (¬ a + n ≤ t.size ∧ e = .returned (.int .i64 0) ∧ ∃ b, t.size ≤ b ∧ b ≤ 20000 ∧ Hid (IsC k t b true w'))) := by
  have HI : Hid (IsC k t a bad w) := h
  clear h
  go_enter Tryd.func39, Tryd.ntmps39
  go_wp2_with fail
  go_loopw [5, 6] (fun vn vi wr => ∃ (j x : Nat), vn = .int .i64 x ∧ vi = .int .i64 j ∧ j ≤ n ∧ (j = 0 ∨ a + j ≤ t.size) ∧ Hid (x = rnum t a j) ∧ Hid (IsC k t (a + j) bad wr) ∧ Hid (Rd k w wr)) (fun _ vi _ => n - (intOf vi).toNat)
  case atStart => exact ⟨0, 0, rfl, rfl, by omega, .inl rfl, rfl, HI, Rd.refl _ _⟩
  case round =>
    obtain ⟨j, x, rfl, rfl, hj, hja, HX, HC, HD⟩ := hrel
    by_cases hjn : j < n
    · have hc : decide ((j : Int) < (n : Int)) = true := by simp; omega
      have c0 : wr.cell? ⟨k, 0, none⟩ = some (.string t) := cellsAt HC.out 0
      have c1 : wr.cell? ⟨k, 1, none⟩ = some (.int .i64 ((a + j : Nat) : Int)) := cellsAt HC.out 1
      have c2 : wr.cell? ⟨k, 2, none⟩ = some (.bool bad) := cellsAt HC.out 2
      have z1 : wr.frozen? ⟨k, 1, none⟩ = false := frozenAt HC.out 1
      have z2 : wr.frozen? ⟨k, 2, none⟩ = false := frozenAt HC.out 2
      by_cases hlt : a + j < t.size
      · have hg : decide ((t.size : Int) ≤ ((a + j : Nat) : Int)) = false := by simp; omega
        generalize hb : a + j = b at *
        have hi0 : (0 : Int) ≤ (b : Int) := by omega
        have hi1 : (b : Int) < (t.size : Int) := by omega
        have hi2 : ((b : Int)).toNat = b := by omega
        have hxl : x < 16777216 := by
          have h := rnum_lt t a j
          have h3 : (256 : Nat) ^ j ≤ 256 ^ 3 := Nat.pow_le_pow_right (by omega) (by omega)
          rw [← HX.out] at h
          omega
        have hw1 : IntKind.i64.wrap (256 * (x : Int)) = 256 * (x : Int) := by rw [IntKind.wrap_i64]; omega
        go_wp2_with fail
        go_quiet (fail)
        go_wp2_with fail
        go_quiet (fail)
        go_wp2_with fail
        have hbl := t[b].toNat_lt
        refine ⟨⟨j + 1, x * 256 + t[b].toNat, ?_, by simp, by omega, .inr (by omega), ?_, ?_, ?_⟩, by simp [intOf]; omega⟩
        · exact congrArg (Value.int .i64) (wrap_digit x _ hxl hbl)
        · show _ = _
          have h2 : t.data[b]? = some t[b] := by
            have h3 : b < t.data.size := hlt
            rw [Array.getElem?_eq_getElem h3]; rfl
          simp only [rnum, hb, h2, Option.getD_some, HX.out]
        · show IsC _ _ _ _ _
          rw [show a + (j + 1) = b + 1 by omega]
          exact (HC.out.drewN _).at (b + 1)
        · exact (HD.out.trans (rd_drewN k wr _)).here 1 _
      · have hg : decide ((t.size : Int) ≤ ((a + j : Nat) : Int)) = true := by simp; omega
        generalize hb : a + j = b at *
        go_wp2_with fail
        go_quiet (fail)
        go_wp2_with fail
        go_ret
        exact ⟨(HD.out.trans (rd_drewN k wr _)).here 2 _, .inr ⟨by omega, rfl, b, by omega, by omega, (HC.out.drewN _).spoil true⟩⟩
    · have hc : decide ((j : Int) < (n : Int)) = false := by simp; omega
      have hjn2 : j = n := by omega
      subst hjn2
      go_wp2_with fail
      go_ret
      exact ⟨HD.out, .inl ⟨by omega, by rw [HX.out]; rfl, HC.out⟩⟩

end Go.Proofs.YtogmkdhljifbpaaDoor

/- The document's NameOf. -/
namespace Go.Proofs.YtogmkdhljifbpaaDoor
open Go.RowKit

theorem jn_snoc : ∀ (xs : List (List UInt8)) (y : List UInt8), xs ≠ [] → jn (xs ++ [y]) = jn xs ++ 46 :: y
  | [], _, h => absurd rfl h
  | [x], y, _ => by simp [jn]
  | x :: z :: r, y, _ => by
    have ih := jn_snoc (z :: r) y (by simp)
    simp only [List.cons_append, jn] at ih ⊢
    rw [ih]
    simp

theorem jn_take (ls : List ByteArray) (j : Nat) (h : j < ls.length) : mk (jn ((ls.take (j + 1)).map bts)) = if j = 0 then ls.getD j ByteArray.empty else mk (jn ((ls.take j).map bts)) ++ ⟨#[46]⟩ ++ ls.getD j ByteArray.empty := by
  have hg : ls.getD j ByteArray.empty = ls[j] := by simp [List.getD, List.getElem?_eq_getElem h]
  rw [hg, List.take_succ_eq_append_getElem h, List.map_append]
  by_cases h0 : j = 0
  · subst h0
    simp [jn, mk]
  · rw [if_neg h0, List.map_singleton, jn_snoc _ _ (by intro e; have h5 := congrArg List.length e; rw [List.length_map, List.length_take, List.length_nil] at h5; omega)]
    apply ba_ext
    simp [mk]

set_option maxHeartbeats 1600000 in
set_option maxRecDepth 100000 in
theorem nameOf_nil (w : World) : Calls Tryd.prog 61 #[.slice none 0 0] w fun e w' => e = .returned (.string ⟨#[]⟩) ∧ w' = w := by
  go_enter Tryd.func61, Tryd.ntmps61
  go_wp2_with fail
  go_loopw [3, 4] (fun vs vi wr => vs = .string ⟨#[]⟩ ∧ vi = .int .i64 0 ∧ wr = w) (fun _ _ _ => 0)
  case atStart => exact ⟨rfl, rfl, rfl⟩
  case round =>
    obtain ⟨rfl, rfl, rfl⟩ := hrel
    go_wp2_with fail
    go_ret
    exact ⟨rfl, rfl⟩

set_option maxHeartbeats 1600000 in
set_option maxRecDepth 100000 in
theorem nameOf_some (g c : Nat) (ls : List ByteArray) (w : World) (hcell : ∀ j, j < ls.length → w.cell? ⟨g, j, none⟩ = some (.string (ls.getD j ByteArray.empty))) (hn : ls.length ≤ 9) (hz : ∀ l ∈ ls, l.size ≤ 30) :
    Calls Tryd.prog 61 #[.slice (some ⟨g, 0, none⟩) ls.length c] w fun e w' => e = .returned (.string (mk (jn (ls.map bts)))) ∧ w' = w := by
  have HT : Hid (∀ j, j < ls.length → mk (jn ((ls.take (j + 1)).map bts)) = if j = 0 then ls.getD j ByteArray.empty else mk (jn ((ls.take j).map bts)) ++ ⟨#[46]⟩ ++ ls.getD j ByteArray.empty) := fun j h => jn_take ls j h
  have HE : Hid (mk (jn ((ls.take ls.length).map bts)) = mk (jn (ls.map bts))) := (show _ = _ by rw [List.take_length])
  have HC : Hid (∀ j, j < ls.length → w.cell? ⟨g, j, none⟩ = some (.string (ls.getD j ByteArray.empty))) := hcell
  clear hcell
  generalize mk (jn (ls.map bts)) = RR at *
  have HZ : Hid (mk (jn ((ls.take 0).map bts)) = ⟨#[]⟩) := rfl
  obtain ⟨P, hP⟩ : ∃ P : Nat → ByteArray, ∀ j, P j = mk (jn ((ls.take j).map bts)) := ⟨_, fun _ => rfl⟩
  have HT2 : Hid (∀ j, j < ls.length → P (j + 1) = if j = 0 then ls.getD j ByteArray.empty else P j ++ ⟨#[46]⟩ ++ ls.getD j ByteArray.empty) := fun j h => by rw [hP, hP]; exact HT.out j h
  have HE2 : Hid (P ls.length = RR) := (hP _).trans HE.out
  have HZ2 : Hid (P 0 = ⟨#[]⟩) := (hP _).trans HZ.out
  have HS : Hid (∀ j, j ≤ ls.length → (P j).size ≤ 1000) := fun j hj => by
    rw [hP, mk_size]
    have h1 := jn_len (ls.take j) (fun l hl => hz l (List.mem_of_mem_take hl))
    rw [List.length_take] at h1
    omega
  have HL : Hid (∀ j, j < ls.length → (ls.getD j ByteArray.empty).size ≤ 30) := fun j hj => by
    rw [show ls.getD j ByteArray.empty = ls[j] by simp [List.getD, List.getElem?_eq_getElem hj]]
    exact hz _ (List.getElem_mem hj)
  clear hP HT HE HZ hz
  go_enter Tryd.func61, Tryd.ntmps61
  go_wp2_with fail
  go_loopw [3, 4] (fun vs vi wr => ∃ j x, vs = .string x ∧ vi = .int .i64 (j : Nat) ∧ j ≤ ls.length ∧ Hid (x = P j) ∧ wr = w) (fun _ vi _ => ls.length - (intOf vi).toNat)
  case atStart => exact ⟨0, _, rfl, rfl, by omega, HZ2.out.symm, rfl⟩
  case round =>
    obtain ⟨j, x, rfl, rfl, hj, HX, hwr⟩ := hrel
    subst hwr
    by_cases hjn : j < ls.length
    · have hd : decide ((j : Int) < (ls.length : Int)) = true := by simp; omega
      have hcl := HC.out j hjn
      have HT3 := HT2.out j hjn
      have HT4 : Hid (P (j + 1) = if j = 0 then ls.getD j ByteArray.empty else P j ++ ⟨#[46]⟩ ++ ls.getD j ByteArray.empty) := HT3
      clear HT3
      have hls := HL.out j hjn
      have hxs := HS.out j hj
      rw [← HX.out] at hxs
      generalize ls.getD j ByteArray.empty = l at *
      have k1 : ¬ 9223372036854775807 < x.size + l.size := by omega
      have k2 : ¬ 9223372036854775807 < x.size + 1 := by omega
      have k3 : ¬ 9223372036854775807 < x.size + 1 + l.size := by omega
      have hi0 : (0 : Int) ≤ (j : Int) := by omega
      have hi1 : (j : Int) < (ls.length : Int) := by omega
      have hi2 : ((j : Int)).toNat = j := by omega
      by_cases h0 : j = 0
      · subst h0
        have HX1 : Hid (x = ⟨#[]⟩) := HX.out.trans HZ2.out
        go_wp2_with fail
        refine ⟨⟨1, _, rfl, rfl, by omega, ?_, trivial⟩, by simp [intOf]; omega⟩
        show _ = _
        rw [HX1.out, HT4.out, if_pos rfl]
        apply ba_ext
        simp
      · have hp : decide ((0 : Int) < (j : Int)) = true := by simp; omega
        go_wp2_with fail
        refine ⟨⟨j + 1, _, rfl, by simp, by omega, ?_, trivial⟩, by simp [intOf]; omega⟩
        show _ = _
        rw [HT4.out, if_neg h0, HX.out]
    · have hd : decide ((j : Int) < (ls.length : Int)) = false := by simp; omega
      have hjn2 : j = ls.length := by omega
      have HX2 : Hid (x = RR) := (show _ = _ by rw [HX.out, hjn2]; exact HE2.out)
      clear hjn2
      go_wp2_with fail
      go_ret
      exact ⟨by rw [← HX2.out]; rfl, rfl⟩

/-- Some labels are made a name. -/
theorem nameOf_any (base : Nat) (ls : List ByteArray) (v : Value) (w : World) (ho : OwnS base w v ls) (hn : ls.length ≤ 9) (hz : ∀ l ∈ ls, l.size ≤ 30) :
    Calls Tryd.prog 61 #[v] w fun e w' => e = .returned (.string (mk (jn (ls.map bts)))) ∧ w' = w := by
  rcases ho.form with ⟨rfl, rfl⟩ | ⟨g, c, rfl, _, _, _, hcell⟩
  · exact nameOf_nil w
  · exact nameOf_some g c ls w hcell hn hz

end Go.Proofs.YtogmkdhljifbpaaDoor

/- The document's reader: a name where all is bad already; a text that is too long. -/
namespace Go.Proofs.YtogmkdhljifbpaaDoor
open Go.RowKit

set_option maxHeartbeats 1600000 in
set_option maxRecDepth 100000 in
theorem sname_bad (k a : Nat) (t : ByteArray) (w : World) (h : IsC k t a true w) :
    Calls Tryd.prog 40 #[.pointer (some ⟨k, 0, none⟩)] w fun e w' => e = .returned (.string ⟨#[]⟩) ∧ Hid (Rd k w w') ∧ Hid (IsC k t a true w') := by
  have c1 : w.cell? ⟨k, 1, none⟩ = some (.int .i64 a) := cellsAt h 1
  have HI : Hid (IsC k t a true w) := h
  clear h
  go_enter Tryd.func40, Tryd.ntmps40
  go_wp2_with fail
  go_loopw [3, 4, 5] (fun _ _ _ wr => Hid (IsC k t a true wr) ∧ Hid (Rd k w wr)) (fun _ _ _ _ => 0)
  case atStart => first | exact ⟨HI, Rd.refl _ _⟩ | exact ⟨HI.out.drewN _, rd_drewN _ _ _⟩
  case round =>
    obtain ⟨HC, HD⟩ := hrel
    have c2 : wr.cell? ⟨k, 2, none⟩ = some (.bool true) := cellsAt HC.out 2
    go_wp2_with fail
    go_ret
    exact ⟨rfl, HD, HC⟩

set_option maxHeartbeats 1600000 in
set_option maxRecDepth 100000 in
theorem mof_long (t : ByteArray) (w : World) (hl : ¬ t.size ≤ 512) :
    Calls Tryd.prog 17 #[.string t] w fun e w' => e = .returned (.tuple #[.agg zmsg, .int .i64 2]) ∧ Below w.heap.size w w' := by
  have hcmp : decide (512 < (t.size : Int)) = true := by simp; omega
  clear hl
  go_enter Tryd.func17, Tryd.ntmps17
  go_wp2_with fail
  refine bodyPost_ret (v := .tuple #[.agg zmsg, .int .i64 2]) ?_ rfl ⟨rfl, ?_⟩
  · simp [results, Tryd.results17, go_sem]
  · first | exact Below.refl _ _ | exact (Below.refl _ _).alloc (Nat.le_refl _) _ | exact ((Below.refl _ _).alloc (Nat.le_refl _) _).alloc (by simp) _

end Go.Proofs.YtogmkdhljifbpaaDoor

/- The document's reader: a label's letters. -/
namespace Go.Proofs.YtogmkdhljifbpaaDoor
open Go.RowKit

/-- i letters of a label of f letters that stands behind b are read, as x; or the text has ended. -/
def Lb (k b f : Nat) (t : ByteArray) (i : Nat) (x : ByteArray) (W : World) : Prop := x.size = i ∧ ((b + 1 + i ≤ t.size ∧ x = lwS (t.extract (b + 1) (b + 1 + i)) ∧ IsC k t (b + 1 + i) false W) ∨ (¬ b + 1 + f ≤ t.size ∧ ∃ q, q ≤ 20000 ∧ IsC k t q true W))
theorem Lb.ext {k b f i : Nat} {t x : ByteArray} {W W' : World} (h : Lb k b f t i x W) (hx : W.Extends W') : Lb k b f t i x W' := by
  obtain ⟨h1, ⟨h2, h3, h4⟩ | ⟨h2, q, h3, h4⟩⟩ := h
  · exact ⟨h1, .inl ⟨h2, h3, (hx.block k h4.lt).trans h4⟩⟩
  · exact ⟨h1, .inr ⟨h2, q, h3, (hx.block k h4.lt).trans h4⟩⟩
theorem snoc_size (x : ByteArray) (c : UInt8) : (x ++ ⟨#[c]⟩ : ByteArray).size = x.size + 1 := by rw [ByteArray.size_append]; rfl
theorem lwS_snoc (t : ByteArray) (b i : Nat) (h : b + 1 + i + 1 ≤ t.size) : lwS (t.extract (b + 1) (b + 1 + (i + 1))) = lwS (t.extract (b + 1) (b + 1 + i)) ++ ⟨#[lwb (t.data[b + 1 + i]?.getD 0)]⟩ := by
  apply ba_ext
  have hl : b + 1 + i < t.data.toList.length := by simp; omega
  have hd : t.data[b + 1 + i]? = some (t.data.toList[b + 1 + i]) := by
    have : t.data[b + 1 + i]? = t.data.toList[b + 1 + i]? := by simp
    rw [this, List.getElem?_eq_getElem hl]
  have e : ∀ m, (t.extract (b + 1) (b + 1 + m)).data.toList = (t.data.toList.drop (b + 1)).take m := fun m => by simp
  have hlen : i < (t.data.toList.drop (b + 1)).length := by rw [List.length_drop]; omega
  unfold lwS
  rw [data_mk, e, List.take_succ_eq_append_getElem hlen, List.map_append, List.getElem_drop, hd]
  simp [mk]

theorem lb_step (k b f i : Nat) (t x : ByteArray) (W : World) (h : Lb k b f t i x W) (hs : t.size ≤ 1000) (hi : i < f) :
    Calls Tryd.prog 39 #[.pointer (some ⟨k, 0, none⟩), .int .i64 1] W fun e w' => Hid (Rd k W w') ∧ ∃ v : UInt8, e = .returned (.int .i64 (v.toNat : Nat)) ∧ Hid (Lb k b f t (i + 1) (x ++ ⟨#[lwb v]⟩) w') := by
  have hr : ∀ a, rnum t a 1 = (t.data[a]?.getD 0).toNat := fun a => by simp [rnum]
  obtain ⟨h1, ⟨h2, h3, h4⟩ | ⟨h2, q, h3, h4⟩⟩ := h
  · refine (snum_b k (b + 1 + i) 1 t false W h4 hs (by omega) (by omega) (by omega)).mono ?_
    rintro e w' ⟨hd, ⟨hle, he, hc⟩ | ⟨hno, he, q, _, hq, hc⟩⟩
    · refine ⟨hd, t.data[b + 1 + i]?.getD 0, by rw [he, hr], (show Lb _ _ _ _ _ _ _ from ⟨by rw [snoc_size, h1], .inl ⟨by omega, ?_, hc.out⟩⟩)⟩
      rw [lwS_snoc t b i (by omega), h3]
    · exact ⟨hd, 0, he, (show Lb _ _ _ _ _ _ _ from ⟨by rw [snoc_size, h1], .inr ⟨by omega, q, hq, hc.out⟩⟩)⟩
  · refine (snum_b k q 1 t true W h4 hs (by omega) (by omega) h3).mono ?_
    rintro e w' ⟨hd, ⟨hle, he, hc⟩ | ⟨hno, he, q2, _, hq2, hc⟩⟩
    · exact ⟨hd, t.data[q]?.getD 0, by rw [he, hr], (show Lb _ _ _ _ _ _ _ from ⟨by rw [snoc_size, h1], .inr ⟨h2, q + 1, by omega, hc.out⟩⟩)⟩
    · exact ⟨hd, 0, he, (show Lb _ _ _ _ _ _ _ from ⟨by rw [snoc_size, h1], .inr ⟨h2, q2, hq2, hc.out⟩⟩)⟩

end Go.Proofs.YtogmkdhljifbpaaDoor

