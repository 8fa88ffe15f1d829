/- FL, HD -/
import Derived.Test.YtogmkdhljifbpaaDoorW15
import Derived.Test.YtogmkdhljifbpaaDoorW6
import Derived.Test.YtogmkdhljifbpaaDoorW16
/- What must be in any case; DnsChecks. -/
namespace Go.Proofs.YtogmkdhljifbpaaDoor
open Go.RowKit Go.Lib

abbrev nameAB : ByteArray := ⟨#[97, 46, 98]⟩
abbrev textAB : ByteArray := ⟨#[1, 2, 0, 0, 0, 1, 0, 0, 0, 0, 0, 0, 1, 97, 1, 98, 0, 0, 1, 0, 1]⟩
theorem textAB_is : (⟨(wmsgL 258 0 1 false false nameAB).toArray⟩ : ByteArray) = textAB := by kernel_rfl
theorem chkAB : chkN nameAB = 0 := by kernel_rfl
theorem lenAB : (wmsgL 258 0 1 false false nameAB).length = 21 := by kernel_rfl

theorem readsAB : Reads textAB 258 0 1 nameAB := ⟨fun g w h => by
  have h := rmessage_none g 258 0 1 17 [⟨#[97]⟩, ⟨#[98]⟩] textAB w h (by decide) (by kernel_rfl) (by kernel_rfl) (by kernel_rfl) (by kernel_rfl) (by kernel_rfl) (by kernel_rfl) (by kernel_rfl)
    ⟨by kernel_rfl, by decide, by kernel_rfl, by kernel_rfl, by decide, by kernel_rfl, by decide, by kernel_rfl⟩ (fun l hl => by
      simp only [List.mem_cons, List.not_mem_nil, or_false] at hl
      rcases hl with rfl | rfl <;> kernel_rfl) (by decide) (by decide) (by kernel_rfl) (by kernel_rfl) (by kernel_rfl) (by decide) (by kernel_rfl)
  exact h⟩

set_option maxHeartbeats 1600000 in
set_option maxRecDepth 100000 in
theorem dnsBegun_any (w : World) (hm : ML w) :
    Calls Tryd.prog 9 #[] w fun e w' => e = .returned (.bool true) ∧ Below w.heap.size w w' := by
  have HW : Hid (Calls Tryd.prog 12 #[msgV 258 0 1 false false nameAB] w fun e w' => e = .returned (.tuple #[.string textAB, .int .i64 0]) ∧ Below w.heap.size w w') := (show Calls _ _ _ _ _ by
    have h := write_none 258 0 1 false false nameAB w hm (by decide) (by decide) (by decide) chkAB (by decide) (by rw [lenAB]; omega)
    rw [textAB_is] at h
    exact h)
  have HR : Hid (∀ W, Calls Tryd.prog 16 #[.string textAB] W fun e w' => e = .returned (.tuple #[msgV 258 0 1 false false nameAB, .int .i64 0]) ∧ Below W.heap.size W w') := fun W => read_none 258 0 1 nameAB textAB W readsAB (by decide) (by decide) (by decide) (by decide) chkAB (by decide)
  have hsz : textAB.size = 21 := by kernel_rfl
  clear hm
  generalize textAB = T at *
  go_enter Tryd.func9, Tryd.ntmps9
  go_wp2_with fail
  refine HW.out.mono ?_
  rintro e w1 ⟨rfl, hb1⟩
  have HB1 : Hid (Below w.heap.size w w1) := hb1
  have hl1 := hb1.size
  clear hb1
  go_wp2_with fail
  refine (HR.out _).mono ?_
  rintro e w2 ⟨rfl, hb2⟩
  have HB2 : Hid (Below w.heap.size w w2) := HB1.out.trans (hb2.mono hl1)
  have hl2 := HB2.out.size
  clear hb2 HB1
  have h21 : ((T.size : Int) == 21) = true := by rw [hsz]; rfl
  go_wp2_with fail
  simp [bodyPost, results, Tryd.results9]
  exact HB2.out.alloc hl2 _

set_option maxHeartbeats 1600000 in
set_option maxRecDepth 100000 in
theorem dnsChecks_walk (s : ByteArray) (w : World) (hm : ML w) (hs : s.size ≤ 2000000) :
    Calls Tryd.prog 3 #[.string s] w fun e w' => e = .returned (.bool true) ∧ Below w.heap.size w w' := by
  have HB : Hid (Calls Tryd.prog 9 #[] w fun e w' => e = .returned (.bool true) ∧ Below w.heap.size w w') := dnsBegun_any w hm
  have HC : Hid (∀ W, Calls Tryd.prog 10 #[.string s] W fun e w' => e = .returned (.int .i64 (chkN s)) ∧ Below W.heap.size W w') := fun W => dnsCheck_any s W (by unfold maxLen; omega)
  have HR : Hid (∀ W, Calls Tryd.prog 11 #[.string s] W fun e w' => e = .returned (.int .i64 (chkN s)) ∧ Below W.heap.size W w') := fun W => rCheckName_any s W hs
  generalize chkN s = E at *
  clear hm hs
  go_enter Tryd.func3, Tryd.ntmps3
  go_wp2_with fail
  refine HB.out.mono ?_
  rintro e w1 ⟨rfl, hb1⟩
  have HB1 : Hid (Below w.heap.size w w1) := hb1
  have hl1 := hb1.size
  clear hb1
  go_wp2_with fail
  refine (HC.out _).mono ?_
  rintro e w2 ⟨rfl, hb2⟩
  have HB2 : Hid (Below w.heap.size w w2) := HB1.out.trans (hb2.mono hl1)
  have hl2 := HB2.out.size
  clear hb2 HB1
  go_wp2_with fail
  refine (HR.out _).mono ?_
  rintro e w3 ⟨rfl, hb3⟩
  have HB3 : Hid (Below w.heap.size w w3) := HB2.out.trans (hb3.mono hl2)
  clear hb3 HB2
  go_wp2_with fail
  go_ret
  exact ⟨rfl, HB3.out⟩

end Go.Proofs.YtogmkdhljifbpaaDoor

/- DnsBack. -/
namespace Go.Proofs.YtogmkdhljifbpaaDoor
open Go.RowKit

theorem wr_good {id code typ : Int} {ans cut : Bool} {R : ByteArray} {rs : List Rc.Rec} (h : wrE id code typ ans cut R rs = 0) : chkMsg id code typ R rs = 0 ∧ (wallL id code typ ans cut R rs).length ≤ 512 ∧ wrT id code typ ans cut R rs = ⟨(wallL id code typ ans cut R rs).toArray⟩ := by
  unfold wrE at h
  unfold wrT
  split at h
  · rename_i h1
    rw [if_pos h1]
    split at h
    · omega
    · rename_i h2
      exact ⟨h1, by omega, by rw [if_neg h2]⟩
  · rename_i h1
    exact absurd h h1
/-- What Write wrote, Read reads. -/
theorem read_wrote {id code typ : Int} {ans cut : Bool} {R : ByteArray} {rs : List Rc.Rec} (h : wrE id code typ ans cut R rs = 0) (W : World) :
    Calls Tryd.prog 16 #[.string (wrT id code typ ans cut R rs)] W fun e w' => ∃ v, e = .returned (.tuple #[.agg #[.int .i64 id, .bool ans, .bool cut, .int .i64 code, .string R, .int .i64 typ, v], .int .i64 0]) ∧ Below W.heap.size W w' ∧ Hid (Rc.Own W.heap.size w' v rs) := by
  obtain ⟨h1, h2, h3⟩ := wr_good h
  rw [h3]
  exact read_any id code typ ans cut R _ rs W (reads_written h1 h2) (by simp [ByteArray.size]; exact h2) h1

set_option maxHeartbeats 3200000 in
set_option maxRecDepth 100000 in
theorem dnsBack_walk (id code typ : Int) (ans cut : Bool) (name : ByteArray) (rs : List Rc.Rec) (v : Value) (t : ByteArray) (w : World) (hm : ML w) (hs : name.size ≤ maxLen) (hv : Rc.Sl w v rs) :
    Calls Tryd.prog 7 #[.agg #[.int .i64 id, .bool ans, .bool cut, .int .i64 code, .string name, .int .i64 typ, v], .string t] w fun e w' => e = .returned (.bool true) ∧ Below w.heap.size w w' := by
  have HBG : Hid (∀ W, Below w.heap.size w W → Calls Tryd.prog 9 #[] W fun e w' => e = .returned (.bool true) ∧ Below W.heap.size W w') := fun W hW => dnsBegun_any W (hm.below hW)
  have HSL : Hid (∀ W, Below w.heap.size w W → Rc.Sl W v rs) := fun W hW => hv.below hW
  have HWM : Hid (∀ W, Below w.heap.size w W → Calls Tryd.prog 12 #[.agg #[.int .i64 id, .bool ans, .bool cut, .int .i64 code, .string name, .int .i64 typ, v]] W fun e w' => e = .returned (.tuple #[.string (wrT id code typ ans cut name rs), .int .i64 (wrE id code typ ans cut name rs)]) ∧ Below W.heap.size W w') := fun W hW => write_any id code typ ans cut name rs v W (hm.below hW) hs (hv.below hW)
  have HML : Hid (ML w) := hm
  have HRW : Hid (wrE id code typ ans cut name rs = 0 → (∀ j, (rs.getD j Rc.dm).ok) ∧ rs.length ≤ 1000 ∧ ∀ W, Calls Tryd.prog 16 #[.string (wrT id code typ ans cut name rs)] W fun e w' => ∃ v, e = .returned (.tuple #[.agg #[.int .i64 id, .bool ans, .bool cut, .int .i64 code, .string name, .int .i64 typ, v], .int .i64 0]) ∧ Below W.heap.size W w' ∧ Hid (Rc.Own W.heap.size w' v rs)) := fun h => by
    have hc := chkMsg_facts (wr_good h).1
    exact ⟨recs_ok hc.2.2, by omega, fun W => read_wrote h W⟩
  have HSM : Hid (∀ va vb W, Rc.Sl W va rs → Rc.Sl W vb rs → rs.length ≤ 1000 → Calls Tryd.prog 18 #[.agg #[.int .i64 id, .bool ans, .bool cut, .int .i64 code, .string name, .int .i64 typ, va], .agg #[.int .i64 id, .bool ans, .bool cut, .int .i64 code, .string name, .int .i64 typ, vb]] W fun e w' => e = .returned (.bool true) ∧ Below W.heap.size W w') := fun va vb W ha hb hn => sameMsg_ok id code typ ans cut name rs va vb W ha hb hn
  have HRB : Hid (∀ W, Calls Tryd.prog 16 #[.string t] W (RdP t W)) := fun W => read_b t W
  clear hm hs hv
  generalize wrT id code typ ans cut name rs = WT at *
  generalize wrE id code typ ans cut name rs = WE at *
  go_enter Tryd.func7, Tryd.ntmps7
  go_wp2_with fail
  have hw0 : Below w.heap.size w (w.alloc (.cells #[.int .i64 id, .bool ans, .bool cut, .int .i64 code, .string name, .int .i64 typ, v] 30)) := (Below.refl _ _).alloc (Nat.le_refl _) _
  have hg0 : (w.alloc (.cells #[.int .i64 id, .bool ans, .bool cut, .int .i64 code, .string name, .int .i64 typ, v] 30)).heap[w.heap.size]? = some (.cells #[.int .i64 id, .bool ans, .bool cut, .int .i64 code, .string name, .int .i64 typ, v] 30 (0, 0)) := heap_alloc_new w _
  refine (HBG.out _ hw0).mono ?_
  rintro e w1 ⟨rfl, hb1⟩
  have HB1 : Hid (Below w.heap.size w w1) := hw0.trans (hb1.mono (by simp))
  have HG1 : Hid (w1.heap[w.heap.size]? = some (.cells #[.int .i64 id, .bool ans, .bool cut, .int .i64 code, .string name, .int .i64 typ, v] 30 (0, 0))) := (hb1.block _ (by simp)).trans hg0
  clear hw0 hg0 hb1 HBG
  have m0 : w1.cell? ⟨w.heap.size, 0, none⟩ = some (.int .i64 id) := cellsAt HG1.out 0
  have m1 : w1.cell? ⟨w.heap.size, 1, none⟩ = some (.bool ans) := cellsAt HG1.out 1
  have m2 : w1.cell? ⟨w.heap.size, 2, none⟩ = some (.bool cut) := cellsAt HG1.out 2
  have m3 : w1.cell? ⟨w.heap.size, 3, none⟩ = some (.int .i64 code) := cellsAt HG1.out 3
  have m4 : w1.cell? ⟨w.heap.size, 4, none⟩ = some (.string name) := cellsAt HG1.out 4
  have m5 : w1.cell? ⟨w.heap.size, 5, none⟩ = some (.int .i64 typ) := cellsAt HG1.out 5
  have m6 : w1.cell? ⟨w.heap.size, 6, none⟩ = some (v) := cellsAt HG1.out 6
  go_wp2_with fail
  refine (HWM.out w1 HB1.out).mono ?_
  rintro e w2 ⟨rfl, hb2⟩
  have HB2 : Hid (Below w.heap.size w w2) := HB1.out.trans (hb2.mono HB1.out.size)
  have HG2 : Hid (w2.heap[w.heap.size]? = some (.cells #[.int .i64 id, .bool ans, .bool cut, .int .i64 code, .string name, .int .i64 typ, v] 30 (0, 0))) := (hb2.block _ (Array.getElem?_eq_some_iff.1 HG1.out).1).trans HG1.out
  clear hb2 HWM HG1 HB1 m0 m1 m2 m3 m4 m5 m6
  by_cases h0 : WE = 0
  · obtain ⟨hok, hln, hrd⟩ := HRW.out h0
    have HOK : Hid (∀ j, (rs.getD j Rc.dm).ok) := hok
    have HRD : Hid (∀ W, Calls Tryd.prog 16 #[.string WT] W fun e w' => ∃ v, e = .returned (.tuple #[.agg #[.int .i64 id, .bool ans, .bool cut, .int .i64 code, .string name, .int .i64 typ, v], .int .i64 0]) ∧ Below W.heap.size W w' ∧ Hid (Rc.Own W.heap.size w' v rs)) := hrd
    clear hok hrd HRW
    subst h0
    go_wp2_with fail
    refine (HRD.out w2).mono ?_
    rintro e w3 ⟨v3, rfl, hb3, ho3⟩
    obtain ⟨av, lv, cv, hvv⟩ : ∃ a l c, v3 = .slice a l c := by
      rcases ho3.out.2 with ⟨hv, _⟩ | ⟨gq, cq, _, hv, _⟩
      · exact ⟨_, _, _, hv⟩
      · exact ⟨_, _, _, hv⟩
    subst hvv
    obtain ⟨w4, hw4⟩ : ∃ w4, w4 = w3.alloc (.cells #[.int .i64 id, .bool ans, .bool cut, .int .i64 code, .string name, .int .i64 typ, .slice av lv cv] 30) := ⟨_, rfl⟩
    have hb34 : Below w3.heap.size w3 w4 := by rw [hw4]; exact (Below.refl _ _).alloc (Nat.le_refl _) _
    have HGX : Hid (w4.heap[w3.heap.size]? = some (.cells #[.int .i64 id, .bool ans, .bool cut, .int .i64 code, .string name, .int .i64 typ, .slice av lv cv] 30 (0, 0))) := (show _ = _ by rw [hw4]; exact heap_alloc_new w3 _)
    have hl2 := (Array.getElem?_eq_some_iff.1 HG2.out).1
    have HGM : Hid (w4.heap[w.heap.size]? = some (.cells #[.int .i64 id, .bool ans, .bool cut, .int .i64 code, .string name, .int .i64 typ, v] 30 (0, 0))) := ((hb34.block _ (Nat.lt_of_lt_of_le hl2 hb3.size)).trans (hb3.block _ hl2)).trans HG2.out
    have HSA : Hid (Rc.Sl w4 (.slice av lv cv) rs) := ((ho3.out.below hb34).sl HOK.out)
    have HB4 : Hid (Below w.heap.size w w4) := (HB2.out.trans (hb3.mono HB2.out.size)).trans (hb34.mono (Nat.le_trans HB2.out.size hb3.size))
    have HSB : Hid (Rc.Sl w4 v rs) := HSL.out w4 HB4.out
    clear ho3 hb34 hb3 hl2 HG2 HB2 HRD
    have x0 : (w3.alloc (.cells #[.int .i64 id, .bool ans, .bool cut, .int .i64 code, .string name, .int .i64 typ, .slice av lv cv] 30)).cell? ⟨w3.heap.size, 0, none⟩ = some (.int .i64 id) := by rw [← hw4]; exact cellsAt HGX.out 0
    have x1 : (w3.alloc (.cells #[.int .i64 id, .bool ans, .bool cut, .int .i64 code, .string name, .int .i64 typ, .slice av lv cv] 30)).cell? ⟨w3.heap.size, 1, none⟩ = some (.bool ans) := by rw [← hw4]; exact cellsAt HGX.out 1
    have x2 : (w3.alloc (.cells #[.int .i64 id, .bool ans, .bool cut, .int .i64 code, .string name, .int .i64 typ, .slice av lv cv] 30)).cell? ⟨w3.heap.size, 2, none⟩ = some (.bool cut) := by rw [← hw4]; exact cellsAt HGX.out 2
    have x3 : (w3.alloc (.cells #[.int .i64 id, .bool ans, .bool cut, .int .i64 code, .string name, .int .i64 typ, .slice av lv cv] 30)).cell? ⟨w3.heap.size, 3, none⟩ = some (.int .i64 code) := by rw [← hw4]; exact cellsAt HGX.out 3
    have x4 : (w3.alloc (.cells #[.int .i64 id, .bool ans, .bool cut, .int .i64 code, .string name, .int .i64 typ, .slice av lv cv] 30)).cell? ⟨w3.heap.size, 4, none⟩ = some (.string name) := by rw [← hw4]; exact cellsAt HGX.out 4
    have x5 : (w3.alloc (.cells #[.int .i64 id, .bool ans, .bool cut, .int .i64 code, .string name, .int .i64 typ, .slice av lv cv] 30)).cell? ⟨w3.heap.size, 5, none⟩ = some (.int .i64 typ) := by rw [← hw4]; exact cellsAt HGX.out 5
    have x6 : (w3.alloc (.cells #[.int .i64 id, .bool ans, .bool cut, .int .i64 code, .string name, .int .i64 typ, .slice av lv cv] 30)).cell? ⟨w3.heap.size, 6, none⟩ = some (.slice av lv cv) := by rw [← hw4]; exact cellsAt HGX.out 6
    have m0 : (w3.alloc (.cells #[.int .i64 id, .bool ans, .bool cut, .int .i64 code, .string name, .int .i64 typ, .slice av lv cv] 30)).cell? ⟨w.heap.size, 0, none⟩ = some (.int .i64 id) := by rw [← hw4]; exact cellsAt HGM.out 0
    have m1 : (w3.alloc (.cells #[.int .i64 id, .bool ans, .bool cut, .int .i64 code, .string name, .int .i64 typ, .slice av lv cv] 30)).cell? ⟨w.heap.size, 1, none⟩ = some (.bool ans) := by rw [← hw4]; exact cellsAt HGM.out 1
    have m2 : (w3.alloc (.cells #[.int .i64 id, .bool ans, .bool cut, .int .i64 code, .string name, .int .i64 typ, .slice av lv cv] 30)).cell? ⟨w.heap.size, 2, none⟩ = some (.bool cut) := by rw [← hw4]; exact cellsAt HGM.out 2
    have m3 : (w3.alloc (.cells #[.int .i64 id, .bool ans, .bool cut, .int .i64 code, .string name, .int .i64 typ, .slice av lv cv] 30)).cell? ⟨w.heap.size, 3, none⟩ = some (.int .i64 code) := by rw [← hw4]; exact cellsAt HGM.out 3
    have m4 : (w3.alloc (.cells #[.int .i64 id, .bool ans, .bool cut, .int .i64 code, .string name, .int .i64 typ, .slice av lv cv] 30)).cell? ⟨w.heap.size, 4, none⟩ = some (.string name) := by rw [← hw4]; exact cellsAt HGM.out 4
    have m5 : (w3.alloc (.cells #[.int .i64 id, .bool ans, .bool cut, .int .i64 code, .string name, .int .i64 typ, .slice av lv cv] 30)).cell? ⟨w.heap.size, 5, none⟩ = some (.int .i64 typ) := by rw [← hw4]; exact cellsAt HGM.out 5
    have m6 : (w3.alloc (.cells #[.int .i64 id, .bool ans, .bool cut, .int .i64 code, .string name, .int .i64 typ, .slice av lv cv] 30)).cell? ⟨w.heap.size, 6, none⟩ = some (v) := by rw [← hw4]; exact cellsAt HGM.out 6
    go_wp2_with fail
    rw [← hw4]
    clear hw4
    refine (HSM.out _ _ w4 HSA.out HSB.out hln).mono ?_
    rintro e w5 ⟨rfl, hb5⟩
    have HB5 : Hid (Below w.heap.size w w5) := HB4.out.trans (hb5.mono HB4.out.size)
    clear hb5 x0 x1 x2 x3 x4 x5 x6 m0 m1 m2 m3 m4 m5 m6 HGX HGM HSA HSB HB4
    go_wp2_with fail
    refine (HRB.out w5).mono ?_
    rintro e w6 ⟨hb6, ⟨M, v6, hM, hl, hc, rfl, ho⟩ | ⟨E, hE, hE2, rfl⟩⟩
    rotate_left
    · have HB6 : Hid (Below w.heap.size w w6) := HB5.out.trans (hb6.mono HB5.out.size)
      have h1 : (E != 0) = true := by rw [hE]; split <;> rfl
      clear hE hE2 hb6
      go_wp2_with fail
      go_ret
      exact ⟨rfl, HB6.out.alloc HB6.out.size _⟩
    have HB6 : Hid (Below w.heap.size w w6) := HB5.out.trans (hb6.mono HB5.out.size)
    have hz6 : w5.heap.size ≤ w6.heap.size := hb6.size
    obtain ⟨mid, mcode, mtyp, mans, mcut, mR, mrs⟩ := M
    simp only at hc ho ⊢
    have hcf := chkMsg_facts hc
    have HMO : Hid (∀ j, (mrs.getD j Rc.dm).ok) := recs_ok hcf.2.2
    have hmR : mR.size ≤ maxLen := by have := (labs_ok hcf.2.1).2.2; unfold maxLen; omega
    have hm20 : mrs.length ≤ 1000 := by have := hcf.1; omega
    have HWE : Hid (wrE mid mcode mtyp mans mcut mR mrs = 0 ∨ wrE mid mcode mtyp mans mcut mR mrs = 2) := (show _ ∨ _ by unfold wrE; rw [if_pos hc]; split; exact .inr rfl; exact .inl rfl)
    have HWX : Hid (∀ u W, Below w.heap.size w W → Rc.Sl W u mrs → Calls Tryd.prog 12 #[.agg #[.int .i64 mid, .bool mans, .bool mcut, .int .i64 mcode, .string mR, .int .i64 mtyp, u]] W fun e w' => e = .returned (.tuple #[.string (wrT mid mcode mtyp mans mcut mR mrs), .int .i64 (wrE mid mcode mtyp mans mcut mR mrs)]) ∧ Below W.heap.size W w') := fun u W hW hu => write_any mid mcode mtyp mans mcut mR mrs u W (HML.out.below hW) hmR hu
    have HRX : Hid (wrE mid mcode mtyp mans mcut mR mrs = 0 → ∀ W, Calls Tryd.prog 16 #[.string (wrT mid mcode mtyp mans mcut mR mrs)] W fun e w' => ∃ v, e = .returned (.tuple #[.agg #[.int .i64 mid, .bool mans, .bool mcut, .int .i64 mcode, .string mR, .int .i64 mtyp, v], .int .i64 0]) ∧ Below W.heap.size W w' ∧ Hid (Rc.Own W.heap.size w' v mrs)) := fun h W => read_wrote h W
    have HSX : Hid (∀ va vb W, Rc.Sl W va mrs → Rc.Sl W vb mrs → Calls Tryd.prog 18 #[.agg #[.int .i64 mid, .bool mans, .bool mcut, .int .i64 mcode, .string mR, .int .i64 mtyp, va], .agg #[.int .i64 mid, .bool mans, .bool mcut, .int .i64 mcode, .string mR, .int .i64 mtyp, vb]] W fun e w' => e = .returned (.bool true) ∧ Below W.heap.size W w') := fun va vb W ha hb => sameMsg_ok mid mcode mtyp mans mcut mR mrs va vb W ha hb hm20
    clear hM hl hc hcf hmR hm20 hb6
    generalize wrT mid mcode mtyp mans mcut mR mrs = XT at *
    generalize wrE mid mcode mtyp mans mcut mR mrs = XE at *
    obtain ⟨av, lv, cv, hvv⟩ : ∃ a l c, v6 = .slice a l c := by
      rcases ho.out.2 with ⟨hv, _⟩ | ⟨gq, cq, _, hv, _⟩
      · exact ⟨_, _, _, hv⟩
      · exact ⟨_, _, _, hv⟩
    subst hvv
    obtain ⟨w7, hw7⟩ : ∃ w7, w7 = w6.alloc (.cells #[.int .i64 mid, .bool mans, .bool mcut, .int .i64 mcode, .string mR, .int .i64 mtyp, .slice av lv cv] 30) := ⟨_, rfl⟩
    have hb67 : Below w6.heap.size w6 w7 := by rw [hw7]; exact (Below.refl _ _).alloc (Nat.le_refl _) _
    have HG7 : Hid (w7.heap[w6.heap.size]? = some (.cells #[.int .i64 mid, .bool mans, .bool mcut, .int .i64 mcode, .string mR, .int .i64 mtyp, .slice av lv cv] 30 (0, 0))) := (show _ = _ by rw [hw7]; exact heap_alloc_new w6 _)
    have HO7 : Hid (Rc.Sl w7 (.slice av lv cv) mrs) := ((ho.out.below hb67).sl HMO.out)
    have HB7 : Hid (Below w.heap.size w w7) := HB6.out.trans (hb67.mono HB6.out.size)
    clear ho hb67
    go_wp2_with fail
    rw [← hw7]
    clear hw7
    have x0 : w7.cell? ⟨w6.heap.size, 0, none⟩ = some (.int .i64 mid) := cellsAt HG7.out 0
    have x1 : w7.cell? ⟨w6.heap.size, 1, none⟩ = some (.bool mans) := cellsAt HG7.out 1
    have x2 : w7.cell? ⟨w6.heap.size, 2, none⟩ = some (.bool mcut) := cellsAt HG7.out 2
    have x3 : w7.cell? ⟨w6.heap.size, 3, none⟩ = some (.int .i64 mcode) := cellsAt HG7.out 3
    have x4 : w7.cell? ⟨w6.heap.size, 4, none⟩ = some (.string mR) := cellsAt HG7.out 4
    have x5 : w7.cell? ⟨w6.heap.size, 5, none⟩ = some (.int .i64 mtyp) := cellsAt HG7.out 5
    have x6 : w7.cell? ⟨w6.heap.size, 6, none⟩ = some (.slice av lv cv) := cellsAt HG7.out 6
    go_wp2_with fail
    refine (HWX.out _ w7 HB7.out HO7.out).mono ?_
    rintro e w8 ⟨rfl, hb8⟩
    have HB8 : Hid (Below w.heap.size w w8) := HB7.out.trans (hb8.mono HB7.out.size)
    have HG8 : Hid (w8.heap[w6.heap.size]? = some (.cells #[.int .i64 mid, .bool mans, .bool mcut, .int .i64 mcode, .string mR, .int .i64 mtyp, .slice av lv cv] 30 (0, 0))) := (hb8.block _ (Array.getElem?_eq_some_iff.1 HG7.out).1).trans HG7.out
    have HO8 : Hid (Rc.Sl w8 (.slice av lv cv) mrs) := HO7.out.below hb8
    clear hb8 HWX HG7 HO7 HB7 x0 x1 x2 x3 x4 x5 x6
    rcases HWE.out with h0 | h2
    rotate_left
    · subst h2
      go_wp2_with fail
      go_ret
      exact ⟨rfl, HB8.out⟩
    have HRX2 := HRX.out h0
    have HRX3 : Hid (∀ W, Calls Tryd.prog 16 #[.string XT] W fun e w' => ∃ v, e = .returned (.tuple #[.agg #[.int .i64 mid, .bool mans, .bool mcut, .int .i64 mcode, .string mR, .int .i64 mtyp, v], .int .i64 0]) ∧ Below W.heap.size W w' ∧ Hid (Rc.Own W.heap.size w' v mrs)) := HRX2
    clear HRX HRX2 HWE
    subst h0
    go_wp2_with fail
    refine (HRX3.out w8).mono ?_
    rintro e w9 ⟨v9, rfl, hb9, ho9⟩
    obtain ⟨au, lu, cu, hvu⟩ : ∃ a l c, v9 = .slice a l c := by
      rcases ho9.out.2 with ⟨hv, _⟩ | ⟨gq, cq, _, hv, _⟩
      · exact ⟨_, _, _, hv⟩
      · exact ⟨_, _, _, hv⟩
    subst hvu
    obtain ⟨wa, hwa⟩ : ∃ wa, wa = w9.alloc (.cells #[.int .i64 mid, .bool mans, .bool mcut, .int .i64 mcode, .string mR, .int .i64 mtyp, .slice au lu cu] 30) := ⟨_, rfl⟩
    have hb9a : Below w9.heap.size w9 wa := by rw [hwa]; exact (Below.refl _ _).alloc (Nat.le_refl _) _
    have HGY : Hid (wa.heap[w9.heap.size]? = some (.cells #[.int .i64 mid, .bool mans, .bool mcut, .int .i64 mcode, .string mR, .int .i64 mtyp, .slice au lu cu] 30 (0, 0))) := (show _ = _ by rw [hwa]; exact heap_alloc_new w9 _)
    have hl8 := (Array.getElem?_eq_some_iff.1 HG8.out).1
    have HGX : Hid (wa.heap[w6.heap.size]? = some (.cells #[.int .i64 mid, .bool mans, .bool mcut, .int .i64 mcode, .string mR, .int .i64 mtyp, .slice av lv cv] 30 (0, 0))) := ((hb9a.block _ (Nat.lt_of_lt_of_le hl8 hb9.size)).trans (hb9.block _ hl8)).trans HG8.out
    have HSA : Hid (Rc.Sl wa (.slice av lv cv) mrs) := (HO8.out.below hb9).below hb9a
    have HSB : Hid (Rc.Sl wa (.slice au lu cu) mrs) := ((ho9.out.below hb9a).sl HMO.out)
    have HBA : Hid (Below w.heap.size w wa) := (HB8.out.trans (hb9.mono HB8.out.size)).trans (hb9a.mono (Nat.le_trans HB8.out.size hb9.size))
    clear ho9 hb9a hb9 hl8 HG8 HO8 HRX3
    have x0 : (w9.alloc (.cells #[.int .i64 mid, .bool mans, .bool mcut, .int .i64 mcode, .string mR, .int .i64 mtyp, .slice au lu cu] 30)).cell? ⟨w6.heap.size, 0, none⟩ = some (.int .i64 mid) := by rw [← hwa]; exact cellsAt HGX.out 0
    have x1 : (w9.alloc (.cells #[.int .i64 mid, .bool mans, .bool mcut, .int .i64 mcode, .string mR, .int .i64 mtyp, .slice au lu cu] 30)).cell? ⟨w6.heap.size, 1, none⟩ = some (.bool mans) := by rw [← hwa]; exact cellsAt HGX.out 1
    have x2 : (w9.alloc (.cells #[.int .i64 mid, .bool mans, .bool mcut, .int .i64 mcode, .string mR, .int .i64 mtyp, .slice au lu cu] 30)).cell? ⟨w6.heap.size, 2, none⟩ = some (.bool mcut) := by rw [← hwa]; exact cellsAt HGX.out 2
    have x3 : (w9.alloc (.cells #[.int .i64 mid, .bool mans, .bool mcut, .int .i64 mcode, .string mR, .int .i64 mtyp, .slice au lu cu] 30)).cell? ⟨w6.heap.size, 3, none⟩ = some (.int .i64 mcode) := by rw [← hwa]; exact cellsAt HGX.out 3
    have x4 : (w9.alloc (.cells #[.int .i64 mid, .bool mans, .bool mcut, .int .i64 mcode, .string mR, .int .i64 mtyp, .slice au lu cu] 30)).cell? ⟨w6.heap.size, 4, none⟩ = some (.string mR) := by rw [← hwa]; exact cellsAt HGX.out 4
    have x5 : (w9.alloc (.cells #[.int .i64 mid, .bool mans, .bool mcut, .int .i64 mcode, .string mR, .int .i64 mtyp, .slice au lu cu] 30)).cell? ⟨w6.heap.size, 5, none⟩ = some (.int .i64 mtyp) := by rw [← hwa]; exact cellsAt HGX.out 5
    have x6 : (w9.alloc (.cells #[.int .i64 mid, .bool mans, .bool mcut, .int .i64 mcode, .string mR, .int .i64 mtyp, .slice au lu cu] 30)).cell? ⟨w6.heap.size, 6, none⟩ = some (.slice av lv cv) := by rw [← hwa]; exact cellsAt HGX.out 6
    have y0 : (w9.alloc (.cells #[.int .i64 mid, .bool mans, .bool mcut, .int .i64 mcode, .string mR, .int .i64 mtyp, .slice au lu cu] 30)).cell? ⟨w9.heap.size, 0, none⟩ = some (.int .i64 mid) := by rw [← hwa]; exact cellsAt HGY.out 0
    have y1 : (w9.alloc (.cells #[.int .i64 mid, .bool mans, .bool mcut, .int .i64 mcode, .string mR, .int .i64 mtyp, .slice au lu cu] 30)).cell? ⟨w9.heap.size, 1, none⟩ = some (.bool mans) := by rw [← hwa]; exact cellsAt HGY.out 1
    have y2 : (w9.alloc (.cells #[.int .i64 mid, .bool mans, .bool mcut, .int .i64 mcode, .string mR, .int .i64 mtyp, .slice au lu cu] 30)).cell? ⟨w9.heap.size, 2, none⟩ = some (.bool mcut) := by rw [← hwa]; exact cellsAt HGY.out 2
    have y3 : (w9.alloc (.cells #[.int .i64 mid, .bool mans, .bool mcut, .int .i64 mcode, .string mR, .int .i64 mtyp, .slice au lu cu] 30)).cell? ⟨w9.heap.size, 3, none⟩ = some (.int .i64 mcode) := by rw [← hwa]; exact cellsAt HGY.out 3
    have y4 : (w9.alloc (.cells #[.int .i64 mid, .bool mans, .bool mcut, .int .i64 mcode, .string mR, .int .i64 mtyp, .slice au lu cu] 30)).cell? ⟨w9.heap.size, 4, none⟩ = some (.string mR) := by rw [← hwa]; exact cellsAt HGY.out 4
    have y5 : (w9.alloc (.cells #[.int .i64 mid, .bool mans, .bool mcut, .int .i64 mcode, .string mR, .int .i64 mtyp, .slice au lu cu] 30)).cell? ⟨w9.heap.size, 5, none⟩ = some (.int .i64 mtyp) := by rw [← hwa]; exact cellsAt HGY.out 5
    have y6 : (w9.alloc (.cells #[.int .i64 mid, .bool mans, .bool mcut, .int .i64 mcode, .string mR, .int .i64 mtyp, .slice au lu cu] 30)).cell? ⟨w9.heap.size, 6, none⟩ = some (.slice au lu cu) := by rw [← hwa]; exact cellsAt HGY.out 6
    go_wp2_with fail
    rw [← hwa]
    clear hwa
    refine (HSX.out _ _ wa HSA.out HSB.out).mono ?_
    rintro e wz ⟨rfl, hbz⟩
    have HBZ : Hid (Below w.heap.size w wz) := HBA.out.trans (hbz.mono HBA.out.size)
    clear hbz
    go_wp2_with fail
    go_ret
    exact ⟨rfl, HBZ.out⟩
  · have h1 : (WE == 0) = false := by simpa using h0
    have h1' : (WE != 0) = true := by simpa using h0
    go_wp2_with fail
    refine (HRB.out w2).mono ?_
    rintro e w6 ⟨hb6, ⟨M, v6, hM, hl, hc, rfl, ho⟩ | ⟨E, hE, hE2, rfl⟩⟩
    rotate_left
    · have HB6 : Hid (Below w.heap.size w w6) := HB2.out.trans (hb6.mono HB2.out.size)
      have h1 : (E != 0) = true := by rw [hE]; split <;> rfl
      clear hE hE2 hb6
      go_wp2_with fail
      go_ret
      exact ⟨rfl, HB6.out.alloc HB6.out.size _⟩
    have HB6 : Hid (Below w.heap.size w w6) := HB2.out.trans (hb6.mono HB2.out.size)
    have hz6 : w2.heap.size ≤ w6.heap.size := hb6.size
    obtain ⟨mid, mcode, mtyp, mans, mcut, mR, mrs⟩ := M
    simp only at hc ho ⊢
    have hcf := chkMsg_facts hc
    have HMO : Hid (∀ j, (mrs.getD j Rc.dm).ok) := recs_ok hcf.2.2
    have hmR : mR.size ≤ maxLen := by have := (labs_ok hcf.2.1).2.2; unfold maxLen; omega
    have hm20 : mrs.length ≤ 1000 := by have := hcf.1; omega
    have HWE : Hid (wrE mid mcode mtyp mans mcut mR mrs = 0 ∨ wrE mid mcode mtyp mans mcut mR mrs = 2) := (show _ ∨ _ by unfold wrE; rw [if_pos hc]; split; exact .inr rfl; exact .inl rfl)
    have HWX : Hid (∀ u W, Below w.heap.size w W → Rc.Sl W u mrs → Calls Tryd.prog 12 #[.agg #[.int .i64 mid, .bool mans, .bool mcut, .int .i64 mcode, .string mR, .int .i64 mtyp, u]] W fun e w' => e = .returned (.tuple #[.string (wrT mid mcode mtyp mans mcut mR mrs), .int .i64 (wrE mid mcode mtyp mans mcut mR mrs)]) ∧ Below W.heap.size W w') := fun u W hW hu => write_any mid mcode mtyp mans mcut mR mrs u W (HML.out.below hW) hmR hu
    have HRX : Hid (wrE mid mcode mtyp mans mcut mR mrs = 0 → ∀ W, Calls Tryd.prog 16 #[.string (wrT mid mcode mtyp mans mcut mR mrs)] W fun e w' => ∃ v, e = .returned (.tuple #[.agg #[.int .i64 mid, .bool mans, .bool mcut, .int .i64 mcode, .string mR, .int .i64 mtyp, v], .int .i64 0]) ∧ Below W.heap.size W w' ∧ Hid (Rc.Own W.heap.size w' v mrs)) := fun h W => read_wrote h W
    have HSX : Hid (∀ va vb W, Rc.Sl W va mrs → Rc.Sl W vb mrs → Calls Tryd.prog 18 #[.agg #[.int .i64 mid, .bool mans, .bool mcut, .int .i64 mcode, .string mR, .int .i64 mtyp, va], .agg #[.int .i64 mid, .bool mans, .bool mcut, .int .i64 mcode, .string mR, .int .i64 mtyp, vb]] W fun e w' => e = .returned (.bool true) ∧ Below W.heap.size W w') := fun va vb W ha hb => sameMsg_ok mid mcode mtyp mans mcut mR mrs va vb W ha hb hm20
    clear hM hl hc hcf hmR hm20 hb6
    generalize wrT mid mcode mtyp mans mcut mR mrs = XT at *
    generalize wrE mid mcode mtyp mans mcut mR mrs = XE at *
    obtain ⟨av, lv, cv, hvv⟩ : ∃ a l c, v6 = .slice a l c := by
      rcases ho.out.2 with ⟨hv, _⟩ | ⟨gq, cq, _, hv, _⟩
      · exact ⟨_, _, _, hv⟩
      · exact ⟨_, _, _, hv⟩
    subst hvv
    obtain ⟨w7, hw7⟩ : ∃ w7, w7 = w6.alloc (.cells #[.int .i64 mid, .bool mans, .bool mcut, .int .i64 mcode, .string mR, .int .i64 mtyp, .slice av lv cv] 30) := ⟨_, rfl⟩
    have hb67 : Below w6.heap.size w6 w7 := by rw [hw7]; exact (Below.refl _ _).alloc (Nat.le_refl _) _
    have HG7 : Hid (w7.heap[w6.heap.size]? = some (.cells #[.int .i64 mid, .bool mans, .bool mcut, .int .i64 mcode, .string mR, .int .i64 mtyp, .slice av lv cv] 30 (0, 0))) := (show _ = _ by rw [hw7]; exact heap_alloc_new w6 _)
    have HO7 : Hid (Rc.Sl w7 (.slice av lv cv) mrs) := ((ho.out.below hb67).sl HMO.out)
    have HB7 : Hid (Below w.heap.size w w7) := HB6.out.trans (hb67.mono HB6.out.size)
    clear ho hb67
    go_wp2_with fail
    rw [← hw7]
    clear hw7
    have x0 : w7.cell? ⟨w6.heap.size, 0, none⟩ = some (.int .i64 mid) := cellsAt HG7.out 0
    have x1 : w7.cell? ⟨w6.heap.size, 1, none⟩ = some (.bool mans) := cellsAt HG7.out 1
    have x2 : w7.cell? ⟨w6.heap.size, 2, none⟩ = some (.bool mcut) := cellsAt HG7.out 2
    have x3 : w7.cell? ⟨w6.heap.size, 3, none⟩ = some (.int .i64 mcode) := cellsAt HG7.out 3
    have x4 : w7.cell? ⟨w6.heap.size, 4, none⟩ = some (.string mR) := cellsAt HG7.out 4
    have x5 : w7.cell? ⟨w6.heap.size, 5, none⟩ = some (.int .i64 mtyp) := cellsAt HG7.out 5
    have x6 : w7.cell? ⟨w6.heap.size, 6, none⟩ = some (.slice av lv cv) := cellsAt HG7.out 6
    go_wp2_with fail
    refine (HWX.out _ w7 HB7.out HO7.out).mono ?_
    rintro e w8 ⟨rfl, hb8⟩
    have HB8 : Hid (Below w.heap.size w w8) := HB7.out.trans (hb8.mono HB7.out.size)
    have HG8 : Hid (w8.heap[w6.heap.size]? = some (.cells #[.int .i64 mid, .bool mans, .bool mcut, .int .i64 mcode, .string mR, .int .i64 mtyp, .slice av lv cv] 30 (0, 0))) := (hb8.block _ (Array.getElem?_eq_some_iff.1 HG7.out).1).trans HG7.out
    have HO8 : Hid (Rc.Sl w8 (.slice av lv cv) mrs) := HO7.out.below hb8
    clear hb8 HWX HG7 HO7 HB7 x0 x1 x2 x3 x4 x5 x6
    rcases HWE.out with h0 | h2
    rotate_left
    · subst h2
      go_wp2_with fail
      go_ret
      exact ⟨rfl, HB8.out⟩
    have HRX2 := HRX.out h0
    have HRX3 : Hid (∀ W, Calls Tryd.prog 16 #[.string XT] W fun e w' => ∃ v, e = .returned (.tuple #[.agg #[.int .i64 mid, .bool mans, .bool mcut, .int .i64 mcode, .string mR, .int .i64 mtyp, v], .int .i64 0]) ∧ Below W.heap.size W w' ∧ Hid (Rc.Own W.heap.size w' v mrs)) := HRX2
    clear HRX HRX2 HWE
    subst h0
    go_wp2_with fail
    refine (HRX3.out w8).mono ?_
    rintro e w9 ⟨v9, rfl, hb9, ho9⟩
    obtain ⟨au, lu, cu, hvu⟩ : ∃ a l c, v9 = .slice a l c := by
      rcases ho9.out.2 with ⟨hv, _⟩ | ⟨gq, cq, _, hv, _⟩
      · exact ⟨_, _, _, hv⟩
      · exact ⟨_, _, _, hv⟩
    subst hvu
    obtain ⟨wa, hwa⟩ : ∃ wa, wa = w9.alloc (.cells #[.int .i64 mid, .bool mans, .bool mcut, .int .i64 mcode, .string mR, .int .i64 mtyp, .slice au lu cu] 30) := ⟨_, rfl⟩
    have hb9a : Below w9.heap.size w9 wa := by rw [hwa]; exact (Below.refl _ _).alloc (Nat.le_refl _) _
    have HGY : Hid (wa.heap[w9.heap.size]? = some (.cells #[.int .i64 mid, .bool mans, .bool mcut, .int .i64 mcode, .string mR, .int .i64 mtyp, .slice au lu cu] 30 (0, 0))) := (show _ = _ by rw [hwa]; exact heap_alloc_new w9 _)
    have hl8 := (Array.getElem?_eq_some_iff.1 HG8.out).1
    have HGX : Hid (wa.heap[w6.heap.size]? = some (.cells #[.int .i64 mid, .bool mans, .bool mcut, .int .i64 mcode, .string mR, .int .i64 mtyp, .slice av lv cv] 30 (0, 0))) := ((hb9a.block _ (Nat.lt_of_lt_of_le hl8 hb9.size)).trans (hb9.block _ hl8)).trans HG8.out
    have HSA : Hid (Rc.Sl wa (.slice av lv cv) mrs) := (HO8.out.below hb9).below hb9a
    have HSB : Hid (Rc.Sl wa (.slice au lu cu) mrs) := ((ho9.out.below hb9a).sl HMO.out)
    have HBA : Hid (Below w.heap.size w wa) := (HB8.out.trans (hb9.mono HB8.out.size)).trans (hb9a.mono (Nat.le_trans HB8.out.size hb9.size))
    clear ho9 hb9a hb9 hl8 HG8 HO8 HRX3
    have x0 : (w9.alloc (.cells #[.int .i64 mid, .bool mans, .bool mcut, .int .i64 mcode, .string mR, .int .i64 mtyp, .slice au lu cu] 30)).cell? ⟨w6.heap.size, 0, none⟩ = some (.int .i64 mid) := by rw [← hwa]; exact cellsAt HGX.out 0
    have x1 : (w9.alloc (.cells #[.int .i64 mid, .bool mans, .bool mcut, .int .i64 mcode, .string mR, .int .i64 mtyp, .slice au lu cu] 30)).cell? ⟨w6.heap.size, 1, none⟩ = some (.bool mans) := by rw [← hwa]; exact cellsAt HGX.out 1
    have x2 : (w9.alloc (.cells #[.int .i64 mid, .bool mans, .bool mcut, .int .i64 mcode, .string mR, .int .i64 mtyp, .slice au lu cu] 30)).cell? ⟨w6.heap.size, 2, none⟩ = some (.bool mcut) := by rw [← hwa]; exact cellsAt HGX.out 2
    have x3 : (w9.alloc (.cells #[.int .i64 mid, .bool mans, .bool mcut, .int .i64 mcode, .string mR, .int .i64 mtyp, .slice au lu cu] 30)).cell? ⟨w6.heap.size, 3, none⟩ = some (.int .i64 mcode) := by rw [← hwa]; exact cellsAt HGX.out 3
    have x4 : (w9.alloc (.cells #[.int .i64 mid, .bool mans, .bool mcut, .int .i64 mcode, .string mR, .int .i64 mtyp, .slice au lu cu] 30)).cell? ⟨w6.heap.size, 4, none⟩ = some (.string mR) := by rw [← hwa]; exact cellsAt HGX.out 4
    have x5 : (w9.alloc (.cells #[.int .i64 mid, .bool mans, .bool mcut, .int .i64 mcode, .string mR, .int .i64 mtyp, .slice au lu cu] 30)).cell? ⟨w6.heap.size, 5, none⟩ = some (.int .i64 mtyp) := by rw [← hwa]; exact cellsAt HGX.out 5
    have x6 : (w9.alloc (.cells #[.int .i64 mid, .bool mans, .bool mcut, .int .i64 mcode, .string mR, .int .i64 mtyp, .slice au lu cu] 30)).cell? ⟨w6.heap.size, 6, none⟩ = some (.slice av lv cv) := by rw [← hwa]; exact cellsAt HGX.out 6
    have y0 : (w9.alloc (.cells #[.int .i64 mid, .bool mans, .bool mcut, .int .i64 mcode, .string mR, .int .i64 mtyp, .slice au lu cu] 30)).cell? ⟨w9.heap.size, 0, none⟩ = some (.int .i64 mid) := by rw [← hwa]; exact cellsAt HGY.out 0
    have y1 : (w9.alloc (.cells #[.int .i64 mid, .bool mans, .bool mcut, .int .i64 mcode, .string mR, .int .i64 mtyp, .slice au lu cu] 30)).cell? ⟨w9.heap.size, 1, none⟩ = some (.bool mans) := by rw [← hwa]; exact cellsAt HGY.out 1
    have y2 : (w9.alloc (.cells #[.int .i64 mid, .bool mans, .bool mcut, .int .i64 mcode, .string mR, .int .i64 mtyp, .slice au lu cu] 30)).cell? ⟨w9.heap.size, 2, none⟩ = some (.bool mcut) := by rw [← hwa]; exact cellsAt HGY.out 2
    have y3 : (w9.alloc (.cells #[.int .i64 mid, .bool mans, .bool mcut, .int .i64 mcode, .string mR, .int .i64 mtyp, .slice au lu cu] 30)).cell? ⟨w9.heap.size, 3, none⟩ = some (.int .i64 mcode) := by rw [← hwa]; exact cellsAt HGY.out 3
    have y4 : (w9.alloc (.cells #[.int .i64 mid, .bool mans, .bool mcut, .int .i64 mcode, .string mR, .int .i64 mtyp, .slice au lu cu] 30)).cell? ⟨w9.heap.size, 4, none⟩ = some (.string mR) := by rw [← hwa]; exact cellsAt HGY.out 4
    have y5 : (w9.alloc (.cells #[.int .i64 mid, .bool mans, .bool mcut, .int .i64 mcode, .string mR, .int .i64 mtyp, .slice au lu cu] 30)).cell? ⟨w9.heap.size, 5, none⟩ = some (.int .i64 mtyp) := by rw [← hwa]; exact cellsAt HGY.out 5
    have y6 : (w9.alloc (.cells #[.int .i64 mid, .bool mans, .bool mcut, .int .i64 mcode, .string mR, .int .i64 mtyp, .slice au lu cu] 30)).cell? ⟨w9.heap.size, 6, none⟩ = some (.slice au lu cu) := by rw [← hwa]; exact cellsAt HGY.out 6
    go_wp2_with fail
    rw [← hwa]
    clear hwa
    refine (HSX.out _ _ wa HSA.out HSB.out).mono ?_
    rintro e wz ⟨rfl, hbz⟩
    have HBZ : Hid (Below w.heap.size w wz) := HBA.out.trans (hbz.mono HBA.out.size)
    clear hbz
    go_wp2_with fail
    go_ret
    exact ⟨rfl, HBZ.out⟩

end Go.Proofs.YtogmkdhljifbpaaDoor

