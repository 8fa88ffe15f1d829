/- GL, FB, FC, FD, FE, FG -/
import Derived.Test.YtogmkdhljifbpaaDoorY8
import Derived.Test.YtogmkdhljifbpaaDoorY13
import Derived.Test.YtogmkdhljifbpaaDoorY14
import Derived.Lib.SmallJoins
import Derived.Test.YtogmkdhljifbpaaDoorY4
import Derived.Deep.RegionHeld3
import Derived.StillTactics
import Derived.Lib.ConvBytes
import Derived.Laws.IdiomStrings
/- The document's FitOf. -/
namespace Go.Proofs.YtogmkdhljifbpaaDoor
open Go.RowKit

set_option maxHeartbeats 1600000 in
set_option maxRecDepth 100000 in
theorem fitOf_any (id code typ size : Int) (ans cut : Bool) (name : ByteArray) (rs : List Rc.Rec) (pa : Option Addr) (cap : Nat) (w : World) (hs : name.size ≤ 2000000) (hrs : ∀ r ∈ rs, r.name.size ≤ 2000000 ∧ r.target.size ≤ 2000000) (hv : Rc.Sl w (.slice pa rs.length cap) rs) (hcap : rs.length ≤ cap) :
    Calls Tryd.prog 20 #[.agg #[.int .i64 id, .bool ans, .bool cut, .int .i64 code, .string name, .int .i64 typ, .slice pa rs.length cap], .int .i64 size] w fun e w' => e = .returned (.tuple #[.string (fitT id code typ ans cut name rs size), .int .i64 (fitE id code typ ans cut name rs size)]) ∧ Below w.heap.size w w' := by
  have HSL : Hid (Rc.Sl w (.slice pa rs.length cap) rs) := hv
  obtain ⟨pa', cap', heq, hok, hrow⟩ := hv
  injection heq with q1 q2 q3
  subst q1
  clear q2 q3
  have HMB : Hid (chkMsg id code typ name rs = 0 → ∀ W, Below w.heap.size w W → ∀ j, j ≤ rs.length → Calls Tryd.prog 14 #[.agg #[.int .i64 id, .bool ans, .bool (cut || decide (j < rs.length)), .int .i64 code, .string name, .int .i64 typ, .slice pa j cap]] W fun e w' => e = .returned (.string ⟨(fitB id code typ ans cut name rs j).toArray⟩) ∧ Below W.heap.size W w') := fun hc W hW j hj => by
    have hl : (rs.take j).length = j := by rw [List.length_take]; omega
    have hsl : Rc.Sl W (.slice pa j cap) (rs.take j) := by
      refine ⟨pa, cap, by rw [hl], fun k => ?_, ?_⟩
      · by_cases hk : k < j
        · have : (rs.take j).getD k Rc.dm = rs.getD k Rc.dm := by simp [List.getD, hk]
          rw [this]; exact hok k
        · have : (rs.take j).getD k Rc.dm = Rc.dm := by simp [List.getD, List.getElem?_eq_none (by rw [hl]; omega : (rs.take j).length ≤ k)]
          rw [this]; exact Rc.dm_ok
      · rcases hrow with h | ⟨b, off, h1, h2, h3⟩
        · exact .inl (by rw [h]; simp)
        · exact .inr ⟨b, off, h1, Nat.lt_of_lt_of_le h2 hW.size, row_take (row_below h3 hW h2) j⟩
    exact msgBytes_any id code typ ans (cut || decide (j < rs.length)) name (rs.take j) _ W (chkMsg_take hc j) hsl
  have HC : Hid (∀ W, Below w.heap.size w W → Calls Tryd.prog 13 #[.agg #[.int .i64 id, .bool ans, .bool cut, .int .i64 code, .string name, .int .i64 typ, .slice pa rs.length cap]] W fun e w' => e = .returned (.int .i64 (chkMsg id code typ name rs)) ∧ Below W.heap.size W w') := fun W hW => refMsg_any id code typ ans cut name rs _ W hs hrs (HSL.out.below hW)
  have K0 : Hid (within size 12 512 = false → fitT id code typ ans cut name rs size = ⟨#[]⟩ ∧ fitE id code typ ans cut name rs size = 3) := fun h => by
    unfold fitT fitE
    rw [if_pos h, if_pos h]
    exact ⟨rfl, rfl⟩
  have K1 : Hid (within size 12 512 = true → chkMsg id code typ name rs ≠ 0 → fitT id code typ ans cut name rs size = ⟨#[]⟩ ∧ fitE id code typ ans cut name rs size = chkMsg id code typ name rs) := fun h h1 => by
    unfold fitT fitE
    rw [if_neg (by simp [h]), if_neg h1, if_neg (by simp [h]), if_neg h1]
    exact ⟨rfl, rfl⟩
  have K2 : Hid (within size 12 512 = true → chkMsg id code typ name rs = 0 → ∀ j, j ≤ rs.length → (∀ i, j < i → i ≤ rs.length → size < ((fitB id code typ ans cut name rs i).length : Int)) → ((fitB id code typ ans cut name rs j).length : Int) ≤ size → fitT id code typ ans cut name rs size = ⟨(fitB id code typ ans cut name rs j).toArray⟩ ∧ fitE id code typ ans cut name rs size = 0) := fun h h1 j hj hi hl => by
    unfold fitT fitE
    rw [if_neg (by simp [h]), if_pos h1, if_neg (by simp [h]), if_pos h1, fitN_yes hj hi hl]
    exact ⟨rfl, rfl⟩
  have K3 : Hid (within size 12 512 = true → chkMsg id code typ name rs = 0 → (∀ i, i ≤ rs.length → size < ((fitB id code typ ans cut name rs i).length : Int)) → fitT id code typ ans cut name rs size = ⟨#[]⟩ ∧ fitE id code typ ans cut name rs size = 2) := fun h h1 hi => by
    unfold fitT fitE
    rw [if_neg (by simp [h]), if_pos h1, if_neg (by simp [h]), if_pos h1, fitN_no hi]
    exact ⟨rfl, rfl⟩
  have HN20 : Hid (chkMsg id code typ name rs = 0 → rs.length ≤ 20) := fun h => (chkMsg_facts h).1
  have HNIL : Hid (pa = none → rs.length = 0) := fun h => by
    rcases hrow with h1 | ⟨b, off, h1, _⟩
    · rw [h1]; rfl
    · rw [h] at h1; cases h1
  have HSPOT : Hid (∀ p, pa = some p → 0 < rs.length → ∃ b off, p = ⟨b, off, none⟩) := fun p hp h => by
    rcases hrow with h1 | ⟨b, off, h1, _⟩
    · rw [h1] at h; simp at h
    · rw [hp] at h1; injection h1 with h1; exact ⟨b, off, h1⟩
  clear hs hrs hok hrow HSL
  generalize chkMsg id code typ name rs = E at *
  generalize fitT id code typ ans cut name rs size = RT at *
  generalize fitE id code typ ans cut name rs size = RE at *
  generalize fitB id code typ ans cut name rs = f at *
  generalize rs.length = n at *
  go_enter Tryd.func20, Tryd.ntmps20
  go_wp2_with fail
  obtain ⟨w0, hw0⟩ : ∃ w0, w0 = w.alloc (.cells #[.int .i64 id, .bool ans, .bool cut, .int .i64 code, .string name, .int .i64 typ, .slice pa n cap] 30) := ⟨_, rfl⟩
  have hg0 : w0.heap[w.heap.size]? = some (.cells #[.int .i64 id, .bool ans, .bool cut, .int .i64 code, .string name, .int .i64 typ, .slice pa n cap] 30 (0, 0)) := by rw [hw0]; exact heap_alloc_new w _
  have HB0 : Hid (Below w.heap.size w w0) := (show Below _ _ _ by rw [hw0]; exact (Below.refl _ _).alloc (Nat.le_refl _) _)
  have hl0 : w.heap.size < w0.heap.size := (Array.getElem?_eq_some_iff.1 hg0).1
  rw [← hw0]
  clear hw0
  refine (between_any _ _ _ _).mono ?_
  rintro e w00 ⟨rfl, hw00⟩
  subst hw00
  by_cases hwi : within size 12 512 = false
  · obtain ⟨e1, e2⟩ := K0.out hwi
    rw [hwi]
    go_wp2_with fail
    go_ret2
    exact ⟨by rw [e1, e2]; rfl, HB0.out⟩
  have hwt : within size 12 512 = true := by simpa using hwi
  have HK1 : Hid (E ≠ 0 → RT = ⟨#[]⟩ ∧ RE = E) := K1.out hwt
  have HK2 : Hid (E = 0 → ∀ j, j ≤ n → (∀ i, j < i → i ≤ n → size < ((f i).length : Int)) → ((f j).length : Int) ≤ size → RT = ⟨(f j).toArray⟩ ∧ RE = 0) := K2.out hwt
  have HK3 : Hid (E = 0 → (∀ i, i ≤ n → size < ((f i).length : Int)) → RT = ⟨#[]⟩ ∧ RE = 2) := K3.out hwt
  rw [hwt]
  clear K0 K1 K2 K3 hwi hwt
  have c0 : w00.cell? ⟨w.heap.size, 0, none⟩ = some (.int .i64 id) := cellsAt hg0 0
  have c1 : w00.cell? ⟨w.heap.size, 1, none⟩ = some (.bool ans) := cellsAt hg0 1
  have c2 : w00.cell? ⟨w.heap.size, 2, none⟩ = some (.bool cut) := cellsAt hg0 2
  have c3 : w00.cell? ⟨w.heap.size, 3, none⟩ = some (.int .i64 code) := cellsAt hg0 3
  have c4 : w00.cell? ⟨w.heap.size, 4, none⟩ = some (.string name) := cellsAt hg0 4
  have c5 : w00.cell? ⟨w.heap.size, 5, none⟩ = some (.int .i64 typ) := cellsAt hg0 5
  have c6 : w00.cell? ⟨w.heap.size, 6, none⟩ = some (.slice pa n cap) := cellsAt hg0 6
  go_wp2_with fail
  refine (HC.out w00 HB0.out).mono ?_
  rintro e w1 ⟨rfl, hb1⟩
  have HB1 : Hid (Below w.heap.size w w1) := HB0.out.trans (hb1.mono (Nat.le_of_lt hl0))
  have HG1 : Hid (w1.heap[w.heap.size]? = some (.cells #[.int .i64 id, .bool ans, .bool cut, .int .i64 code, .string name, .int .i64 typ, .slice pa n cap] 30 (0, 0))) := (hb1.block _ hl0).trans hg0
  clear hb1 hg0 HC c0 c1 c2 c3 c4 c5 c6
  by_cases h0 : E = 0
  · have HMB2 : Hid (∀ W, Below w.heap.size w W → ∀ j, j ≤ n → Calls Tryd.prog 14 #[.agg #[.int .i64 id, .bool ans, .bool (cut || decide (j < n)), .int .i64 code, .string name, .int .i64 typ, .slice pa j cap]] W fun e w' => e = .returned (.string ⟨(f j).toArray⟩) ∧ Below W.heap.size W w') := HMB.out h0
    have HJ2 : Hid (∀ j, j ≤ n → (∀ i, j < i → i ≤ n → size < ((f i).length : Int)) → ((f j).length : Int) ≤ size → RT = ⟨(f j).toArray⟩ ∧ RE = 0) := HK2.out h0
    have HJ3 : Hid ((∀ i, i ≤ n → size < ((f i).length : Int)) → RT = ⟨#[]⟩ ∧ RE = 2) := HK3.out h0
    have hn20 := HN20.out h0
    clear HMB HK1 HK2 HK3 HN20
    subst h0
    have d6 : w1.cell? ⟨w.heap.size, 6, none⟩ = some (.slice pa n cap) := cellsAt HG1.out 6
    go_wp2_with fail
    clear d6
    go_loopw [7] (fun nv wr => ∃ j : Nat, j ≤ n + 1 ∧ nv = .int .i64 ((j : Int) - 1) ∧ Hid (Below w.heap.size w wr) ∧ Hid (wr.heap[w.heap.size]? = some (.cells #[.int .i64 id, .bool ans, .bool cut, .int .i64 code, .string name, .int .i64 typ, .slice pa n cap] 30 (0, 0))) ∧ Hid (∀ i, j ≤ i → i ≤ n → size < ((f i).length : Int))) (fun nv _ => (intOf nv + 1).toNat)
    case atStart => exact ⟨n + 1, Nat.le_refl _, by go_num, HB1, HG1, fun i h1 h2 => by omega⟩
    case round =>
      obtain ⟨j, hj, rfl, HBR, HGR, HI⟩ := hrel
      have hsz := HBR.out.size
      have hlw : w.heap.size < wr.heap.size := (Array.getElem?_eq_some_iff.1 HGR.out).1
      rcases j with _ | k
      · obtain ⟨e1, e2⟩ := HJ3.out (fun i hi => HI.out i (Nat.zero_le _) hi)
        go_wp2_with fail
        go_ret2
        exact ⟨by rw [e1, e2]; rfl, HBR.out⟩
      · have hkk : (((k + 1 : Nat) : Int) - 1) = (k : Int) := by omega
        rw [hkk]
        have hk0 : (0 : Int) ≤ (k : Int) := by omega
        have hk1 : (k : Int) ≤ (cap : Int) := by omega
        have hk2 : ((k : Int)).toNat = k := by omega
        have hd0 : decide ((0 : Int) ≤ (k : Int)) = true := by simp
        have c0 : wr.cell? ⟨w.heap.size, 0, none⟩ = some (.int .i64 id) := cellsAt HGR.out 0
        have c1 : wr.cell? ⟨w.heap.size, 1, none⟩ = some (.bool ans) := cellsAt HGR.out 1
        have c2 : wr.cell? ⟨w.heap.size, 2, none⟩ = some (.bool cut) := cellsAt HGR.out 2
        have c3 : wr.cell? ⟨w.heap.size, 3, none⟩ = some (.int .i64 code) := cellsAt HGR.out 3
        have c4 : wr.cell? ⟨w.heap.size, 4, none⟩ = some (.string name) := cellsAt HGR.out 4
        have c5 : wr.cell? ⟨w.heap.size, 5, none⟩ = some (.int .i64 typ) := cellsAt HGR.out 5
        have c6 : wr.cell? ⟨w.heap.size, 6, none⟩ = some (.slice pa n cap) := cellsAt HGR.out 6
        cases cut
        · by_cases hkn : k < n
          · have hd9 : decide ((k : Int) < (n : Int)) = true := by simp; omega
            have HBW : Hid (Below w.heap.size w (wr.alloc (.cells #[.int .i64 id, .bool ans, .bool true, .int .i64 code, .string name, .int .i64 typ, .slice pa k cap] 30))) := HBR.out.alloc hsz _
            have HGW : Hid ((wr.alloc (.cells #[.int .i64 id, .bool ans, .bool true, .int .i64 code, .string name, .int .i64 typ, .slice pa k cap] 30)).heap[w.heap.size]? = some (.cells #[.int .i64 id, .bool ans, .bool false, .int .i64 code, .string name, .int .i64 typ, .slice pa n cap] 30 (0, 0))) := (Lib.alloc_old wr _ _ hlw).trans HGR.out
            have hlW : w.heap.size < (wr.alloc (.cells #[.int .i64 id, .bool ans, .bool true, .int .i64 code, .string name, .int .i64 typ, .slice pa k cap] 30)).heap.size := by simp <;> omega
            have HMK := HMB2.out (wr.alloc (.cells #[.int .i64 id, .bool ans, .bool true, .int .i64 code, .string name, .int .i64 typ, .slice pa k cap] 30)) HBW.out k (by omega)
            rw [show (false || decide (k < n)) = true by simp <;> omega] at HMK
            have HML : Hid (Calls Tryd.prog 14 #[.agg #[.int .i64 id, .bool ans, .bool true, .int .i64 code, .string name, .int .i64 typ, .slice pa k cap]] (wr.alloc (.cells #[.int .i64 id, .bool ans, .bool true, .int .i64 code, .string name, .int .i64 typ, .slice pa k cap] 30)) fun e w' => e = .returned (.string ⟨(f k).toArray⟩) ∧ Below (wr.alloc (.cells #[.int .i64 id, .bool ans, .bool true, .int .i64 code, .string name, .int .i64 typ, .slice pa k cap] 30)).heap.size (wr.alloc (.cells #[.int .i64 id, .bool ans, .bool true, .int .i64 code, .string name, .int .i64 typ, .slice pa k cap] 30)) w') := HMK
            clear HMK
            go_wp2_with fail
            refine HML.out.mono ?_
            rintro e w9 ⟨rfl, hb9⟩
            have HB9 : Hid (Below w.heap.size w w9) := HBW.out.trans (hb9.mono (Nat.le_of_lt hlW))
            have HG9 : Hid (w9.heap[w.heap.size]? = some (.cells #[.int .i64 id, .bool ans, .bool false, .int .i64 code, .string name, .int .i64 typ, .slice pa n cap] 30 (0, 0))) := (hb9.block _ hlW).trans HGW.out
            clear hb9 c0 c1 c2 c3 c4 c5 c6 HBW HGW hlW HML
            have hts : (⟨(f k).toArray⟩ : ByteArray).size = (f k).length := by simp [ByteArray.size]
            by_cases hbig : size < ((f k).length : Int)
            · have hd1 : decide (((⟨(f k).toArray⟩ : ByteArray).size : Int) ≤ size) = false := by rw [hts]; simpa using hbig
              have HI2 : Hid (∀ i, k ≤ i → i ≤ n → size < ((f i).length : Int)) := fun i h1 h2 => by
                rcases Nat.lt_or_ge k i with h | h
                · exact HI.out i h h2
                · obtain rfl : i = k := by omega
                  exact hbig
              generalize (⟨(f k).toArray⟩ : ByteArray) = T at *
              clear hts hbig HI
              go_wp2_with fail
              exact ⟨⟨k, by omega, by go_num, HB9, HG9, HI2⟩, by simp [intOf] <;> omega⟩
            · obtain ⟨e1, e2⟩ := HJ2.out k (by omega) (fun i h1 h2 => HI.out i h1 h2) (by omega)
              have hd1 : decide (((⟨(f k).toArray⟩ : ByteArray).size : Int) ≤ size) = true := by rw [hts]; simp <;> omega
              generalize (⟨(f k).toArray⟩ : ByteArray) = T at *
              clear hts hbig
              go_wp2_with fail
              go_ret2
              exact ⟨by rw [e1, e2]; rfl, HB9.out⟩
          · have hd9 : decide ((k : Int) < (n : Int)) = false := by simp; omega
            have HBW : Hid (Below w.heap.size w (wr.alloc (.cells #[.int .i64 id, .bool ans, .bool false, .int .i64 code, .string name, .int .i64 typ, .slice pa k cap] 30))) := HBR.out.alloc hsz _
            have HGW : Hid ((wr.alloc (.cells #[.int .i64 id, .bool ans, .bool false, .int .i64 code, .string name, .int .i64 typ, .slice pa k cap] 30)).heap[w.heap.size]? = some (.cells #[.int .i64 id, .bool ans, .bool false, .int .i64 code, .string name, .int .i64 typ, .slice pa n cap] 30 (0, 0))) := (Lib.alloc_old wr _ _ hlw).trans HGR.out
            have hlW : w.heap.size < (wr.alloc (.cells #[.int .i64 id, .bool ans, .bool false, .int .i64 code, .string name, .int .i64 typ, .slice pa k cap] 30)).heap.size := by simp <;> omega
            have HMK := HMB2.out (wr.alloc (.cells #[.int .i64 id, .bool ans, .bool false, .int .i64 code, .string name, .int .i64 typ, .slice pa k cap] 30)) HBW.out k (by omega)
            rw [show (false || decide (k < n)) = false by simp <;> omega] at HMK
            have HML : Hid (Calls Tryd.prog 14 #[.agg #[.int .i64 id, .bool ans, .bool false, .int .i64 code, .string name, .int .i64 typ, .slice pa k cap]] (wr.alloc (.cells #[.int .i64 id, .bool ans, .bool false, .int .i64 code, .string name, .int .i64 typ, .slice pa k cap] 30)) fun e w' => e = .returned (.string ⟨(f k).toArray⟩) ∧ Below (wr.alloc (.cells #[.int .i64 id, .bool ans, .bool false, .int .i64 code, .string name, .int .i64 typ, .slice pa k cap] 30)).heap.size (wr.alloc (.cells #[.int .i64 id, .bool ans, .bool false, .int .i64 code, .string name, .int .i64 typ, .slice pa k cap] 30)) w') := HMK
            clear HMK
            go_wp2_with fail
            refine HML.out.mono ?_
            rintro e w9 ⟨rfl, hb9⟩
            have HB9 : Hid (Below w.heap.size w w9) := HBW.out.trans (hb9.mono (Nat.le_of_lt hlW))
            have HG9 : Hid (w9.heap[w.heap.size]? = some (.cells #[.int .i64 id, .bool ans, .bool false, .int .i64 code, .string name, .int .i64 typ, .slice pa n cap] 30 (0, 0))) := (hb9.block _ hlW).trans HGW.out
            clear hb9 c0 c1 c2 c3 c4 c5 c6 HBW HGW hlW HML
            have hts : (⟨(f k).toArray⟩ : ByteArray).size = (f k).length := by simp [ByteArray.size]
            by_cases hbig : size < ((f k).length : Int)
            · have hd1 : decide (((⟨(f k).toArray⟩ : ByteArray).size : Int) ≤ size) = false := by rw [hts]; simpa using hbig
              have HI2 : Hid (∀ i, k ≤ i → i ≤ n → size < ((f i).length : Int)) := fun i h1 h2 => by
                rcases Nat.lt_or_ge k i with h | h
                · exact HI.out i h h2
                · obtain rfl : i = k := by omega
                  exact hbig
              generalize (⟨(f k).toArray⟩ : ByteArray) = T at *
              clear hts hbig HI
              go_wp2_with fail
              exact ⟨⟨k, by omega, by go_num, HB9, HG9, HI2⟩, by simp [intOf] <;> omega⟩
            · obtain ⟨e1, e2⟩ := HJ2.out k (by omega) (fun i h1 h2 => HI.out i h1 h2) (by omega)
              have hd1 : decide (((⟨(f k).toArray⟩ : ByteArray).size : Int) ≤ size) = true := by rw [hts]; simp <;> omega
              generalize (⟨(f k).toArray⟩ : ByteArray) = T at *
              clear hts hbig
              go_wp2_with fail
              go_ret2
              exact ⟨by rw [e1, e2]; rfl, HB9.out⟩
        · have HBW : Hid (Below w.heap.size w (wr.alloc (.cells #[.int .i64 id, .bool ans, .bool true, .int .i64 code, .string name, .int .i64 typ, .slice pa k cap] 30))) := HBR.out.alloc hsz _
          have HGW : Hid ((wr.alloc (.cells #[.int .i64 id, .bool ans, .bool true, .int .i64 code, .string name, .int .i64 typ, .slice pa k cap] 30)).heap[w.heap.size]? = some (.cells #[.int .i64 id, .bool ans, .bool true, .int .i64 code, .string name, .int .i64 typ, .slice pa n cap] 30 (0, 0))) := (Lib.alloc_old wr _ _ hlw).trans HGR.out
          have hlW : w.heap.size < (wr.alloc (.cells #[.int .i64 id, .bool ans, .bool true, .int .i64 code, .string name, .int .i64 typ, .slice pa k cap] 30)).heap.size := by simp <;> omega
          have HMK := HMB2.out (wr.alloc (.cells #[.int .i64 id, .bool ans, .bool true, .int .i64 code, .string name, .int .i64 typ, .slice pa k cap] 30)) HBW.out k (by omega)
          rw [show (true || decide (k < n)) = true by simp <;> omega] at HMK
          have HML : Hid (Calls Tryd.prog 14 #[.agg #[.int .i64 id, .bool ans, .bool true, .int .i64 code, .string name, .int .i64 typ, .slice pa k cap]] (wr.alloc (.cells #[.int .i64 id, .bool ans, .bool true, .int .i64 code, .string name, .int .i64 typ, .slice pa k cap] 30)) fun e w' => e = .returned (.string ⟨(f k).toArray⟩) ∧ Below (wr.alloc (.cells #[.int .i64 id, .bool ans, .bool true, .int .i64 code, .string name, .int .i64 typ, .slice pa k cap] 30)).heap.size (wr.alloc (.cells #[.int .i64 id, .bool ans, .bool true, .int .i64 code, .string name, .int .i64 typ, .slice pa k cap] 30)) w') := HMK
          clear HMK
          go_wp2_with fail
          refine HML.out.mono ?_
          rintro e w9 ⟨rfl, hb9⟩
          have HB9 : Hid (Below w.heap.size w w9) := HBW.out.trans (hb9.mono (Nat.le_of_lt hlW))
          have HG9 : Hid (w9.heap[w.heap.size]? = some (.cells #[.int .i64 id, .bool ans, .bool true, .int .i64 code, .string name, .int .i64 typ, .slice pa n cap] 30 (0, 0))) := (hb9.block _ hlW).trans HGW.out
          clear hb9 c0 c1 c2 c3 c4 c5 c6 HBW HGW hlW HML
          have hts : (⟨(f k).toArray⟩ : ByteArray).size = (f k).length := by simp [ByteArray.size]
          by_cases hbig : size < ((f k).length : Int)
          · have hd1 : decide (((⟨(f k).toArray⟩ : ByteArray).size : Int) ≤ size) = false := by rw [hts]; simpa using hbig
            have HI2 : Hid (∀ i, k ≤ i → i ≤ n → size < ((f i).length : Int)) := fun i h1 h2 => by
              rcases Nat.lt_or_ge k i with h | h
              · exact HI.out i h h2
              · obtain rfl : i = k := by omega
                exact hbig
            generalize (⟨(f k).toArray⟩ : ByteArray) = T at *
            clear hts hbig HI
            go_wp2_with fail
            exact ⟨⟨k, by omega, by go_num, HB9, HG9, HI2⟩, by simp [intOf] <;> omega⟩
          · obtain ⟨e1, e2⟩ := HJ2.out k (by omega) (fun i h1 h2 => HI.out i h1 h2) (by omega)
            have hd1 : decide (((⟨(f k).toArray⟩ : ByteArray).size : Int) ≤ size) = true := by rw [hts]; simp <;> omega
            generalize (⟨(f k).toArray⟩ : ByteArray) = T at *
            clear hts hbig
            go_wp2_with fail
            go_ret2
            exact ⟨by rw [e1, e2]; rfl, HB9.out⟩
  · obtain ⟨e1, e2⟩ := HK1.out h0
    have h1 : (E != 0) = true := by simpa using h0
    go_wp2_with fail
    go_ret2
    exact ⟨by rw [e1, e2]; rfl, HB1.out⟩

end Go.Proofs.YtogmkdhljifbpaaDoor

/- The reader: take, peek. -/
namespace Go.Proofs.YtogmkdhljifbpaaDoor
open Go.RowKit

set_option maxHeartbeats 1600000 in
set_option maxRecDepth 100000 in
theorem take_ok (g a n : Nat) (t : ByteArray) (w : World) (c0 : w.cell? ⟨g, 0, none⟩ = some (.string t)) (c1 : w.cell? ⟨g, 1, none⟩ = some (.int .i64 a)) (hz : w.frozen? ⟨g, 1, none⟩ = false) (hs : t.size ≤ 1000) (han : a + n ≤ t.size) :
    Calls Tryd.prog 69 #[.pointer (some ⟨g, 0, none⟩), .int .i64 n] w fun e w' => e = .returned (.string (t.extract a (a + n))) ∧ ∃ m, w' = (w.setCell ⟨g, 1, none⟩ (.int .i64 ((a : Int) + (n : Int)))).drew.drewN m := by
  have h1 : IntKind.i64.wrap ((t.size : Int) - (a : Int)) = (t.size : Int) - (a : Int) := by rw [IntKind.wrap_i64]; omega
  have h2 : decide ((n : Int) ≤ (t.size : Int) - (a : Int)) = true := by simp; omega
  have h3 : IntKind.i64.wrap ((a : Int) + (n : Int)) = ((a + n : Nat) : Int) := by rw [IntKind.wrap_i64]; omega
  have h4 : IntKind.i64.wrap (((a + n : Nat) : Int) - (n : Int)) = (a : Int) := by rw [IntKind.wrap_i64]; omega
  go_enter Tryd.func69, Tryd.ntmps69
  go_wp2_with fail
  go_region_held3 (fun w' => w'.cell? ⟨g, 0, none⟩ = some (.string t) ∧ w'.cell? ⟨g, 1, none⟩ = some (.int .i64 a)) (go_keep) (first | (go_at_call 49; refine (need_ok _ _).mono ?_; rintro e w5 ⟨rfl, rfl⟩) | fail)
  go_wp2_with fail
  have hi0 : (0 : Int) ≤ (a : Int) := by omega
  have hi1 : (a : Int) ≤ ((a + n : Nat) : Int) := by omega
  have hi2 : ((a + n : Nat) : Int) ≤ (t.size : Int) := by omega
  have hi3 : ((a : Int)).toNat = a := by omega
  have hi4 : (((a + n : Nat) : Int)).toNat = a + n := by omega
  go_quiet (fail)
  go_wp2_with fail
  go_ret
  exact ⟨rfl, _, rfl⟩

end Go.Proofs.YtogmkdhljifbpaaDoor

/- The reader: peek, numbers. -/
namespace Go.Proofs.YtogmkdhljifbpaaDoor
open Go.RowKit

set_option maxHeartbeats 1600000 in
set_option maxRecDepth 100000 in
theorem peek_ok (g a : Nat) (t : ByteArray) (w : World) (c0 : w.cell? ⟨g, 0, none⟩ = some (.string t)) (c1 : w.cell? ⟨g, 1, none⟩ = some (.int .i64 a)) (ha : a < t.size) :
    Calls Tryd.prog 70 #[.pointer (some ⟨g, 0, none⟩)] w fun e w' => e = .returned (.int .u8 (t[a].toNat : Int)) ∧ ∃ m, w' = w.drew.drewN m := by
  have h2 : decide ((a : Int) < (t.size : Int)) = true := by simp; omega
  have hi0 : (0 : Int) ≤ (a : Int) := by omega
  have hi1 : (a : Int) < (t.size : Int) := by omega
  have hi3 : ((a : Int)).toNat = a := by omega
  go_enter Tryd.func70, Tryd.ntmps70
  go_wp2_with fail
  go_region_held3 (fun w' => w'.cell? ⟨g, 0, none⟩ = some (.string t) ∧ w'.cell? ⟨g, 1, none⟩ = some (.int .i64 a)) (go_keep) (first | (go_at_call 49; refine (need_ok _ _).mono ?_; rintro e w5 ⟨rfl, rfl⟩) | fail)
  go_wp2_with fail
  go_quiet (fail)
  go_wp2_with fail
  go_ret
  exact ⟨rfl, _, rfl⟩

end Go.Proofs.YtogmkdhljifbpaaDoor

/- The reader: numbers. -/
namespace Go.Proofs.YtogmkdhljifbpaaDoor
open Go.RowKit

/-- The number that k bytes from a on say, the high ones first. -/
def rnum (t : ByteArray) (a : Nat) : Nat → Nat
  | 0 => 0
  | k + 1 => rnum t a k * 256 + (t.data[a + k]?.getD 0).toNat

theorem rnum_lt (t : ByteArray) (a : Nat) : ∀ k, rnum t a k < 256 ^ k
  | 0 => by simp [rnum]
  | k + 1 => by
    have h := rnum_lt t a k
    have h2 := (t.data[a + k]?.getD 0).toNat_lt
    simp only [rnum, Nat.pow_succ]
    omega

theorem or_byte (x b : Nat) (hx : x < 4294967296) (hb : b < 256) : bits .or .i64 ((x : Int) * 256) (wrap64 (b : Int)) = ((x * 256 + b : Nat) : Int) := by
  have h1 : ((x : Int) * 256) = ((x * 256 : Nat) : Int) := by omega
  have h2 : wrap64 (b : Int) = (b : Int) := by unfold wrap64; omega
  have h3 : x * 256 ||| b = x * 256 + b := by
    rw [show x * 256 = 2 ^ 8 * x by omega, ← Nat.two_pow_add_eq_or_of_lt (i := 8) hb]
  rw [h1, h2]
  show IntKind.i64.wrap (((BitVec.ofInt 64 ((x * 256 : Nat) : Int)) ||| (BitVec.ofInt 64 (b : Int))).toNat : Int) = _
  rw [BitVec.toNat_or, BitVec.ofInt_natCast, BitVec.ofInt_natCast, BitVec.toNat_ofNat, BitVec.toNat_ofNat, Nat.mod_eq_of_lt (by omega), Nat.mod_eq_of_lt (by omega), h3, IntKind.wrap_i64]
  omega

set_option maxRecDepth 100000 in
theorem run_bytesW (w : World) (s : ByteArray) : w.drew.alloc (.cells (bytesRow s (grownCap w s.size 0 5)) 5 ((bytesRow s (grownCap w s.size 0 5)).size, (bytesRow s (grownCap w s.size 0 5)).size + 1)) = Lib.bytesWorld w 5 s := by
  have h1 := Lib.run_convert_string_bytes (P := Tryd.prog) w 9 77 5 s (u := .string) Tryd.underlying9 Tryd.underlying77 Tryd.underlying5
  have h2 := run_bytes_of_string (P := Tryd.prog) w 9 77 5 s Tryd.underlying9 Tryd.underlying77 Tryd.underlying5
  rw [h1] at h2
  injection h2 with _ h
  exact h.symm

set_option maxHeartbeats 1600000 in
set_option maxRecDepth 100000 in
theorem rnumber_ok (g a n : Nat) (t : ByteArray) (w : World) (c0 : w.cell? ⟨g, 0, none⟩ = some (.string t)) (c1 : w.cell? ⟨g, 1, none⟩ = some (.int .i64 a)) (hz : w.frozen? ⟨g, 1, none⟩ = false) (hs : t.size ≤ 1000) (han : a + n ≤ t.size) (hn : n ≤ 4) :
    Calls Tryd.prog 56 #[.pointer (some ⟨g, 0, none⟩), .int .i64 n] w fun e w' => e = .returned (.int .i64 (rnum t a n)) ∧ (w.setCell ⟨g, 1, none⟩ (.int .i64 ((a : Int) + (n : Int)))).Extends w' := by
  have HT : Hid (Calls Tryd.prog 69 #[.pointer (some ⟨g, 0, none⟩), .int .i64 n] w fun e w' => e = .returned (.string (t.extract a (a + n))) ∧ ∃ m, w' = (w.setCell ⟨g, 1, none⟩ (.int .i64 ((a : Int) + (n : Int)))).drew.drewN m) := take_ok g a n t w c0 c1 hz hs han
  have hsz : (t.extract a (a + n)).size = n := by simp; omega
  have hcv := fun w s => Lib.run_convert_string_bytes (P := Tryd.prog) w 9 77 5 s (u := .string) Tryd.underlying9 Tryd.underlying77 Tryd.underlying5
  have hB := fun w j hj => Lib.bytesWorld_cell w 5 (t.extract a (a + n)) j hj
  go_enter Tryd.func56, Tryd.ntmps56
  go_wp2_with fail
  refine HT.out.mono ?_
  rintro e w1 ⟨rfl, m, rfl⟩
  go_wp2_with fail
  obtain ⟨W0, hW0⟩ : ∃ W0, W0 = (w.setCell ⟨g, 1, none⟩ (.int .i64 ((a : Int) + (n : Int)))).drewN (1 + m) := ⟨_, rfl⟩
  rw [← hW0]
  have hB' : ∀ j, j < n → (Lib.bytesWorld W0 5 (t.extract a (a + n))).cell? ⟨W0.heap.size, j, none⟩ = some (.int .u8 ((t.extract a (a + n)).data.toList.getD j 0).toNat) := fun j hj => hB W0 j (by omega)
  have hX : W0.Extends (Lib.bytesWorld W0 5 (t.extract a (a + n))) := by
    rw [← run_bytesW W0 (t.extract a (a + n))]
    exact (World.Extends.refl W0).drew.alloc _
  have hX0 : (w.setCell ⟨g, 1, none⟩ (.int .i64 ((a : Int) + (n : Int)))).Extends W0 := by
    subst hW0
    generalize 1 + m = q
    exact ⟨rfl, rfl, rfl, Nat.le_refl _, fun _ _ => rfl, fun _ _ => rfl, fun _ _ => rfl⟩
  have hXX := hX0.trans hX
  obtain ⟨W1, hW1⟩ : ∃ W1, W1 = Lib.bytesWorld W0 5 (t.extract a (a + n)) := ⟨_, rfl⟩
  have hsW : W0.heap.size = w.heap.size := by rw [hW0]; simp
  rw [hsW] at hB'
  rw [← hW1] at hB' hXX ⊢
  clear hB hcv hX hX0 hW1 hW0
  go_loop [5, 13] (fun vn vi => ∃ (k : Nat) (x : Nat), vn = .int .i64 x ∧ vi = .int .i64 k ∧ k ≤ n ∧ Hid (x = rnum t a k))
    (fun _ vi => n - (intOf vi).toNat)
  case atStart => exact ⟨0, 0, rfl, rfl, by omega, rfl⟩
  case round =>
    obtain ⟨k, x, rfl, rfl, hk, hx⟩ := hrel
    by_cases hkn : k < n
    · have hc : decide ((k : Int) < (n : Int)) = true := by simp; omega
      have hcell := hB' k hkn
      have hi0 : (0 : Int) ≤ (k : Int) := by omega
      have hi1 : (k : Int) < (n : Int) := by omega
      have hi2 : ((k : Int)).toNat = k := by omega
      have hxl : x < 4294967296 := by
        have h := rnum_lt t a k
        have h3 : (256 : Nat) ^ k ≤ 256 ^ 3 := Nat.pow_le_pow_right (by omega) (by omega)
        rw [← hx.out] at h
        omega
      have hor := or_byte x (t.data[a + k]?.getD 0).toNat hxl (UInt8.toNat_lt _)
      have hH : Hid (x * 256 + (t.data[a + k]?.getD 0).toNat = rnum t a (k + 1)) := by
        show _ = _
        rw [hx.out]
        rfl
      go_wp2_with fail
      refine ⟨⟨k + 1, _, by simp, by simp, by omega, hH⟩, by simp [intOf]; omega⟩
    · have hc : decide ((k : Int) < (n : Int)) = false := by simp; omega
      have hkn2 : k = n := by omega
      have hH : Hid (x = rnum t a n) := by rw [← hkn2]; exact hx
      go_wp2_with fail
      simp [bodyPost, results, Tryd.results56]
      exact ⟨by rw [hH.out], hXX⟩

end Go.Proofs.YtogmkdhljifbpaaDoor

/- The reader: what it holds (IsR), expect, counted. -/
namespace Go.Proofs.YtogmkdhljifbpaaDoor
open Go.RowKit

/-- At g lies a reader of t that is at a. -/
structure IsR (g : Nat) (t : ByteArray) (a : Nat) (w : World) : Prop where
  c0 : w.cell? ⟨g, 0, none⟩ = some (.string t)
  c1 : w.cell? ⟨g, 1, none⟩ = some (.int .i64 a)
  hz : w.frozen? ⟨g, 1, none⟩ = false
  hg : g < w.heap.size

theorem IsR.move {g a b : Nat} {t : ByteArray} {w w' : World} (h : IsR g t a w) (hx : (w.setCell ⟨g, 1, none⟩ (.int .i64 (b : Int))).Extends w') : IsR g t b w' where
  c0 := by
    refine hx.cell_of ?_
    have := h.c0
    exact (World.cell?_setCell_other _ _ _ _ (by simp)).trans this
  c1 := hx.cell_of (World.cell?_setCell_same _ _ _ h.c1)
  hz := by rw [hx.frozen _ (by simp; exact h.hg)]; simpa using h.hz
  hg := by have := hx.size; simp at this; have := h.hg; omega

set_option maxHeartbeats 1600000 in
set_option maxRecDepth 100000 in
theorem expect_ok (g a n : Nat) (t : ByteArray) (w : World) (h : IsR g t a w) (hs : t.size ≤ 1000) (han : a + n ≤ t.size) (hn : n ≤ 4) :
    Calls Tryd.prog 58 #[.pointer (some ⟨g, 0, none⟩), .int .i64 n, .int .i64 (rnum t a n)] w fun e w' => e = .returned (.tuple #[]) ∧ (w.setCell ⟨g, 1, none⟩ (.int .i64 ((a + n : Nat) : Int))).Extends w' := by
  have HT : Hid (Calls Tryd.prog 56 #[.pointer (some ⟨g, 0, none⟩), .int .i64 n] w fun e w' => e = .returned (.int .i64 (rnum t a n)) ∧ (w.setCell ⟨g, 1, none⟩ (.int .i64 ((a : Int) + (n : Int)))).Extends w') := rnumber_ok g a n t w h.c0 h.c1 h.hz hs han hn
  go_enter Tryd.func58, Tryd.ntmps58
  go_wp2_with fail
  refine HT.out.mono ?_
  rintro e w1 ⟨rfl, hx⟩
  have hX : Hid ((w.setCell ⟨g, 1, none⟩ (.int .i64 ((a + n : Nat) : Int))).Extends w1) := by
    rw [Int.natCast_add]
    exact hx
  clear hx
  go_wp2_with fail
  refine (need_ok _ _).mono ?_
  rintro e w5 ⟨rfl, rfl⟩
  go_wp2_with fail
  simp [bodyPost, results, Tryd.results58]
  simpa using hX.out

set_option maxHeartbeats 1600000 in
set_option maxRecDepth 100000 in
theorem counted_ok (g a : Nat) (t : ByteArray) (w : World) (h : IsR g t a w) (hs : t.size ≤ 1000) (han : a + 1 + rnum t a 1 ≤ t.size) :
    Calls Tryd.prog 73 #[.pointer (some ⟨g, 0, none⟩)] w fun e w' => e = .returned (.string (t.extract (a + 1) (a + 1 + rnum t a 1))) ∧ ∃ w1, (w.setCell ⟨g, 1, none⟩ (.int .i64 ((a + 1 : Nat) : Int))).Extends w1 ∧ (w1.setCell ⟨g, 1, none⟩ (.int .i64 ((a + 1 + rnum t a 1 : Nat) : Int))).Extends w' := by
  have HT : Hid (Calls Tryd.prog 56 #[.pointer (some ⟨g, 0, none⟩), .int .i64 1] w fun e w' => e = .returned (.int .i64 (rnum t a 1)) ∧ (w.setCell ⟨g, 1, none⟩ (.int .i64 ((a : Int) + ((1 : Nat) : Int)))).Extends w') := rnumber_ok g a 1 t w h.c0 h.c1 h.hz hs (by omega) (by omega)
  go_enter Tryd.func73, Tryd.ntmps73
  go_wp2_with fail
  refine HT.out.mono ?_
  rintro e w1 ⟨rfl, hx⟩
  have hX : Hid ((w.setCell ⟨g, 1, none⟩ (.int .i64 ((a + 1 : Nat) : Int))).Extends w1) := by
    rw [Int.natCast_add]
    exact hx
  clear hx
  have h1 := h.move hX.out
  have HT2 : Hid (Calls Tryd.prog 69 #[.pointer (some ⟨g, 0, none⟩), .int .i64 (rnum t a 1 : Nat)] w1 fun e w' => e = .returned (.string (t.extract (a + 1) (a + 1 + rnum t a 1))) ∧ ∃ m, w' = (w1.setCell ⟨g, 1, none⟩ (.int .i64 (((a + 1 : Nat) : Int) + ((rnum t a 1 : Nat) : Int)))).drew.drewN m) := take_ok g (a + 1) (rnum t a 1) t w1 h1.c0 h1.c1 h1.hz hs han
  go_wp2_with fail
  refine HT2.out.mono ?_
  rintro e w2 ⟨rfl, m, rfl⟩
  go_wp2_with fail
  simp [bodyPost, results, Tryd.results73]
  refine ⟨w1, by simpa using hX.out, ?_⟩
  exact ⟨rfl, rfl, rfl, Nat.le_refl _, fun _ _ => rfl, fun _ _ => rfl, fun _ _ => rfl⟩

end Go.Proofs.YtogmkdhljifbpaaDoor

/- dns.small of a text with no capital. -/
namespace Go.Proofs.YtogmkdhljifbpaaDoor
open Go.RowKit

set_option maxHeartbeats 1600000 in
set_option maxRecDepth 100000 in
theorem small_same (s : ByteArray) (w : World) (hs : s.size ≤ 1000) (hlow : ∀ j, j < s.size → 90 < (s.data.toList.getD j 0).toNat ∨ (s.data.toList.getD j 0).toNat < 65) :
    Calls Tryd.prog 72 #[.string s] w fun e w' => e = .returned (.string s) ∧ w.Extends w' := by
  have hcv := fun w s => Lib.run_convert_string_bytes (P := Tryd.prog) w 9 77 5 s (u := .string) Tryd.underlying9 Tryd.underlying77 Tryd.underlying5
  have hB' : ∀ j, j < s.size → (Lib.bytesWorld w 5 s).cell? ⟨w.heap.size, j, none⟩ = some (.int .u8 (s.data.toList.getD j 0).toNat) := fun j hj => Lib.bytesWorld_cell w 5 s j hj
  have hX : w.Extends (Lib.bytesWorld w 5 s) := by
    rw [← run_bytesW w s]
    exact (World.Extends.refl w).drew.alloc _
  obtain ⟨W1, hW1⟩ : ∃ W1, W1 = Lib.bytesWorld w 5 s := ⟨_, rfl⟩
  go_enter Tryd.func72, Tryd.ntmps72
  go_wp2_with fail
  rw [← hW1] at hB' hX ⊢
  clear hcv hW1
  have hsz2 : s.data.toList.length = s.size := by simp
  have hbk : ∀ cap, (convert 77 9 (.slice (some ⟨w.heap.size, 0, none⟩) s.size cap)).run Tryd.prog W1 = .ok (.string s) W1 := fun cap => by
    have h := run_convert_bytes_back (P := Tryd.prog) W1 77 9 5 ⟨w.heap.size, 0, none⟩ cap s.data.toList Tryd.underlying77 Tryd.underlying5 Tryd.underlying9 (fun j hj => by
      have h2 := hB' j (by omega)
      rw [List.getD_eq_getElem?_getD, List.getElem?_eq_getElem hj] at h2
      have ha : (⟨w.heap.size, 0, none⟩ : Addr).add j = ⟨w.heap.size, j, none⟩ := by
        by_cases hj0 : j = 0 <;> simp [Addr.add, hj0]
      rw [ha]
      simpa using h2)
    rw [hsz2] at h
    exact h
  go_loopw [10] (fun vi wr => ∃ (k : Nat), vi = .int .i64 k ∧ k ≤ s.size ∧ wr = W1)
    (fun vi _ => s.size - (intOf vi).toNat)
  case atStart => exact ⟨0, rfl, by omega, rfl⟩
  case round =>
    obtain ⟨k, rfl, hk, rfl⟩ := hrel
    by_cases hkn : k < s.size
    · have hc : decide ((k : Int) < (s.size : Int)) = true := by simp; omega
      have hcell := hB' k hkn
      have hi0 : (0 : Int) ≤ (k : Int) := by omega
      have hi1 : (k : Int) < (s.size : Int) := by omega
      have hi2 : ((k : Int)).toNat = k := by omega
      have hl := hlow k hkn
      generalize hb : (s.data.toList.getD k 0).toNat = b at hcell hl
      clear hB' hlow hbk hb
      have hnot : (decide ((65 : Int) ≤ (b : Int)) && decide ((b : Int) ≤ 90)) = false := by
        rcases hl with h | h <;> simp <;> omega
      by_cases h65 : 65 ≤ b
      · have hd1 : decide ((65 : Int) ≤ (b : Int)) = true := by simp; omega
        have hd2 : decide ((b : Int) ≤ 90) = false := by simp; omega
        go_wp2_with fail
        refine ⟨⟨k + 1, by simp, by omega, trivial⟩, by simp [intOf]; omega⟩
      · have hd1 : decide ((65 : Int) ≤ (b : Int)) = false := by simp; omega
        go_wp2_with fail
        refine ⟨⟨k + 1, by simp, by omega, trivial⟩, by simp [intOf]; omega⟩
    · have hc : decide ((k : Int) < (s.size : Int)) = false := by simp; omega
      go_wp2_with fail
      simp [bodyPost, results, Tryd.results72]
      exact hX

end Go.Proofs.YtogmkdhljifbpaaDoor

