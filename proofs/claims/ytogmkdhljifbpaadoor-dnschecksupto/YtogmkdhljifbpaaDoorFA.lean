/- Write, of a message without records. -/
import Derived.Test.YtogmkdhljifbpaaDoorF9
namespace Go.Proofs.YtogmkdhljifbpaaDoor
open Go.RowKit

set_option maxHeartbeats 800000 in
set_option maxRecDepth 100000 in
theorem write1_ok (g : Nat) (id code typ : Int) (ans cut : Bool) (name : ByteArray) (w : World) (hg : w.heap[g]? = some (.cells #[.int .i64 id, .bool ans, .bool cut, .int .i64 code, .string name, .int .i64 typ, .slice none 0 0] 30 (0, 0))) (h1 : within id 0 65535 = true) (h2 : within code 0 15 = true) (hs : name.size ≤ maxLen) (hn : chkN name = 0) (ht : (decide (typ = 1) || decide (typ = 16) || decide (typ = 33)) = true) :
    Calls Tryd.prog 29 #[.pointer (some ⟨g, 0, none⟩)] w fun r w' => r = .returned (.tuple #[]) ∧ Below w.heap.size w w' := by
  have HC : Hid (Calls Tryd.prog 30 #[.agg #[.int .i64 id, .bool ans, .bool cut, .int .i64 code, .string name, .int .i64 typ, .slice none 0 0]] w fun r w' => r = .returned (.tuple #[]) ∧ Below w.heap.size w w') := check_none id code typ ans cut name w h1 h2 hs hn ht
  have c0 : w.cell? ⟨g, 0, none⟩ = some (.int .i64 id) := cellsAt hg 0
  have c1 : w.cell? ⟨g, 1, none⟩ = some (.bool ans) := cellsAt hg 1
  have c2 : w.cell? ⟨g, 2, none⟩ = some (.bool cut) := cellsAt hg 2
  have c3 : w.cell? ⟨g, 3, none⟩ = some (.int .i64 code) := cellsAt hg 3
  have c4 : w.cell? ⟨g, 4, none⟩ = some (.string name) := cellsAt hg 4
  have c5 : w.cell? ⟨g, 5, none⟩ = some (.int .i64 typ) := cellsAt hg 5
  have c6 : w.cell? ⟨g, 6, none⟩ = some (.slice none 0 0) := cellsAt hg 6
  clear h1 h2 hs hn ht hg
  go_enter Tryd.func29, Tryd.ntmps29
  go_wp2_with fail
  refine HC.out.mono ?_
  rintro e w1 ⟨rfl, hb1⟩
  have HB1 : Hid (Below w.heap.size w w1) := hb1
  clear hb1
  go_wp2_with fail
  simp [bodyPost, results, Tryd.results29]
  exact HB1.out

set_option maxHeartbeats 1600000 in
set_option maxRecDepth 100000 in
theorem write_none (id code typ : Int) (ans cut : Bool) (name : ByteArray) (w : World) (hm : ML w) (h1 : within id 0 65535 = true) (h2 : within code 0 15 = true) (hs : name.size ≤ maxLen) (hn : chkN name = 0) (ht : (decide (typ = 1) || decide (typ = 16) || decide (typ = 33)) = true) (hl : (wmsgL id code typ ans cut name).length ≤ 512) :
    Calls Tryd.prog 12 #[msgV id code typ ans cut name] w fun e w' => e = .returned (.tuple #[.string ⟨(wmsgL id code typ ans cut name).toArray⟩, .int .i64 0]) ∧ Below w.heap.size w w' := by
  have HWR : Hid (∀ W, Below w.heap.size w W → Calls Tryd.prog 31 #[msgV id code typ ans cut name] W fun e w' => e = .returned (.string ⟨(wmsgL id code typ ans cut name).toArray⟩) ∧ Below W.heap.size W w') := fun W hW => written_none id code typ ans cut name W (hm.below hW) hn
  have HW1 : Hid (∀ (g : Nat) (W : World), W.heap[g]? = some (.cells #[.int .i64 id, .bool ans, .bool cut, .int .i64 code, .string name, .int .i64 typ, .slice none 0 0] 30 (0, 0)) → Calls Tryd.prog 29 #[.pointer (some ⟨g, 0, none⟩)] W fun r w' => r = .returned (.tuple #[]) ∧ Below W.heap.size W w') := fun g W hg => write1_ok g id code typ ans cut name W hg h1 h2 hs hn ht
  have ef : ∀ args W, (callFunc 29 args).run Tryd.prog W = .ok (.enter 29 args) W := enters_of Tryd.func29 (by kernel_rfl) rfl
  have hlen : ((⟨(wmsgL id code typ ans cut name).toArray⟩ : ByteArray).size : Int) ≤ 512 := by
    have : (⟨(wmsgL id code typ ans cut name).toArray⟩ : ByteArray).size = (wmsgL id code typ ans cut name).length := by simp [ByteArray.size]
    omega
  generalize (⟨(wmsgL id code typ ans cut name).toArray⟩ : ByteArray) = T at *
  clear h1 h2 hs hn ht hl hm
  go_enter Tryd.func12, Tryd.ntmps12
  go_wp2_with fail
  obtain ⟨w0, hw0⟩ : ∃ w0, w0 = w.alloc (.cells #[.int .i64 id, .bool ans, .bool cut, .int .i64 code, .string name, .int .i64 typ, .slice none 0 0] 30) := ⟨_, rfl⟩
  rw [← hw0]
  have hg0 : w0.heap[w.heap.size]? = some (.cells #[.int .i64 id, .bool ans, .bool cut, .int .i64 code, .string name, .int .i64 typ, .slice none 0 0] 30 (0, 0)) := by rw [hw0]; exact heap_alloc_new w _
  have HB0 : Hid (Below w.heap.size w w0) := (show Below _ _ _ by rw [hw0]; exact (Below.refl _ _).alloc (Nat.le_refl _) _)
  have hl0 : w.heap.size < w0.heap.size := (Array.getElem?_eq_some_iff.1 hg0).1
  clear hw0
  have hge : (w0.alloc (.cells #[.int .i64 0] 23)).heap[w0.heap.size]? = some (.cells #[.int .i64 0] 23 (0, 0)) := heap_alloc_new w0 _
  have hgm : (w0.alloc (.cells #[.int .i64 0] 23)).heap[w.heap.size]? = some (.cells #[.int .i64 id, .bool ans, .bool cut, .int .i64 code, .string name, .int .i64 typ, .slice none 0 0] 30 (0, 0)) := (Lib.alloc_old w0 _ _ hl0).trans hg0
  have hsa : (w0.alloc (.cells #[.int .i64 0] 23)).heap.size = w0.heap.size + 1 := by simp
  have HAT : Hid (Calls Tryd.prog 28 #[.func (.func 29) #[] #[.pointer (some ⟨w.heap.size, 0, none⟩)]] w0 fun r w' => r = .returned (.int .i64 0) ∧ Below w0.heap.size w0 w') := (show Calls _ _ _ _ _ by
    refine (attempt_ok 29 #[.pointer (some ⟨w.heap.size, 0, none⟩)] w0 (fun W => Below (w0.heap.size + 1) (w0.alloc (.cells #[.int .i64 0] 23)) W) ef ?_).mono ?_
    · refine (HW1.out w.heap.size _ hgm).mono ?_
      rintro r w' ⟨rfl, hb⟩
      rw [hsa] at hb
      have hk : w'.heap[w0.heap.size]? = some (.cells #[.int .i64 0] 23 (0, 0)) := (hb.block _ (by omega)).trans hge
      exact ⟨rfl, hb, cellsAt hk 0, by simp [World.frozen?, hk], (Array.getElem?_eq_some_iff.1 hk).1⟩
    · rintro r w' ⟨rfl, w1, hR, _, rfl⟩
      exact ⟨rfl, (((Below.refl _ _).alloc (Nat.le_refl _) _).trans (hR.mono (by omega))).setCell (p := ⟨w0.heap.size, 0, none⟩) (Nat.le_refl _) _⟩)
  have HC : Hid (∀ W, Below w0.heap.size w0 W → W.heap[w.heap.size]? = some (.cells #[.int .i64 id, .bool ans, .bool cut, .int .i64 code, .string name, .int .i64 typ, .slice none 0 0] 30 (0, 0))) := fun W hW => (hW.block _ hl0).trans hg0
  clear hge hgm hsa hg0 HW1 ef
  refine HAT.out.mono ?_
  rintro e w1 ⟨rfl, hb1⟩
  have HB1 : Hid (Below w.heap.size w w1) := HB0.out.trans (hb1.mono (Nat.le_of_lt hl0))
  have hg1 := HC.out w1 hb1
  have c0 : w1.cell? ⟨w.heap.size, 0, none⟩ = some (.int .i64 id) := cellsAt hg1 0
  have c1 : w1.cell? ⟨w.heap.size, 1, none⟩ = some (.bool ans) := cellsAt hg1 1
  have c2 : w1.cell? ⟨w.heap.size, 2, none⟩ = some (.bool cut) := cellsAt hg1 2
  have c3 : w1.cell? ⟨w.heap.size, 3, none⟩ = some (.int .i64 code) := cellsAt hg1 3
  have c4 : w1.cell? ⟨w.heap.size, 4, none⟩ = some (.string name) := cellsAt hg1 4
  have c5 : w1.cell? ⟨w.heap.size, 5, none⟩ = some (.int .i64 typ) := cellsAt hg1 5
  have c6 : w1.cell? ⟨w.heap.size, 6, none⟩ = some (.slice none 0 0) := cellsAt hg1 6
  clear hb1 hg1 HAT HC
  go_wp2_with fail
  refine (HWR.out _ HB1.out).mono ?_
  rintro e w2 ⟨rfl, hb2⟩
  have HB2 : Hid (Below w.heap.size w w2) := HB1.out.trans (hb2.mono HB1.out.size)
  have hcmp : decide (512 < (T.size : Int)) = false := by simp; omega
  clear hb2
  go_wp2_with fail
  go_ret2
  exact ⟨rfl, HB2.out⟩

end Go.Proofs.YtogmkdhljifbpaaDoor
