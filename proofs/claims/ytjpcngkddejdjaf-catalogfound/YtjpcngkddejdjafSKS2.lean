
/- What must be in any case of services; the law CatalogOrders. -/
import Derived.Test.YtjpcngkddejdjafSKS1
import Derived.Test.YtjpcngkddejdjafSK9
namespace Go.Proofs.Ytjpcngkddejdjaf
namespace Sv
open Go.RowKit

def s0 : Svc := ⟨⟨#[110]⟩, ⟨#[105]⟩, ⟨#[115]⟩, ⟨#[]⟩, 0, 0, true, 0, false⟩
def s1 : Svc := ⟨⟨#[110]⟩, ⟨#[105]⟩, ⟨#[115]⟩, ⟨#[]⟩, 0, 0, true, 1, false⟩
theorem at_nil (t : Svc) : At [] t 0 false := ⟨by simp, fun j h => by omega, fun j h h2 => by simp at h2, by simp⟩
theorem s1_ok : s1.ok := ⟨by decide, by decide, by decide, by decide⟩
theorem s0_ok : s0.ok := ⟨by decide, by decide, by decide, by decide⟩
theorem chk_s1 : chk [s1] = 0 := by rw [chk_one]; decide
theorem join_s1 : joinE [] [s1] = 0 := by rw [joinE_good chk_nil chk_s1]; rfl
theorem toList_mk (l : Array UInt8) : (⟨l⟩ : ByteArray).toList = l.toList := Lib.toList_data _
theorem find_s1 : findL [s1] ⟨#[115]⟩ ⟨#[]⟩ = [s1] := by
  have h : keep ⟨#[115]⟩ ⟨#[]⟩ s1 = true := by simp [keep, s1, toList_mk]
  simp [findL, h]
theorem findE_s1 : findE ⟨#[115]⟩ ⟨#[]⟩ = 0 := by decide

set_option maxHeartbeats 1600000 in
theorem begun_any (w : World) : Calls Try.prog 8 #[] w fun e w' => e = .returned (.bool true) ∧ Below w.heap.size w w' := by
  have HR : Hid (∀ w, Calls Try.prog 9 #[.slice none 0 0, .agg #[.string ⟨#[110]⟩, .string ⟨#[105]⟩, .string ⟨#[115]⟩, .string ⟨#[]⟩, .int .i64 0, .int .i64 0, .bool true, .int .i64 0, .bool false]] w fun e w' => ∃ v', e = .returned (.tuple #[v', .int .i64 0]) ∧ Below w.heap.size w w' ∧ Hid (Own w.heap.size w' v' [s1])) := fun w => by
    refine (register_good [] (.slice none 0 0) s0 w (sl_nil _) chk_nil s0_ok 0 false (at_nil _)).mono ?_
    rintro e w1 ⟨v1, rfl, hb1, _, h1⟩
    have hg : reg [] 0 false s0 = s1 := rfl
    rw [hg] at h1 ⊢
    rw [join_s1]
    exact ⟨v1, rfl, hb1, h1 join_s1⟩
  have HF : Hid (∀ v w base, Own base w v [s1] → Calls Try.prog 10 #[v, .string ⟨#[115]⟩, .string ⟨#[]⟩] w fun e w' => ∃ v', e = .returned (.tuple #[v', .int .i64 0]) ∧ Hid (Own w.heap.size w' v' [s1]) ∧ Below w.heap.size w w') := fun v w base ho => by
    refine (findS_good [s1] v ⟨#[115]⟩ ⟨#[]⟩ w (own_names ho (by intro m hm; simp at hm; subst hm; exact s1_ok)) chk_s1 (by decide) (by decide) findE_s1).mono ?_
    rintro e w1 ⟨v1, rfl, h1, hb1⟩
    rw [find_s1] at h1
    exact ⟨v1, rfl, h1, hb1⟩
  go_enter Try.func8, Try.ntmps8
  go_wp2_with fail
  refine (HR.out _).mono ?_
  rintro e w1 ⟨v1, rfl, hb1, HO1⟩
  go_wp2_with fail
  refine (HF.out v1 w1 _ HO1.out).mono ?_
  rintro e w2 ⟨v2, rfl, HO2, hb2⟩
  have HB : Hid (Below w.heap.size w w2) := hb1.trans (hb2.mono hb1.size)
  clear hb1 hb2 HR HF
  obtain ⟨g, c, hv2⟩ := own_form HO2.out 0 (by simp)
  subst hv2
  have c7 : w2.cell? ⟨g, 7, none⟩ = some (.int .i64 1) := World.ownsRow.cellAt HO2.out 7 (by decide)
  simp only [List.length_cons, List.length_nil]
  go_wp2_with fail
  go_ret
  exact ⟨rfl, HB.out⟩

end Sv
end Go.Proofs.Ytjpcngkddejdjaf
