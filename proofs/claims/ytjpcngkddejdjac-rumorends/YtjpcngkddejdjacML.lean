
/- What must be in any case; Newer. -/
import Derived.Test.YtjpcngkddejdjacMK
namespace Go.Proofs.Ytjpcngkddejdjac
open Go.RowKit

def mA : Mem := ⟨⟨#[97]⟩, 2, 1, 0, false⟩

theorem lab_a : labB ⟨#[97]⟩ = true := by decide
theorem chk_mA : chk [mA] = 0 := by
  have h : mA.e = 0 := by decide
  simp [chk, firstE, h, risesB]
theorem join_mA : joinE [] [mA] = 0 := by
  simp [joinE, chkTwo, chk_nil, chk_mA, joinL, hearL]
theorem hear_mA : hearL [] mA = [mA] := rfl
theorem at_mA : At [mA] ⟨#[97]⟩ 0 true := ⟨by simp, fun j h => by omega, fun j h hl => by
  have : j = 0 := by simpa using hl
  subst this
  have : cmpI mA.name ⟨#[97]⟩ = 0 := by rw [cmpI_eq]; rfl
  simp [this], by
  have : cmpI mA.name ⟨#[97]⟩ = 0 := by rw [cmpI_eq]; rfl
  simp [this]⟩

set_option maxHeartbeats 800000 in
theorem begun_any (w : World) : Calls Try.prog 9 #[] w fun e w' => e = .returned (.bool true) ∧ Below w.heap.size w w' := by
  go_enter Try.func9, Try.ntmps9
  go_wp2_with fail
  refine (hear_any [] mA _ _ ⟨none, 0, rfl, ns_get (by simp), .inl rfl⟩ (by decide)).mono ?_
  rintro e w1 ⟨v1, r1, rfl, hb1, _, h1⟩
  obtain ⟨ho1, hr1⟩ := h1 join_mA
  have hr1' : r1 = true := hr1.2 (by rw [hear_mA]; simp)
  subst hr1'
  clear h1 hr1
  rw [join_mA]
  have HO1 : Hid (Own w.heap.size w1 v1 [mA]) := ho1
  clear ho1
  go_wp2_with fail
  refine (refute_good [mA] v1 ⟨#[97]⟩ _ (own_names HO1.out (by simp; decide)) chk_mA (by decide) lab_a 0 true at_mA).mono ?_
  rintro e w2 ⟨v2, rfl, hb2, _, h2⟩
  have e1 : refR [mA] 0 true = true := by decide
  have e2 : refE [mA] 0 true = 0 := by decide
  have e3 : refL [mA] 0 true = [⟨⟨#[97]⟩, 1, 2, 0, false⟩] := by rw [refL, if_pos e1]; rfl
  have ho2 := h2 e2
  rw [e3] at ho2
  rw [e1, e2]
  clear h2 e3
  have HO2 : Hid (Own w1.heap.size w2 v2 [⟨⟨#[97]⟩, 1, 2, 0, false⟩]) := ho2
  clear ho2
  obtain ⟨g, c, hv2⟩ : ∃ g c, v2 = .slice (some ⟨g, 0, none⟩) 1 c := by
    rcases HO2.out.2 with ⟨_, h0⟩ | ⟨g, c, cur, h, _⟩
    · simp at h0
    · exact ⟨g, c, h⟩
  subst hv2
  have c1 : w2.cell? ⟨g, 1, none⟩ = some (.int .i64 1) := World.ownsRow.cellAt HO2.out 1 (by decide)
  have c2 : w2.cell? ⟨g, 2, none⟩ = some (.int .i64 2) := World.ownsRow.cellAt HO2.out 2 (by decide)
  have HB : Hid (Below w.heap.size w w2) := hb1.trans (hb2.mono hb1.size)
  clear hb1 hb2
  go_wp2_with fail
  go_ret
  exact ⟨rfl, HB.out⟩

end Go.Proofs.Ytjpcngkddejdjac
