
/- What must be in any case; Newer. -/
import Derived.Test.YtdcekfbejjjkkaaMK
namespace Go.Proofs.Ytdcekfbejjjkkaa
open Go.RowKit

def mA : Mem := ⟨⟨#[97]⟩, 2, 1, 0, false⟩

theorem lab_a : labB ⟨#[97]⟩ = true := by decide
theorem chk_mA : chk [mA] = 0 := by
  have h : mA.e = 0 := by decide
  simp [chk, firstE, h, risesB]
theorem join_mA : joinE [] [mA] = 0 := by
  simp [joinE, chkTwo, chk_nil, chk_mA, joinL, hearL]
theorem hear_mA : hearL [] mA = [mA] := rfl
theorem at_mA : At [mA] ⟨#[97]⟩ 0 true := ⟨by simp, fun j h => by omega, fun j h hl => by
  have : j = 0 := by simpa using hl
  subst this
  have : cmpI mA.name ⟨#[97]⟩ = 0 := by rw [cmpI_eq]; rfl
  simp [this], by
  have : cmpI mA.name ⟨#[97]⟩ = 0 := by rw [cmpI_eq]; rfl
  simp [this]⟩

end Go.Proofs.Ytdcekfbejjjkkaa
