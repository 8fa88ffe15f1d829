
/- Two lists of members, joined. -/
import Derived.Test.YtdcekfbejjjkkaaMK4
namespace Go.Proofs.Ytdcekfbejjjkkaa

open Go.RowKit

theorem stg_len {a b : List Mem} (hla : a.length ≤ 20) (hlb : b.length ≤ 20) (k : Nat) : (stg a b k).length ≤ 40 := by
  unfold stg
  split
  · simp
  · split
    · omega
    · have := joinL_len b a; omega

/-- Of the k-th list: where it lies, and what is known behind it. -/
structure Kth (w : World) (pb : Nat) (a b : List Mem) (k : Nat) (l : List Mem) (pk : Option Addr) (ck : Nat) : Prop where
  cell : w.cell? ⟨pb, k, none⟩ = some (.slice pk l.length ck)
  row : l = [] ∨ ∃ b off, pk = some ⟨b, off, none⟩ ∧ b < w.heap.size ∧ Row w b off l
  oks : ∀ m ∈ l, (m).name.size ≤ maxLen
  len : l.length ≤ 20
  len0 : (stg a b k).length ≤ 20
  rise0 : Rise (stg a b k)
  oks0 : ∀ m ∈ stg a b k, (m).name.size ≤ maxLen
  step : stg a b (k + 1) = joinL (stg a b k) l

theorem kth_of {a b : List Mem} {va vb : Value} {pb : Nat} {w : World} (ha : Sl w va a) (hb : Sl w vb b) (hc0 : w.cell? ⟨pb, 0, none⟩ = some va) (hc1 : w.cell? ⟨pb, 1, none⟩ = some vb) (hla : a.length ≤ 20) (hlb : b.length ≤ 20) (ra : Rise a) (k : Nat) (hk : k < 2) :
    ∃ l pk ck, Kth w pb a b k l pk ck := by
  obtain ⟨pa, ca, rfl, nsa, ha⟩ := ha
  obtain ⟨pv, cb, rfl, nsb, hb⟩ := hb
  have hcases : k = 0 ∨ k = 1 := by omega
  rcases hcases with rfl | rfl
  · exact ⟨a, pa, ca, hc0, ha, ns_mem nsa, hla, by simp [stg], by simp [stg], by simp [stg], (joinL_nil a ra).symm⟩
  · exact ⟨b, pv, cb, hc1, hb, ns_mem nsb, hlb, hla, ra, ns_mem nsa, rfl⟩

end Go.Proofs.Ytdcekfbejjjkkaa
