
/- slices.Insert at members: the library's own text, walked. -/
import Derived.Test.YtdcekfbejjjkkaaMK1
namespace Go.Proofs.Ytdcekfbejjjkkaa

open Go.RowKit

theorem Try.info24 : (Try.prog.info? 24).map (fun i => (i.zero, i.size, i.bytes)) = some (some (.agg #[.string ⟨#[]⟩, .int .i64 0, .int .i64 0, .int .i64 0, .bool false]), 5, 48) := by kernel_rfl

theorem size24 : (Try.prog.info? 24).map (·.size) = some 5 := by
  obtain ⟨i, hi, h1, h2, h3⟩ := info_parts Try.info24
  rw [hi]; simp [h2]

theorem sizeOf24 (w : World) : (Go.sizeOf 24).run Try.prog w = .ok 5 w := by
  obtain ⟨i, hi, h1, h2, h3⟩ := info_parts Try.info24
  simp [Go.sizeOf, typeInfo, hi, h2]

end Go.Proofs.Ytdcekfbejjjkkaa
