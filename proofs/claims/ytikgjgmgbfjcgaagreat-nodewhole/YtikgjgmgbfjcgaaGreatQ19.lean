import Derived.Test.YtikgjgmgbfjcgaaGreatQ14
namespace Go.Proofs.YtikgjgmgbfjcgaaGreat
namespace Gw
open Go.RowKit
end Gw
namespace Gw
open Go.RowKit
theorem e_zero {m:Gwy} (h:m.e=0):labB m.centre=true∧0≤m.addr∧m.addr≤4294967295∧1≤m.version∧m.version≤1000000:=by
 unfold Gwy.e at h
 split at h
 ·rename_i h1
  split at h
  ·rename_i h2
   split at h
   ·rename_i h3
    simp [within] at h2 h3
    exact ⟨h1,h2.1,h2.2,h3.1,h3.2⟩
   ·omega
  ·omega
 ·omega
end Gw
end Go.Proofs.YtikgjgmgbfjcgaaGreat
