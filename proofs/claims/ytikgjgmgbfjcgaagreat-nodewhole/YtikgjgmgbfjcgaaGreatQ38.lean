import Derived.Test.YtikgjgmgbfjcgaaGreatQ13
namespace Go.Proofs.YtikgjgmgbfjcgaaGreat
namespace Sv
open Go.RowKit
end Sv
namespace Sv
open Go.RowKit
theorem e_zero {m:Svc} (h:m.e=0):labB m.node=true∧labB m.idn=true∧labB m.name=true∧tagB m.tag=true∧1≤m.version∧m.version≤1000000:=by
 unfold Svc.e at h
 split at h
 ·rename_i h1
  split at h
  ·rename_i h2
   simp [within] at h1 h2
   exact ⟨h1.1,h1.2.1,h1.2.2.1,h1.2.2.2,h2.2.2.1,h2.2.2.2⟩
  ·omega
 ·omega
def keyOf (s:Svc):Svc:=⟨s.node,s.idn,⟨#[]⟩,⟨#[]⟩,0,0,false,0,false⟩
def keep (name tag:ByteArray) (m:Svc):Bool:=(m.name.toList == name.toList) && ((tag.toList == []) || (m.tag.toList == tag.toList)) && m.passing && !m.gone
end Sv
end Go.Proofs.YtikgjgmgbfjcgaaGreat
