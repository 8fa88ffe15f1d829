import Derived.Test.YtikgjgmgbfjcgaaGreatQ44
namespace Go.Proofs.YtikgjgmgbfjcgaaGreat
namespace Gw
open Go.RowKit
end Gw
namespace Gw
open Go.RowKit
theorem newE_def (a b:Gwy):newE a b=if a.version=b.version then decide (b.addr < a.addr) else decide (b.version < a.version):=by
 simp only [newE,newC,RL.lex]
 by_cases h:a.version=b.version
 ·rw [if_pos (by omega),if_pos h];congr 1;apply propext;omega
 ·rw [if_neg (by omega),if_neg h];congr 1;apply propext;omega
end Gw
end Go.Proofs.YtikgjgmgbfjcgaaGreat
