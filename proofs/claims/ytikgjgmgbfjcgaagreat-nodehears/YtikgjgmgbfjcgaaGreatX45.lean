import Derived.Test.YtikgjgmgbfjcgaaGreatX5
namespace Go.Proofs.YtikgjgmgbfjcgaaGreat
open Go.RowKit
theorem bcell {W w1:World} (hb:Below W.heap.size W w1):(∀ b o,b < W.heap.size→w1.cell? ⟨b,o,none⟩=W.cell? ⟨b,o,none⟩)∧(∀ b o,b < W.heap.size→w1.frozen? ⟨b,o,none⟩=W.frozen? ⟨b,o,none⟩):=
 ⟨fun b o h=>hb.cell (p:=⟨b,o,none⟩) h,fun b o h=>hb.frozen (p:=⟨b,o,none⟩) h⟩
abbrev w3 (a b:Pl) (w:World):World:=((w.alloc (.cells #[.int .i64 a.x,.int .i64 a.y,.int .i64 a.z,.int .i64 a.h,.int .i64 a.s] 27)).alloc (.cells #[.int .i64 b.x,.int .i64 b.y,.int .i64 b.z,.int .i64 b.h,.int .i64 b.s] 27)).alloc (.cells #[.int .i64 0,.int .i64 0,.int .i64 0,.int .i64 0,.int .i64 0] 27)
end Go.Proofs.YtikgjgmgbfjcgaaGreat
