/- MaxLen's cell, in a world that is as worlds are. -/
import Derived.Test.YtogmkdhljifbpaaDoorSP
import Derived.Test.YtogmkdhljifbpaaDoorShelfM
import Derived.Deep.Slices
import Derived.Lib.SmallJoins
import Derived.ProofKit
import Derived.OpenShut
import Derived.Handed
namespace Go.Proofs.YtogmkdhljifbpaaDoor
open Go.ChangeShapes Go.WideShapes Go.ChangeAt Go.RowKit

theorem ml_of {W : World} (h : W.ShapedOpen Tryd.prog) : ML W := by
  obtain ⟨m, hm⟩ := Tryd.laysM146.s1_3 W h
  have hm2 : W.cell? ⟨0, 0, none⟩ = some (.int .i64 m) := hm
  exact ⟨World.block_lt_of_cell? W ⟨0, 0, none⟩ hm2, m, hm2⟩

end Go.Proofs.YtogmkdhljifbpaaDoor
