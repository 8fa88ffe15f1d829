/-
  No cell of these rows narrows 'for every input' (looked for: loops, veiled, ifaces, maps, wideKeys, modest, calm, conditions, laid).
  DERIVED. THE GIVEN ROWS OF THIS SEAT. 5 by the template 'for every input the law returns true; each argument reads behind the call as it read before'; 0 by the template 'total and deterministic' (their statements: YtjpcngkddejdjafTotals.lean).
  GIVEN WITH THE SEED: the statements are not yours to turn. If you find one false, say at which input.
  Laid BY PROGRAM, IN A SANDBOX (cutbox-rows.mjs): the forced cells as the released guide's own fill.sh prints them over the translation af6a2c9b81364cba… (all of the seat's roots in one cut). By AI agents, Wed Nov 11 2026. No macro, syntax, notation, axiom, sorry.
-/
import Derived.Test.YtjpcngkddejdjafChecked
import GoSem.Claim
import GoSem.ClaimJoined
import GoSem.ClaimMapViews
import Derived.JoinedTies
import Derived.KernelRfl
namespace Go.Proofs.Ytjpcngkddejdjaf
/- THE CELL 'sum', in the pinned program and in every row, IS THE sha256 OF THE DUMP (.gsa) THAT YtjpcngkddejdjafProg.lean LOADS. Nothing in Lean hashes anything: it is a label: what it is worth is what the hold of that sum in a sandbox is worth. -/
noncomputable def Try.pinned : Pinned := { name := "ytjpcngkddejdjaf", sum := "af6a2c9b81364cba7597ea03d24cfa36c940c99b51fc9f31931d9fa9a198b646", checked := Try.checked }
namespace Rows
def none {H : Type} : Left H := { results := [], args := [] }

/-- 'hearsaylaw.CatalogFound': WHATEVER THE INPUT: true; the input reads as it did. -/
def catalogFoundSpec : ChangeSpec := { name := "catalogFound", fn := fun _ => fun
  | [d1, d2] => { results := [.lit (.bool true)], args := [d1, d2] }
  | _ => none }
def catalogFoundRow : OpenClaim := { program := "ytjpcngkddejdjaf", sum := "af6a2c9b81364cba7597ea03d24cfa36c940c99b51fc9f31931d9fa9a198b646", func := "hearsay/hearsaylaw.CatalogFound", spec := "catalogFound", inPlace := ["internal/bytealg.abigen_runtime_cmpstring", "slices.overlaps[hearsay/api.Service]"], unfollowed := true, recurses := true, apart := false }
def CatalogFoundSaid : Prop := catalogFoundRow.holds Try.pinned (OpenSpec.ofChange catalogFoundSpec)

/-- ITS FALSE NEIGHBOUR: 'it returns false'. Refute it at one input. -/
def catalogFoundWrong : ChangeSpec := { name := "catalogFound", fn := fun _ => fun
  | [d1, d2] => { results := [.lit (.bool false)], args := [d1, d2] }
  | _ => none }
def CatalogFoundWrongFalsely : Prop := catalogFoundRow.holds Try.pinned (OpenSpec.ofChange catalogFoundWrong)

/-- 'hearsaylaw.CentreOpens': WHATEVER THE INPUT: true; the input reads as it did. -/
def centreOpensSpec : ChangeSpec := { name := "centreOpens", fn := fun _ => fun
  | [d1, d2, d3] => { results := [.lit (.bool true)], args := [d1, d2, d3] }
  | _ => none }
def centreOpensRow : OpenClaim := { program := "ytjpcngkddejdjaf", sum := "af6a2c9b81364cba7597ea03d24cfa36c940c99b51fc9f31931d9fa9a198b646", func := "hearsay/hearsaylaw.CentreOpens", spec := "centreOpens", inPlace := ["internal/bytealg.abigen_runtime_cmpstring", "slices.overlaps[hearsay/api.Gateway]"], unfollowed := true, recurses := true, apart := false }
def CentreOpensSaid : Prop := centreOpensRow.holds Try.pinned (OpenSpec.ofChange centreOpensSpec)

/-- ITS FALSE NEIGHBOUR: 'it returns false'. Refute it at one input. -/
def centreOpensWrong : ChangeSpec := { name := "centreOpens", fn := fun _ => fun
  | [d1, d2, d3] => { results := [.lit (.bool false)], args := [d1, d2, d3] }
  | _ => none }
def CentreOpensWrongFalsely : Prop := centreOpensRow.holds Try.pinned (OpenSpec.ofChange centreOpensWrong)

/-- 'hearsaylaw.CentreJoins': WHATEVER THE INPUT: true; the input reads as it did. -/
def centreJoinsSpec : ChangeSpec := { name := "centreJoins", fn := fun _ => fun
  | [d1, d2] => { results := [.lit (.bool true)], args := [d1, d2] }
  | _ => none }
def centreJoinsRow : OpenClaim := { program := "ytjpcngkddejdjaf", sum := "af6a2c9b81364cba7597ea03d24cfa36c940c99b51fc9f31931d9fa9a198b646", func := "hearsay/hearsaylaw.CentreJoins", spec := "centreJoins", inPlace := ["internal/bytealg.abigen_runtime_cmpstring", "slices.overlaps[hearsay/api.Gateway]"], unfollowed := true, recurses := true, apart := false }
def CentreJoinsSaid : Prop := centreJoinsRow.holds Try.pinned (OpenSpec.ofChange centreJoinsSpec)

/-- ITS FALSE NEIGHBOUR: 'it returns false'. Refute it at one input. -/
def centreJoinsWrong : ChangeSpec := { name := "centreJoins", fn := fun _ => fun
  | [d1, d2] => { results := [.lit (.bool false)], args := [d1, d2] }
  | _ => none }
def CentreJoinsWrongFalsely : Prop := centreJoinsRow.holds Try.pinned (OpenSpec.ofChange centreJoinsWrong)

/-- 'hearsaylaw.CentreRoutes': WHATEVER THE INPUT: true; the input reads as it did. -/
def centreRoutesSpec : ChangeSpec := { name := "centreRoutes", fn := fun _ => fun
  | [d1, d2, d3] => { results := [.lit (.bool true)], args := [d1, d2, d3] }
  | _ => none }
def centreRoutesRow : OpenClaim := { program := "ytjpcngkddejdjaf", sum := "af6a2c9b81364cba7597ea03d24cfa36c940c99b51fc9f31931d9fa9a198b646", func := "hearsay/hearsaylaw.CentreRoutes", spec := "centreRoutes", inPlace := ["internal/bytealg.abigen_runtime_cmpstring", "slices.overlaps[hearsay/api.Gateway]"], unfollowed := true, recurses := true, apart := false }
def CentreRoutesSaid : Prop := centreRoutesRow.holds Try.pinned (OpenSpec.ofChange centreRoutesSpec)

/-- ITS FALSE NEIGHBOUR: 'it returns false'. Refute it at one input. -/
def centreRoutesWrong : ChangeSpec := { name := "centreRoutes", fn := fun _ => fun
  | [d1, d2, d3] => { results := [.lit (.bool false)], args := [d1, d2, d3] }
  | _ => none }
def CentreRoutesWrongFalsely : Prop := centreRoutesRow.holds Try.pinned (OpenSpec.ofChange centreRoutesWrong)

/-- 'hearsaylaw.CentreOrders': WHATEVER THE INPUT: true; the input reads as it did. -/
def centreOrdersSpec : ChangeSpec := { name := "centreOrders", fn := fun _ => fun
  | [d1, d2, d3] => { results := [.lit (.bool true)], args := [d1, d2, d3] }
  | _ => none }
def centreOrdersRow : OpenClaim := { program := "ytjpcngkddejdjaf", sum := "af6a2c9b81364cba7597ea03d24cfa36c940c99b51fc9f31931d9fa9a198b646", func := "hearsay/hearsaylaw.CentreOrders", spec := "centreOrders", inPlace := ["internal/bytealg.abigen_runtime_cmpstring", "slices.overlaps[hearsay/api.Gateway]"], unfollowed := true, recurses := true, apart := false }
def CentreOrdersSaid : Prop := centreOrdersRow.holds Try.pinned (OpenSpec.ofChange centreOrdersSpec)

/-- ITS FALSE NEIGHBOUR: 'it returns false'. Refute it at one input. -/
def centreOrdersWrong : ChangeSpec := { name := "centreOrders", fn := fun _ => fun
  | [d1, d2, d3] => { results := [.lit (.bool false)], args := [d1, d2, d3] }
  | _ => none }
def CentreOrdersWrongFalsely : Prop := centreOrdersRow.holds Try.pinned (OpenSpec.ofChange centreOrdersWrong)

/- THE SECOND FORM. 'bulk': how many values and letters a reading holds, each counted each time it is reached (what is shared counts as often as it is met; a slice's spare places count too). A statement '..UptoSaid' is the law's where the arguments, and the package variables that the reading takes, are together of bulk at most 1048576: NARROWER than '..Said'. Prove '..Said' where nothing that the law and all that it calls make is longer than what came in: it says more and counts as full. Else prove '..UptoSaid'. A law counts once. -/
mutual
def uptoBulk {H : Type} : DataW H → Nat
  | .lit (.string bytes) => bytes.length + 1
  | .lit _ => 1
  | .nil => 1
  | .ptr d => uptoBulk d + 1
  | .slice elems spare => uptoBulkAll elems + uptoBulkAll spare + 1
  | .agg parts => uptoBulkAll parts + 1
  | .iface _ d => uptoBulk d + 1
  | .map entries => uptoBulkEntries entries + 1
  | .held _ => 1
def uptoBulkAll {H : Type} : List (DataW H) → Nat
  | [] => 0
  | d :: r => uptoBulk d + uptoBulkAll r
def uptoBulkEntries {H : Type} : List (Lit × DataW H) → Nat
  | [] => 0
  | x :: r => uptoBulkEntry x + uptoBulkEntries r
def uptoBulkEntry {H : Type} : Lit × DataW H → Nat
  | (.string bytes, d) => bytes.length + uptoBulk d + 1
  | (_, d) => uptoBulk d + 1
 end
def uptoSmall : (H : Type) → List (DataW H) → Bool := fun _ ds => decide (uptoBulkAll ds ≤ 1048576)
def OpenSpec.upto (s : _root_.Go.ChangeSpec) : _root_.Go.OpenSpec := { _root_.Go.OpenSpec.ofChange s with cond := some uptoSmall }

/-- 'hearsaylaw.CatalogFound', WHERE WHAT IT READS IS OF BULK AT MOST 1048576: true; the input reads as it did. -/
def catalogFoundUptoRow : OpenClaim := { program := "ytjpcngkddejdjaf", sum := "af6a2c9b81364cba7597ea03d24cfa36c940c99b51fc9f31931d9fa9a198b646", func := "hearsay/hearsaylaw.CatalogFound", spec := "catalogFound", inPlace := ["internal/bytealg.abigen_runtime_cmpstring", "slices.overlaps[hearsay/api.Service]"], unfollowed := true, recurses := true, apart := false, narrowed := true }
def CatalogFoundUptoSaid : Prop := catalogFoundUptoRow.holds Try.pinned (OpenSpec.upto catalogFoundSpec)

/-- 'hearsaylaw.CentreOpens', WHERE WHAT IT READS IS OF BULK AT MOST 1048576: true; the input reads as it did. -/
def centreOpensUptoRow : OpenClaim := { program := "ytjpcngkddejdjaf", sum := "af6a2c9b81364cba7597ea03d24cfa36c940c99b51fc9f31931d9fa9a198b646", func := "hearsay/hearsaylaw.CentreOpens", spec := "centreOpens", inPlace := ["internal/bytealg.abigen_runtime_cmpstring", "slices.overlaps[hearsay/api.Gateway]"], unfollowed := true, recurses := true, apart := false, narrowed := true }
def CentreOpensUptoSaid : Prop := centreOpensUptoRow.holds Try.pinned (OpenSpec.upto centreOpensSpec)

/-- 'hearsaylaw.CentreJoins', WHERE WHAT IT READS IS OF BULK AT MOST 1048576: true; the input reads as it did. -/
def centreJoinsUptoRow : OpenClaim := { program := "ytjpcngkddejdjaf", sum := "af6a2c9b81364cba7597ea03d24cfa36c940c99b51fc9f31931d9fa9a198b646", func := "hearsay/hearsaylaw.CentreJoins", spec := "centreJoins", inPlace := ["internal/bytealg.abigen_runtime_cmpstring", "slices.overlaps[hearsay/api.Gateway]"], unfollowed := true, recurses := true, apart := false, narrowed := true }
def CentreJoinsUptoSaid : Prop := centreJoinsUptoRow.holds Try.pinned (OpenSpec.upto centreJoinsSpec)

/-- 'hearsaylaw.CentreRoutes', WHERE WHAT IT READS IS OF BULK AT MOST 1048576: true; the input reads as it did. -/
def centreRoutesUptoRow : OpenClaim := { program := "ytjpcngkddejdjaf", sum := "af6a2c9b81364cba7597ea03d24cfa36c940c99b51fc9f31931d9fa9a198b646", func := "hearsay/hearsaylaw.CentreRoutes", spec := "centreRoutes", inPlace := ["internal/bytealg.abigen_runtime_cmpstring", "slices.overlaps[hearsay/api.Gateway]"], unfollowed := true, recurses := true, apart := false, narrowed := true }
def CentreRoutesUptoSaid : Prop := centreRoutesUptoRow.holds Try.pinned (OpenSpec.upto centreRoutesSpec)

/-- 'hearsaylaw.CentreOrders', WHERE WHAT IT READS IS OF BULK AT MOST 1048576: true; the input reads as it did. -/
def centreOrdersUptoRow : OpenClaim := { program := "ytjpcngkddejdjaf", sum := "af6a2c9b81364cba7597ea03d24cfa36c940c99b51fc9f31931d9fa9a198b646", func := "hearsay/hearsaylaw.CentreOrders", spec := "centreOrders", inPlace := ["internal/bytealg.abigen_runtime_cmpstring", "slices.overlaps[hearsay/api.Gateway]"], unfollowed := true, recurses := true, apart := false, narrowed := true }
def CentreOrdersUptoSaid : Prop := centreOrdersUptoRow.holds Try.pinned (OpenSpec.upto centreOrdersSpec)

end Rows
end Go.Proofs.Ytjpcngkddejdjaf
