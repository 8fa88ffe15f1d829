/-
  No cell of these rows narrows 'for every input' (looked for: loops, veiled, ifaces, maps, wideKeys, modest, calm, conditions, laid).
  DERIVED. THE GIVEN ROWS OF THIS SEAT. 6 by the template 'for every input the law returns true; each argument reads behind the call as it read before'; 0 by the template 'total and deterministic' (their statements: YtjpcngkddejdjaeTotals.lean).
  GIVEN WITH THE SEED: the statements are not yours to turn. If you find one false, say at which input.
  Laid BY PROGRAM, IN A SANDBOX (cutbox-rows.mjs): the forced cells as the released guide's own fill.sh prints them over the translation 0662f904ce643f65… (all of the seat's roots in one cut). By AI agents, Wed Nov 11 2026. No macro, syntax, notation, axiom, sorry.
-/
import Derived.Test.YtjpcngkddejdjaeChecked
import GoSem.Claim
import GoSem.ClaimJoined
import GoSem.ClaimMapViews
import Derived.JoinedTies
import Derived.KernelRfl
namespace Go.Proofs.Ytjpcngkddejdjae
/- THE CELL 'sum', in the pinned program and in every row, IS THE sha256 OF THE DUMP (.gsa) THAT YtjpcngkddejdjaeProg.lean LOADS. Nothing in Lean hashes anything: it is a label: what it is worth is what the hold of that sum in a sandbox is worth. -/
noncomputable def Try.pinned : Pinned := { name := "ytjpcngkddejdjae", sum := "0662f904ce643f65a0e669b12a494c5a53293d71b38aa84cf365d7d436e90bbb", checked := Try.checked }
namespace Rows
def none {H : Type} : Left H := { results := [], args := [] }

/-- 'hearsaylaw.CatalogChecks': WHATEVER THE INPUT: true; the input reads as it did. -/
def catalogChecksSpec : ChangeSpec := { name := "catalogChecks", fn := fun _ => fun
  | [d] => { results := [.lit (.bool true)], args := [d] }
  | _ => none }
def catalogChecksRow : OpenClaim := { program := "ytjpcngkddejdjae", sum := "0662f904ce643f65a0e669b12a494c5a53293d71b38aa84cf365d7d436e90bbb", func := "hearsay/hearsaylaw.CatalogChecks", spec := "catalogChecks", inPlace := ["internal/bytealg.abigen_runtime_cmpstring", "slices.overlaps[hearsay/api.Service]"], unfollowed := true, recurses := true, apart := false }
def CatalogChecksSaid : Prop := catalogChecksRow.holds Try.pinned (OpenSpec.ofChange catalogChecksSpec)

/-- ITS FALSE NEIGHBOUR: 'it returns false'. Refute it at one input. -/
def catalogChecksWrong : ChangeSpec := { name := "catalogChecks", fn := fun _ => fun
  | [d] => { results := [.lit (.bool false)], args := [d] }
  | _ => none }
def CatalogChecksWrongFalsely : Prop := catalogChecksRow.holds Try.pinned (OpenSpec.ofChange catalogChecksWrong)

/-- 'hearsaylaw.CatalogNewer': WHATEVER THE INPUT: true; the input reads as it did. -/
def catalogNewerSpec : ChangeSpec := { name := "catalogNewer", fn := fun _ => fun
  | [d1, d2] => { results := [.lit (.bool true)], args := [d1, d2] }
  | _ => none }
def catalogNewerRow : OpenClaim := { program := "ytjpcngkddejdjae", sum := "0662f904ce643f65a0e669b12a494c5a53293d71b38aa84cf365d7d436e90bbb", func := "hearsay/hearsaylaw.CatalogNewer", spec := "catalogNewer", inPlace := ["internal/bytealg.abigen_runtime_cmpstring", "slices.overlaps[hearsay/api.Service]"], unfollowed := true, recurses := true, apart := false }
def CatalogNewerSaid : Prop := catalogNewerRow.holds Try.pinned (OpenSpec.ofChange catalogNewerSpec)

/-- ITS FALSE NEIGHBOUR: 'it returns false'. Refute it at one input. -/
def catalogNewerWrong : ChangeSpec := { name := "catalogNewer", fn := fun _ => fun
  | [d1, d2] => { results := [.lit (.bool false)], args := [d1, d2] }
  | _ => none }
def CatalogNewerWrongFalsely : Prop := catalogNewerRow.holds Try.pinned (OpenSpec.ofChange catalogNewerWrong)

/-- 'hearsaylaw.CatalogRegisters': WHATEVER THE INPUT: true; the input reads as it did. -/
def catalogRegistersSpec : ChangeSpec := { name := "catalogRegisters", fn := fun _ => fun
  | [d1, d2] => { results := [.lit (.bool true)], args := [d1, d2] }
  | _ => none }
def catalogRegistersRow : OpenClaim := { program := "ytjpcngkddejdjae", sum := "0662f904ce643f65a0e669b12a494c5a53293d71b38aa84cf365d7d436e90bbb", func := "hearsay/hearsaylaw.CatalogRegisters", spec := "catalogRegisters", inPlace := ["internal/bytealg.abigen_runtime_cmpstring", "slices.overlaps[hearsay/api.Service]"], unfollowed := true, recurses := true, apart := false }
def CatalogRegistersSaid : Prop := catalogRegistersRow.holds Try.pinned (OpenSpec.ofChange catalogRegistersSpec)

/-- ITS FALSE NEIGHBOUR: 'it returns false'. Refute it at one input. -/
def catalogRegistersWrong : ChangeSpec := { name := "catalogRegisters", fn := fun _ => fun
  | [d1, d2] => { results := [.lit (.bool false)], args := [d1, d2] }
  | _ => none }
def CatalogRegistersWrongFalsely : Prop := catalogRegistersRow.holds Try.pinned (OpenSpec.ofChange catalogRegistersWrong)

/-- 'hearsaylaw.CatalogJoins': WHATEVER THE INPUT: true; the input reads as it did. -/
def catalogJoinsSpec : ChangeSpec := { name := "catalogJoins", fn := fun _ => fun
  | [d1, d2] => { results := [.lit (.bool true)], args := [d1, d2] }
  | _ => none }
def catalogJoinsRow : OpenClaim := { program := "ytjpcngkddejdjae", sum := "0662f904ce643f65a0e669b12a494c5a53293d71b38aa84cf365d7d436e90bbb", func := "hearsay/hearsaylaw.CatalogJoins", spec := "catalogJoins", inPlace := ["internal/bytealg.abigen_runtime_cmpstring", "slices.overlaps[hearsay/api.Service]"], unfollowed := true, recurses := true, apart := false }
def CatalogJoinsSaid : Prop := catalogJoinsRow.holds Try.pinned (OpenSpec.ofChange catalogJoinsSpec)

/-- ITS FALSE NEIGHBOUR: 'it returns false'. Refute it at one input. -/
def catalogJoinsWrong : ChangeSpec := { name := "catalogJoins", fn := fun _ => fun
  | [d1, d2] => { results := [.lit (.bool false)], args := [d1, d2] }
  | _ => none }
def CatalogJoinsWrongFalsely : Prop := catalogJoinsRow.holds Try.pinned (OpenSpec.ofChange catalogJoinsWrong)

/-- 'hearsaylaw.CatalogFinds': WHATEVER THE INPUT: true; the input reads as it did. -/
def catalogFindsSpec : ChangeSpec := { name := "catalogFinds", fn := fun _ => fun
  | [d1, d2, d3] => { results := [.lit (.bool true)], args := [d1, d2, d3] }
  | _ => none }
def catalogFindsRow : OpenClaim := { program := "ytjpcngkddejdjae", sum := "0662f904ce643f65a0e669b12a494c5a53293d71b38aa84cf365d7d436e90bbb", func := "hearsay/hearsaylaw.CatalogFinds", spec := "catalogFinds", inPlace := ["internal/bytealg.abigen_runtime_cmpstring", "slices.overlaps[hearsay/api.Service]"], unfollowed := true, recurses := true, apart := false }
def CatalogFindsSaid : Prop := catalogFindsRow.holds Try.pinned (OpenSpec.ofChange catalogFindsSpec)

/-- ITS FALSE NEIGHBOUR: 'it returns false'. Refute it at one input. -/
def catalogFindsWrong : ChangeSpec := { name := "catalogFinds", fn := fun _ => fun
  | [d1, d2, d3] => { results := [.lit (.bool false)], args := [d1, d2, d3] }
  | _ => none }
def CatalogFindsWrongFalsely : Prop := catalogFindsRow.holds Try.pinned (OpenSpec.ofChange catalogFindsWrong)

/-- 'hearsaylaw.CatalogOrders': WHATEVER THE INPUT: true; the input reads as it did. -/
def catalogOrdersSpec : ChangeSpec := { name := "catalogOrders", fn := fun _ => fun
  | [d1, d2, d3] => { results := [.lit (.bool true)], args := [d1, d2, d3] }
  | _ => none }
def catalogOrdersRow : OpenClaim := { program := "ytjpcngkddejdjae", sum := "0662f904ce643f65a0e669b12a494c5a53293d71b38aa84cf365d7d436e90bbb", func := "hearsay/hearsaylaw.CatalogOrders", spec := "catalogOrders", inPlace := ["internal/bytealg.abigen_runtime_cmpstring", "slices.overlaps[hearsay/api.Service]"], unfollowed := true, recurses := true, apart := false }
def CatalogOrdersSaid : Prop := catalogOrdersRow.holds Try.pinned (OpenSpec.ofChange catalogOrdersSpec)

/-- ITS FALSE NEIGHBOUR: 'it returns false'. Refute it at one input. -/
def catalogOrdersWrong : ChangeSpec := { name := "catalogOrders", fn := fun _ => fun
  | [d1, d2, d3] => { results := [.lit (.bool false)], args := [d1, d2, d3] }
  | _ => none }
def CatalogOrdersWrongFalsely : Prop := catalogOrdersRow.holds Try.pinned (OpenSpec.ofChange catalogOrdersWrong)

/- THE SECOND FORM. 'bulk': how many values and letters a reading holds, each counted each time it is reached (what is shared counts as often as it is met; a slice's spare places count too). A statement '..UptoSaid' is the law's where the arguments, and the package variables that the reading takes, are together of bulk at most 1048576: NARROWER than '..Said'. Prove '..Said' where nothing that the law and all that it calls make is longer than what came in: it says more and counts as full. Else prove '..UptoSaid'. A law counts once. -/
mutual
def uptoBulk {H : Type} : DataW H → Nat
  | .lit (.string bytes) => bytes.length + 1
  | .lit _ => 1
  | .nil => 1
  | .ptr d => uptoBulk d + 1
  | .slice elems spare => uptoBulkAll elems + uptoBulkAll spare + 1
  | .agg parts => uptoBulkAll parts + 1
  | .iface _ d => uptoBulk d + 1
  | .map entries => uptoBulkEntries entries + 1
  | .held _ => 1
def uptoBulkAll {H : Type} : List (DataW H) → Nat
  | [] => 0
  | d :: r => uptoBulk d + uptoBulkAll r
def uptoBulkEntries {H : Type} : List (Lit × DataW H) → Nat
  | [] => 0
  | x :: r => uptoBulkEntry x + uptoBulkEntries r
def uptoBulkEntry {H : Type} : Lit × DataW H → Nat
  | (.string bytes, d) => bytes.length + uptoBulk d + 1
  | (_, d) => uptoBulk d + 1
 end
def uptoSmall : (H : Type) → List (DataW H) → Bool := fun _ ds => decide (uptoBulkAll ds ≤ 1048576)
def OpenSpec.upto (s : _root_.Go.ChangeSpec) : _root_.Go.OpenSpec := { _root_.Go.OpenSpec.ofChange s with cond := some uptoSmall }

/-- 'hearsaylaw.CatalogChecks', WHERE WHAT IT READS IS OF BULK AT MOST 1048576: true; the input reads as it did. -/
def catalogChecksUptoRow : OpenClaim := { program := "ytjpcngkddejdjae", sum := "0662f904ce643f65a0e669b12a494c5a53293d71b38aa84cf365d7d436e90bbb", func := "hearsay/hearsaylaw.CatalogChecks", spec := "catalogChecks", inPlace := ["internal/bytealg.abigen_runtime_cmpstring", "slices.overlaps[hearsay/api.Service]"], unfollowed := true, recurses := true, apart := false, narrowed := true }
def CatalogChecksUptoSaid : Prop := catalogChecksUptoRow.holds Try.pinned (OpenSpec.upto catalogChecksSpec)

/-- 'hearsaylaw.CatalogNewer', WHERE WHAT IT READS IS OF BULK AT MOST 1048576: true; the input reads as it did. -/
def catalogNewerUptoRow : OpenClaim := { program := "ytjpcngkddejdjae", sum := "0662f904ce643f65a0e669b12a494c5a53293d71b38aa84cf365d7d436e90bbb", func := "hearsay/hearsaylaw.CatalogNewer", spec := "catalogNewer", inPlace := ["internal/bytealg.abigen_runtime_cmpstring", "slices.overlaps[hearsay/api.Service]"], unfollowed := true, recurses := true, apart := false, narrowed := true }
def CatalogNewerUptoSaid : Prop := catalogNewerUptoRow.holds Try.pinned (OpenSpec.upto catalogNewerSpec)

/-- 'hearsaylaw.CatalogRegisters', WHERE WHAT IT READS IS OF BULK AT MOST 1048576: true; the input reads as it did. -/
def catalogRegistersUptoRow : OpenClaim := { program := "ytjpcngkddejdjae", sum := "0662f904ce643f65a0e669b12a494c5a53293d71b38aa84cf365d7d436e90bbb", func := "hearsay/hearsaylaw.CatalogRegisters", spec := "catalogRegisters", inPlace := ["internal/bytealg.abigen_runtime_cmpstring", "slices.overlaps[hearsay/api.Service]"], unfollowed := true, recurses := true, apart := false, narrowed := true }
def CatalogRegistersUptoSaid : Prop := catalogRegistersUptoRow.holds Try.pinned (OpenSpec.upto catalogRegistersSpec)

/-- 'hearsaylaw.CatalogJoins', WHERE WHAT IT READS IS OF BULK AT MOST 1048576: true; the input reads as it did. -/
def catalogJoinsUptoRow : OpenClaim := { program := "ytjpcngkddejdjae", sum := "0662f904ce643f65a0e669b12a494c5a53293d71b38aa84cf365d7d436e90bbb", func := "hearsay/hearsaylaw.CatalogJoins", spec := "catalogJoins", inPlace := ["internal/bytealg.abigen_runtime_cmpstring", "slices.overlaps[hearsay/api.Service]"], unfollowed := true, recurses := true, apart := false, narrowed := true }
def CatalogJoinsUptoSaid : Prop := catalogJoinsUptoRow.holds Try.pinned (OpenSpec.upto catalogJoinsSpec)

/-- 'hearsaylaw.CatalogFinds', WHERE WHAT IT READS IS OF BULK AT MOST 1048576: true; the input reads as it did. -/
def catalogFindsUptoRow : OpenClaim := { program := "ytjpcngkddejdjae", sum := "0662f904ce643f65a0e669b12a494c5a53293d71b38aa84cf365d7d436e90bbb", func := "hearsay/hearsaylaw.CatalogFinds", spec := "catalogFinds", inPlace := ["internal/bytealg.abigen_runtime_cmpstring", "slices.overlaps[hearsay/api.Service]"], unfollowed := true, recurses := true, apart := false, narrowed := true }
def CatalogFindsUptoSaid : Prop := catalogFindsUptoRow.holds Try.pinned (OpenSpec.upto catalogFindsSpec)

/-- 'hearsaylaw.CatalogOrders', WHERE WHAT IT READS IS OF BULK AT MOST 1048576: true; the input reads as it did. -/
def catalogOrdersUptoRow : OpenClaim := { program := "ytjpcngkddejdjae", sum := "0662f904ce643f65a0e669b12a494c5a53293d71b38aa84cf365d7d436e90bbb", func := "hearsay/hearsaylaw.CatalogOrders", spec := "catalogOrders", inPlace := ["internal/bytealg.abigen_runtime_cmpstring", "slices.overlaps[hearsay/api.Service]"], unfollowed := true, recurses := true, apart := false, narrowed := true }
def CatalogOrdersUptoSaid : Prop := catalogOrdersUptoRow.holds Try.pinned (OpenSpec.upto catalogOrdersSpec)

end Rows
end Go.Proofs.Ytjpcngkddejdjae
