/-
  No cell of these rows narrows 'for every input' (looked for: loops, veiled, ifaces, maps, wideKeys, modest, calm, conditions, laid).
  DERIVED. THE GIVEN ROWS OF THIS SEAT. 6 by the template 'for every input the law returns true; each argument reads behind the call as it read before'; 0 by the template 'total and deterministic' (their statements: YtcledbejggmfoabTotals.lean).
  GIVEN WITH THE SEED: the statements are not yours to turn. If you find one false, say at which input.
  Laid BY PROGRAM, IN A SANDBOX (cutbox-rows.mjs): the forced cells as the released guide's own fill.sh prints them over the translation 53b06022fcc5098d… (all of the seat's roots in one cut). By AI agents, Wed Nov 11 2026. No macro, syntax, notation, axiom, sorry.
-/
import Derived.Test.YtcledbejggmfoabChecked
import GoSem.Claim
import GoSem.ClaimJoined
import GoSem.ClaimMapViews
import Derived.JoinedTies
import Derived.KernelRfl
namespace Go.Proofs.Ytcledbejggmfoab
/- THE CELL 'sum', in the pinned program and in every row, IS THE sha256 OF THE DUMP (.gsa) THAT YtcledbejggmfoabProg.lean LOADS. Nothing in Lean hashes anything: it is a label: what it is worth is what the hold of that sum in a sandbox is worth. -/
noncomputable def Try.pinned : Pinned := { name := "ytcledbejggmfoab", sum := "53b06022fcc5098df0ce64b3f6c4fee7d68f9ddf31ceb8064947cd359bdd7051", checked := Try.checked }
namespace Rows
def none {H : Type} : Left H := { results := [], args := [] }

/-- 'hearsaylaw.MemberChecks': WHATEVER THE INPUT: true; the input reads as it did. -/
def memberChecksSpec : ChangeSpec := { name := "memberChecks", fn := fun _ => fun
  | [d] => { results := [.lit (.bool true)], args := [d] }
  | _ => none }
def memberChecksRow : OpenClaim := { program := "ytcledbejggmfoab", sum := "53b06022fcc5098df0ce64b3f6c4fee7d68f9ddf31ceb8064947cd359bdd7051", func := "hearsay/hearsaylaw.MemberChecks", spec := "memberChecks", inPlace := ["internal/bytealg.abigen_runtime_cmpstring", "slices.overlaps[hearsay/api.Member]"], unfollowed := true, recurses := true, apart := false }
def MemberChecksSaid : Prop := memberChecksRow.holds Try.pinned (OpenSpec.ofChange memberChecksSpec)

/-- ITS FALSE NEIGHBOUR: 'it returns false'. Refute it at one input. -/
def memberChecksWrong : ChangeSpec := { name := "memberChecks", fn := fun _ => fun
  | [d] => { results := [.lit (.bool false)], args := [d] }
  | _ => none }
def MemberChecksWrongFalsely : Prop := memberChecksRow.holds Try.pinned (OpenSpec.ofChange memberChecksWrong)

/-- 'hearsaylaw.MemberNewer': WHATEVER THE INPUT: true; the input reads as it did. -/
def memberNewerSpec : ChangeSpec := { name := "memberNewer", fn := fun _ => fun
  | [d1, d2] => { results := [.lit (.bool true)], args := [d1, d2] }
  | _ => none }
def memberNewerRow : OpenClaim := { program := "ytcledbejggmfoab", sum := "53b06022fcc5098df0ce64b3f6c4fee7d68f9ddf31ceb8064947cd359bdd7051", func := "hearsay/hearsaylaw.MemberNewer", spec := "memberNewer", inPlace := ["internal/bytealg.abigen_runtime_cmpstring", "slices.overlaps[hearsay/api.Member]"], unfollowed := true, recurses := true, apart := false }
def MemberNewerSaid : Prop := memberNewerRow.holds Try.pinned (OpenSpec.ofChange memberNewerSpec)

/-- ITS FALSE NEIGHBOUR: 'it returns false'. Refute it at one input. -/
def memberNewerWrong : ChangeSpec := { name := "memberNewer", fn := fun _ => fun
  | [d1, d2] => { results := [.lit (.bool false)], args := [d1, d2] }
  | _ => none }
def MemberNewerWrongFalsely : Prop := memberNewerRow.holds Try.pinned (OpenSpec.ofChange memberNewerWrong)

/-- 'hearsaylaw.MemberHears': WHATEVER THE INPUT: true; the input reads as it did. -/
def memberHearsSpec : ChangeSpec := { name := "memberHears", fn := fun _ => fun
  | [d1, d2] => { results := [.lit (.bool true)], args := [d1, d2] }
  | _ => none }
def memberHearsRow : OpenClaim := { program := "ytcledbejggmfoab", sum := "53b06022fcc5098df0ce64b3f6c4fee7d68f9ddf31ceb8064947cd359bdd7051", func := "hearsay/hearsaylaw.MemberHears", spec := "memberHears", inPlace := ["internal/bytealg.abigen_runtime_cmpstring", "slices.overlaps[hearsay/api.Member]"], unfollowed := true, recurses := true, apart := false }
def MemberHearsSaid : Prop := memberHearsRow.holds Try.pinned (OpenSpec.ofChange memberHearsSpec)

/-- ITS FALSE NEIGHBOUR: 'it returns false'. Refute it at one input. -/
def memberHearsWrong : ChangeSpec := { name := "memberHears", fn := fun _ => fun
  | [d1, d2] => { results := [.lit (.bool false)], args := [d1, d2] }
  | _ => none }
def MemberHearsWrongFalsely : Prop := memberHearsRow.holds Try.pinned (OpenSpec.ofChange memberHearsWrong)

/-- 'hearsaylaw.MemberJoins': WHATEVER THE INPUT: true; the input reads as it did. -/
def memberJoinsSpec : ChangeSpec := { name := "memberJoins", fn := fun _ => fun
  | [d1, d2] => { results := [.lit (.bool true)], args := [d1, d2] }
  | _ => none }
def memberJoinsRow : OpenClaim := { program := "ytcledbejggmfoab", sum := "53b06022fcc5098df0ce64b3f6c4fee7d68f9ddf31ceb8064947cd359bdd7051", func := "hearsay/hearsaylaw.MemberJoins", spec := "memberJoins", inPlace := ["internal/bytealg.abigen_runtime_cmpstring", "slices.overlaps[hearsay/api.Member]"], unfollowed := true, recurses := true, apart := false }
def MemberJoinsSaid : Prop := memberJoinsRow.holds Try.pinned (OpenSpec.ofChange memberJoinsSpec)

/-- ITS FALSE NEIGHBOUR: 'it returns false'. Refute it at one input. -/
def memberJoinsWrong : ChangeSpec := { name := "memberJoins", fn := fun _ => fun
  | [d1, d2] => { results := [.lit (.bool false)], args := [d1, d2] }
  | _ => none }
def MemberJoinsWrongFalsely : Prop := memberJoinsRow.holds Try.pinned (OpenSpec.ofChange memberJoinsWrong)

/-- 'hearsaylaw.MemberRefutes': WHATEVER THE INPUT: true; the input reads as it did. -/
def memberRefutesSpec : ChangeSpec := { name := "memberRefutes", fn := fun _ => fun
  | [d1, d2] => { results := [.lit (.bool true)], args := [d1, d2] }
  | _ => none }
def memberRefutesRow : OpenClaim := { program := "ytcledbejggmfoab", sum := "53b06022fcc5098df0ce64b3f6c4fee7d68f9ddf31ceb8064947cd359bdd7051", func := "hearsay/hearsaylaw.MemberRefutes", spec := "memberRefutes", inPlace := ["internal/bytealg.abigen_runtime_cmpstring", "slices.overlaps[hearsay/api.Member]"], unfollowed := true, recurses := true, apart := false }
def MemberRefutesSaid : Prop := memberRefutesRow.holds Try.pinned (OpenSpec.ofChange memberRefutesSpec)

/-- ITS FALSE NEIGHBOUR: 'it returns false'. Refute it at one input. -/
def memberRefutesWrong : ChangeSpec := { name := "memberRefutes", fn := fun _ => fun
  | [d1, d2] => { results := [.lit (.bool false)], args := [d1, d2] }
  | _ => none }
def MemberRefutesWrongFalsely : Prop := memberRefutesRow.holds Try.pinned (OpenSpec.ofChange memberRefutesWrong)

/-- 'hearsaylaw.MemberOrders': WHATEVER THE INPUT: true; the input reads as it did. -/
def memberOrdersSpec : ChangeSpec := { name := "memberOrders", fn := fun _ => fun
  | [d1, d2, d3, d4, d5] => { results := [.lit (.bool true)], args := [d1, d2, d3, d4, d5] }
  | _ => none }
def memberOrdersRow : OpenClaim := { program := "ytcledbejggmfoab", sum := "53b06022fcc5098df0ce64b3f6c4fee7d68f9ddf31ceb8064947cd359bdd7051", func := "hearsay/hearsaylaw.MemberOrders", spec := "memberOrders", inPlace := ["internal/bytealg.abigen_runtime_cmpstring", "slices.overlaps[hearsay/api.Member]"], unfollowed := true, recurses := true, apart := false }
def MemberOrdersSaid : Prop := memberOrdersRow.holds Try.pinned (OpenSpec.ofChange memberOrdersSpec)

/-- ITS FALSE NEIGHBOUR: 'it returns false'. Refute it at one input. -/
def memberOrdersWrong : ChangeSpec := { name := "memberOrders", fn := fun _ => fun
  | [d1, d2, d3, d4, d5] => { results := [.lit (.bool false)], args := [d1, d2, d3, d4, d5] }
  | _ => none }
def MemberOrdersWrongFalsely : Prop := memberOrdersRow.holds Try.pinned (OpenSpec.ofChange memberOrdersWrong)

/- THE SECOND FORM. 'bulk': how many values and letters a reading holds, each counted each time it is reached (what is shared counts as often as it is met; a slice's spare places count too). A statement '..UptoSaid' is the law's where the arguments, and the package variables that the reading takes, are together of bulk at most 1048576: NARROWER than '..Said'. Prove '..Said' where nothing that the law and all that it calls make is longer than what came in: it says more and counts as full. Else prove '..UptoSaid'. A law counts once. -/
mutual
def uptoBulk {H : Type} : DataW H → Nat
  | .lit (.string bytes) => bytes.length + 1
  | .lit _ => 1
  | .nil => 1
  | .ptr d => uptoBulk d + 1
  | .slice elems spare => uptoBulkAll elems + uptoBulkAll spare + 1
  | .agg parts => uptoBulkAll parts + 1
  | .iface _ d => uptoBulk d + 1
  | .map entries => uptoBulkEntries entries + 1
  | .held _ => 1
def uptoBulkAll {H : Type} : List (DataW H) → Nat
  | [] => 0
  | d :: r => uptoBulk d + uptoBulkAll r
def uptoBulkEntries {H : Type} : List (Lit × DataW H) → Nat
  | [] => 0
  | x :: r => uptoBulkEntry x + uptoBulkEntries r
def uptoBulkEntry {H : Type} : Lit × DataW H → Nat
  | (.string bytes, d) => bytes.length + uptoBulk d + 1
  | (_, d) => uptoBulk d + 1
 end
def uptoSmall : (H : Type) → List (DataW H) → Bool := fun _ ds => decide (uptoBulkAll ds ≤ 1048576)
def OpenSpec.upto (s : _root_.Go.ChangeSpec) : _root_.Go.OpenSpec := { _root_.Go.OpenSpec.ofChange s with cond := some uptoSmall }

/-- 'hearsaylaw.MemberChecks', WHERE WHAT IT READS IS OF BULK AT MOST 1048576: true; the input reads as it did. -/
def memberChecksUptoRow : OpenClaim := { program := "ytcledbejggmfoab", sum := "53b06022fcc5098df0ce64b3f6c4fee7d68f9ddf31ceb8064947cd359bdd7051", func := "hearsay/hearsaylaw.MemberChecks", spec := "memberChecks", inPlace := ["internal/bytealg.abigen_runtime_cmpstring", "slices.overlaps[hearsay/api.Member]"], unfollowed := true, recurses := true, apart := false, narrowed := true }
def MemberChecksUptoSaid : Prop := memberChecksUptoRow.holds Try.pinned (OpenSpec.upto memberChecksSpec)

/-- 'hearsaylaw.MemberNewer', WHERE WHAT IT READS IS OF BULK AT MOST 1048576: true; the input reads as it did. -/
def memberNewerUptoRow : OpenClaim := { program := "ytcledbejggmfoab", sum := "53b06022fcc5098df0ce64b3f6c4fee7d68f9ddf31ceb8064947cd359bdd7051", func := "hearsay/hearsaylaw.MemberNewer", spec := "memberNewer", inPlace := ["internal/bytealg.abigen_runtime_cmpstring", "slices.overlaps[hearsay/api.Member]"], unfollowed := true, recurses := true, apart := false, narrowed := true }
def MemberNewerUptoSaid : Prop := memberNewerUptoRow.holds Try.pinned (OpenSpec.upto memberNewerSpec)

/-- 'hearsaylaw.MemberHears', WHERE WHAT IT READS IS OF BULK AT MOST 1048576: true; the input reads as it did. -/
def memberHearsUptoRow : OpenClaim := { program := "ytcledbejggmfoab", sum := "53b06022fcc5098df0ce64b3f6c4fee7d68f9ddf31ceb8064947cd359bdd7051", func := "hearsay/hearsaylaw.MemberHears", spec := "memberHears", inPlace := ["internal/bytealg.abigen_runtime_cmpstring", "slices.overlaps[hearsay/api.Member]"], unfollowed := true, recurses := true, apart := false, narrowed := true }
def MemberHearsUptoSaid : Prop := memberHearsUptoRow.holds Try.pinned (OpenSpec.upto memberHearsSpec)

/-- 'hearsaylaw.MemberJoins', WHERE WHAT IT READS IS OF BULK AT MOST 1048576: true; the input reads as it did. -/
def memberJoinsUptoRow : OpenClaim := { program := "ytcledbejggmfoab", sum := "53b06022fcc5098df0ce64b3f6c4fee7d68f9ddf31ceb8064947cd359bdd7051", func := "hearsay/hearsaylaw.MemberJoins", spec := "memberJoins", inPlace := ["internal/bytealg.abigen_runtime_cmpstring", "slices.overlaps[hearsay/api.Member]"], unfollowed := true, recurses := true, apart := false, narrowed := true }
def MemberJoinsUptoSaid : Prop := memberJoinsUptoRow.holds Try.pinned (OpenSpec.upto memberJoinsSpec)

/-- 'hearsaylaw.MemberRefutes', WHERE WHAT IT READS IS OF BULK AT MOST 1048576: true; the input reads as it did. -/
def memberRefutesUptoRow : OpenClaim := { program := "ytcledbejggmfoab", sum := "53b06022fcc5098df0ce64b3f6c4fee7d68f9ddf31ceb8064947cd359bdd7051", func := "hearsay/hearsaylaw.MemberRefutes", spec := "memberRefutes", inPlace := ["internal/bytealg.abigen_runtime_cmpstring", "slices.overlaps[hearsay/api.Member]"], unfollowed := true, recurses := true, apart := false, narrowed := true }
def MemberRefutesUptoSaid : Prop := memberRefutesUptoRow.holds Try.pinned (OpenSpec.upto memberRefutesSpec)

/-- 'hearsaylaw.MemberOrders', WHERE WHAT IT READS IS OF BULK AT MOST 1048576: true; the input reads as it did. -/
def memberOrdersUptoRow : OpenClaim := { program := "ytcledbejggmfoab", sum := "53b06022fcc5098df0ce64b3f6c4fee7d68f9ddf31ceb8064947cd359bdd7051", func := "hearsay/hearsaylaw.MemberOrders", spec := "memberOrders", inPlace := ["internal/bytealg.abigen_runtime_cmpstring", "slices.overlaps[hearsay/api.Member]"], unfollowed := true, recurses := true, apart := false, narrowed := true }
def MemberOrdersUptoSaid : Prop := memberOrdersUptoRow.holds Try.pinned (OpenSpec.upto memberOrdersSpec)

end Rows
end Go.Proofs.Ytcledbejggmfoab
