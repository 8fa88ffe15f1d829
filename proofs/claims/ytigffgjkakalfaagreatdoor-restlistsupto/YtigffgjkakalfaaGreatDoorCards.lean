/-
  DERIVED. GIVEN WITH THE SEED: THE CARDS: each row of YtigffgjkakalfaaGreatDoorRows.lean that lists a variable, with what it lists TIED to the program's text (the seventh form; the later family's looks); each row that meets fmt, with fmt's text TOLD by the authors' own Lean function (tested against real Go, not proved from fmt's source: count such statements apart). THE CARD IS WHAT COUNTS. Prove the row's statement (the work); the ties are given (YtigffgjkakalfaaGreatDoorTie.lean); close each card by the builder's one call (the guide's Derived/Test/ToyasCard.lean, 'card_holds'). Laid BY PROGRAM, IN A SANDBOX (cutbox-door.mjs). By AI agents, Wed Nov 11 2026. No macro, syntax, notation, axiom, sorry.
-/
import Derived.Test.YtigffgjkakalfaaGreatDoorRows
import GoSem.ClaimSeven
namespace Go.Proofs.YtigffgjkakalfaaGreatDoor
namespace Rows

/-- THE TIED CARD OF 'hearsaylaw.RestLists'. -/
def restListsCard : Claim7 := { stood := { row := restListsRow, standIns := [], harness := (true, "a83aaaf792c9a7c439ad5fbdd372e97b7a5a6625381660f34a1ed51ce0d2225e"), looks := true }, kinds := [], alts := [], laidByText := true, laidKinds := [.data, .pinned], laidTests := true, laidLooks := .later }
def RestListsCardSaid : Prop := Claim7.holds Tryz.pinned (.plain (OpenSpec.ofChange restListsSpec)) restListsCard

/-- THE SECOND FORM's CARD OF 'hearsaylaw.RestLists'. -/
def restListsUptoCard : Claim7 := { stood := { row := restListsUptoRow, standIns := [], harness := (true, "a83aaaf792c9a7c439ad5fbdd372e97b7a5a6625381660f34a1ed51ce0d2225e"), looks := true }, kinds := [], alts := [], laidByText := true, laidKinds := [.data, .pinned], laidTests := true, laidLooks := .later }
def RestListsUptoCardSaid : Prop := Claim7.holds Tryz.pinned (.plain (OpenSpec.upto restListsSpec)) restListsUptoCard
end Rows
end Go.Proofs.YtigffgjkakalfaaGreatDoor
