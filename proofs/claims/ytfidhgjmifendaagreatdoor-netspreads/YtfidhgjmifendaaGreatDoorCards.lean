/-
  DERIVED. GIVEN WITH THE SEED: THE CARDS: each row of YtfidhgjmifendaaGreatDoorRows.lean that lists a variable, with what it lists TIED to the program's text (the seventh form; the later family's looks); each row that meets fmt, with fmt's text TOLD by the authors' own Lean function (tested against real Go, not proved from fmt's source: count such statements apart). THE CARD IS WHAT COUNTS. Prove the row's statement (the work); the ties are given (YtfidhgjmifendaaGreatDoorTie.lean); close each card by the builder's one call (the guide's Derived/Test/ToyasCard.lean, 'card_holds'). Laid BY PROGRAM, IN A SANDBOX (cutbox-door.mjs). By AI agents, Wed Nov 11 2026. No macro, syntax, notation, axiom, sorry.
-/
import Derived.Test.YtfidhgjmifendaaGreatDoorRows
import GoSem.ClaimSeven
namespace Go.Proofs.YtfidhgjmifendaaGreatDoor
namespace Rows

/-- THE TIED CARD OF 'hearsaylaw.NetGrows'. -/
def netGrowsCard : Claim7 := { stood := { row := netGrowsRow, standIns := [], harness := (true, "3252a13c5b6e2587849e8c996c7ac70627d1252aa09be50b58c54cf8b2e08363"), looks := true }, kinds := [], alts := [], laidByText := true, laidKinds := [.data, .data, .data, .sentinel, .sentinel], laidTests := true, laidLooks := .later }
def NetGrowsCardSaid : Prop := Claim7.holds Tryz.pinned (.plain (OpenSpec.ofChange netGrowsSpec)) netGrowsCard

/-- THE TIED CARD OF 'hearsaylaw.NetTells'. -/
def netTellsCard : Claim7 := { stood := { row := netTellsRow, standIns := [], harness := (true, "3252a13c5b6e2587849e8c996c7ac70627d1252aa09be50b58c54cf8b2e08363"), looks := true }, kinds := [], alts := [], laidByText := true, laidKinds := [.data, .data, .data, .sentinel, .sentinel], laidTests := true, laidLooks := .later }
def NetTellsCardSaid : Prop := Claim7.holds Tryz.pinned (.plain (OpenSpec.ofChange netTellsSpec)) netTellsCard

/-- THE TIED CARD OF 'hearsaylaw.NetSpreads'. -/
def netSpreadsCard : Claim7 := { stood := { row := netSpreadsRow, standIns := [], harness := (true, "3252a13c5b6e2587849e8c996c7ac70627d1252aa09be50b58c54cf8b2e08363"), looks := true }, kinds := [], alts := [], laidByText := true, laidKinds := [.data, .data, .data, .sentinel, .sentinel], laidTests := true, laidLooks := .later }
def NetSpreadsCardSaid : Prop := Claim7.holds Tryz.pinned (.plain (OpenSpec.ofChange netSpreadsSpec)) netSpreadsCard

/-- THE SECOND FORM's CARD OF 'hearsaylaw.NetGrows'. -/
def netGrowsUptoCard : Claim7 := { stood := { row := netGrowsUptoRow, standIns := [], harness := (true, "3252a13c5b6e2587849e8c996c7ac70627d1252aa09be50b58c54cf8b2e08363"), looks := true }, kinds := [], alts := [], laidByText := true, laidKinds := [.data, .data, .data, .sentinel, .sentinel], laidTests := true, laidLooks := .later }
def NetGrowsUptoCardSaid : Prop := Claim7.holds Tryz.pinned (.plain (OpenSpec.upto netGrowsSpec)) netGrowsUptoCard

/-- THE SECOND FORM's CARD OF 'hearsaylaw.NetTells'. -/
def netTellsUptoCard : Claim7 := { stood := { row := netTellsUptoRow, standIns := [], harness := (true, "3252a13c5b6e2587849e8c996c7ac70627d1252aa09be50b58c54cf8b2e08363"), looks := true }, kinds := [], alts := [], laidByText := true, laidKinds := [.data, .data, .data, .sentinel, .sentinel], laidTests := true, laidLooks := .later }
def NetTellsUptoCardSaid : Prop := Claim7.holds Tryz.pinned (.plain (OpenSpec.upto netTellsSpec)) netTellsUptoCard

/-- THE SECOND FORM's CARD OF 'hearsaylaw.NetSpreads'. -/
def netSpreadsUptoCard : Claim7 := { stood := { row := netSpreadsUptoRow, standIns := [], harness := (true, "3252a13c5b6e2587849e8c996c7ac70627d1252aa09be50b58c54cf8b2e08363"), looks := true }, kinds := [], alts := [], laidByText := true, laidKinds := [.data, .data, .data, .sentinel, .sentinel], laidTests := true, laidLooks := .later }
def NetSpreadsUptoCardSaid : Prop := Claim7.holds Tryz.pinned (.plain (OpenSpec.upto netSpreadsSpec)) netSpreadsUptoCard
end Rows
end Go.Proofs.YtfidhgjmifendaaGreatDoor
