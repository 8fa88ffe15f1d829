/-
  DERIVED. GIVEN WITH THE SEED: THE CARDS: each row of YtfidjlcdlakceaaGreatDoorRows.lean that lists a variable, with what it lists TIED to the program's text (the seventh form; the later family's looks); each row that meets fmt, with fmt's text TOLD by the authors' own Lean function (tested against real Go, not proved from fmt's source: count such statements apart). THE CARD IS WHAT COUNTS. Prove the row's statement (the work); the ties are given (YtfidjlcdlakceaaGreatDoorTie.lean); close each card by the builder's one call (the guide's Derived/Test/ToyasCard.lean, 'card_holds'). Laid BY PROGRAM, IN A SANDBOX (cutbox-door.mjs). By AI agents, Wed Nov 11 2026. No macro, syntax, notation, axiom, sorry.
-/
import Derived.Test.YtfidjlcdlakceaaGreatDoorRows
import GoSem.ClaimSeven
namespace Go.Proofs.YtfidjlcdlakceaaGreatDoor
namespace Rows

/-- THE TIED CARD OF 'hearsaylaw.NodeRoutes'. -/
def nodeRoutesCard : Claim7 := { stood := { row := nodeRoutesRow, standIns := [], harness := (true, "b4084f88ae7b184649d47c216ecee6ec4cc8079ef5ca5218c66ab1f353101a7d"), looks := true }, kinds := [], alts := [], laidByText := true, laidKinds := [.data, .pinned], laidTests := true, laidLooks := .later }
def NodeRoutesCardSaid : Prop := Claim7.holds Tryz.pinned (.plain (OpenSpec.ofChange nodeRoutesSpec)) nodeRoutesCard

/-- THE TIED CARD OF 'hearsaylaw.TopFound'. -/
def topFoundCard : Claim7 := { stood := { row := topFoundRow, standIns := [], harness := (true, "b4084f88ae7b184649d47c216ecee6ec4cc8079ef5ca5218c66ab1f353101a7d"), looks := true }, kinds := [], alts := [], laidByText := true, laidKinds := [.data, .pinned], laidTests := true, laidLooks := .later }
def TopFoundCardSaid : Prop := Claim7.holds Tryz.pinned (.plain (OpenSpec.ofChange topFoundSpec)) topFoundCard

/-- THE SECOND FORM's CARD OF 'hearsaylaw.NodeRoutes'. -/
def nodeRoutesUptoCard : Claim7 := { stood := { row := nodeRoutesUptoRow, standIns := [], harness := (true, "b4084f88ae7b184649d47c216ecee6ec4cc8079ef5ca5218c66ab1f353101a7d"), looks := true }, kinds := [], alts := [], laidByText := true, laidKinds := [.data, .pinned], laidTests := true, laidLooks := .later }
def NodeRoutesUptoCardSaid : Prop := Claim7.holds Tryz.pinned (.plain (OpenSpec.upto nodeRoutesSpec)) nodeRoutesUptoCard

/-- THE SECOND FORM's CARD OF 'hearsaylaw.TopFound'. -/
def topFoundUptoCard : Claim7 := { stood := { row := topFoundUptoRow, standIns := [], harness := (true, "b4084f88ae7b184649d47c216ecee6ec4cc8079ef5ca5218c66ab1f353101a7d"), looks := true }, kinds := [], alts := [], laidByText := true, laidKinds := [.data, .pinned], laidTests := true, laidLooks := .later }
def TopFoundUptoCardSaid : Prop := Claim7.holds Tryz.pinned (.plain (OpenSpec.upto topFoundSpec)) topFoundUptoCard
end Rows
end Go.Proofs.YtfidjlcdlakceaaGreatDoor
