/-
  DERIVED. GIVEN WITH THE SEED: THE CARDS: each row of YtbfghimjdlpicaaGreatDoorRows.lean that lists a variable, with what it lists TIED to the program's text (the seventh form; the later family's looks); each row that meets fmt, with fmt's text TOLD by the authors' own Lean function (tested against real Go, not proved from fmt's source: count such statements apart). THE CARD IS WHAT COUNTS. Prove the row's statement (the work); the ties are given (YtbfghimjdlpicaaGreatDoorTie.lean); close each card by the builder's one call (the guide's Derived/Test/ToyasCard.lean, 'card_holds'). Laid BY PROGRAM, IN A SANDBOX (cutbox-door.mjs). By AI agents, Wed Nov 11 2026. No macro, syntax, notation, axiom, sorry.
-/
import Derived.Test.YtbfghimjdlpicaaGreatDoorRows
import GoSem.ClaimSeven
namespace Go.Proofs.YtbfghimjdlpicaaGreatDoor
namespace Rows

/-- THE TIED CARD OF 'hearsaylaw.NetAgrees'. -/
def netAgreesCard : Claim7 := { stood := { row := netAgreesRow, standIns := [], harness := (true, "d819fda57c315219d8bb05d24e434aef58ceb45a3f8376d055f3075c4639bcbd"), looks := true }, kinds := [], alts := [], laidByText := true, laidKinds := [.data, .data, .data, .sentinel, .sentinel], laidTests := true, laidLooks := .later }
def NetAgreesCardSaid : Prop := Claim7.holds Tryz.pinned (.plain (OpenSpec.ofChange netAgreesSpec)) netAgreesCard

/-- THE SECOND FORM's CARD OF 'hearsaylaw.NetAgrees'. -/
def netAgreesUptoCard : Claim7 := { stood := { row := netAgreesUptoRow, standIns := [], harness := (true, "d819fda57c315219d8bb05d24e434aef58ceb45a3f8376d055f3075c4639bcbd"), looks := true }, kinds := [], alts := [], laidByText := true, laidKinds := [.data, .data, .data, .sentinel, .sentinel], laidTests := true, laidLooks := .later }
def NetAgreesUptoCardSaid : Prop := Claim7.holds Tryz.pinned (.plain (OpenSpec.upto netAgreesSpec)) netAgreesUptoCard
end Rows
end Go.Proofs.YtbfghimjdlpicaaGreatDoor
