/-
  DERIVED. GIVEN WITH THE SEED: THE CARDS: each row of YtefcigaalgfmiaaGreatDoorRows.lean that lists a variable, with what it lists TIED to the program's text (the seventh form; the later family's looks); each row that meets fmt, with fmt's text TOLD by the authors' own Lean function (tested against real Go, not proved from fmt's source: count such statements apart). THE CARD IS WHAT COUNTS. Prove the row's statement (the work); the ties are given (YtefcigaalgfmiaaGreatDoorTie.lean); close each card by the builder's one call (the guide's Derived/Test/ToyasCard.lean, 'card_holds'). Laid BY PROGRAM, IN A SANDBOX (cutbox-door.mjs). By AI agents, Wed Nov 11 2026. No macro, syntax, notation, axiom, sorry.
-/
import Derived.Test.YtefcigaalgfmiaaGreatDoorRows
import GoSem.ClaimSeven
namespace Go.Proofs.YtefcigaalgfmiaaGreatDoor
namespace Rows

/-- THE TIED CARD OF 'laws.FnExactBooksRead'. -/
def fnExactBooksReadCard : Claim7 := { stood := { row := fnExactBooksReadRow, standIns := [], harness := (true, "665357abe4b2b8ec2d74025665ae25c9194df744e26846192fe785e2d9c81c01"), looks := false }, kinds := [], alts := [], laidByText := true, laidKinds := [.sentinel], laidTests := true, laidLooks := .later }
def FnExactBooksReadCardSaid : Prop := Claim7.holds Tryz.pinned (.plain (OpenSpec.ofChange fnExactBooksReadSpec)) fnExactBooksReadCard

/-- THE SECOND FORM's CARD OF 'laws.FnExactBooksRead'. -/
def fnExactBooksReadUptoCard : Claim7 := { stood := { row := fnExactBooksReadUptoRow, standIns := [], harness := (true, "665357abe4b2b8ec2d74025665ae25c9194df744e26846192fe785e2d9c81c01"), looks := false }, kinds := [], alts := [], laidByText := true, laidKinds := [.sentinel], laidTests := true, laidLooks := .later }
def FnExactBooksReadUptoCardSaid : Prop := Claim7.holds Tryz.pinned (.plain (OpenSpec.upto fnExactBooksReadSpec)) fnExactBooksReadUptoCard
end Rows
end Go.Proofs.YtefcigaalgfmiaaGreatDoor
