/-
  DERIVED. GIVEN WITH THE SEED: THE CARDS: each row of YtagmnociflkhcaaGreatDoorRows.lean that lists a variable, with what it lists TIED to the program's text (the seventh form; the later family's looks); each row that meets fmt, with fmt's text TOLD by the authors' own Lean function (tested against real Go, not proved from fmt's source: count such statements apart). THE CARD IS WHAT COUNTS. Prove the row's statement (the work); the ties are given (YtagmnociflkhcaaGreatDoorTie.lean); close each card by the builder's one call (the guide's Derived/Test/ToyasCard.lean, 'card_holds'). Laid BY PROGRAM, IN A SANDBOX (cutbox-door.mjs). By AI agents, Wed Nov 11 2026. No macro, syntax, notation, axiom, sorry.
-/
import Derived.Test.YtagmnociflkhcaaGreatDoorRows
import GoSem.ClaimSeven
namespace Go.Proofs.YtagmnociflkhcaaGreatDoor
namespace Rows

/-- THE TIED CARD OF 'laws.FnExactSaveLoad'. -/
def fnExactSaveLoadCard : Claim7 := { stood := { row := fnExactSaveLoadRow, standIns := [], harness := (true, "df65d2cb2fbf98dfbde8ba2dd476de5ca70c0b6a30f76577694a91a659786ac7"), looks := false }, kinds := [], alts := [], laidByText := true, laidKinds := [.sentinel], laidTests := true, laidLooks := .later }
def FnExactSaveLoadCardSaid : Prop := Claim7.holds Tryz.pinned (.plain (OpenSpec.ofChange fnExactSaveLoadSpec)) fnExactSaveLoadCard

/-- THE SECOND FORM's CARD OF 'laws.FnExactSaveLoad'. -/
def fnExactSaveLoadUptoCard : Claim7 := { stood := { row := fnExactSaveLoadUptoRow, standIns := [], harness := (true, "df65d2cb2fbf98dfbde8ba2dd476de5ca70c0b6a30f76577694a91a659786ac7"), looks := false }, kinds := [], alts := [], laidByText := true, laidKinds := [.sentinel], laidTests := true, laidLooks := .later }
def FnExactSaveLoadUptoCardSaid : Prop := Claim7.holds Tryz.pinned (.plain (OpenSpec.upto fnExactSaveLoadSpec)) fnExactSaveLoadUptoCard
end Rows
end Go.Proofs.YtagmnociflkhcaaGreatDoor
