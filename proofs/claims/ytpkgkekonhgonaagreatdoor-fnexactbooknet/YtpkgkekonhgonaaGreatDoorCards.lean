/-
  DERIVED. GIVEN WITH THE SEED: THE CARDS: each row of YtpkgkekonhgonaaGreatDoorRows.lean that lists a variable, with what it lists TIED to the program's text (the seventh form; the later family's looks); each row that meets fmt, with fmt's text TOLD by the authors' own Lean function (tested against real Go, not proved from fmt's source: count such statements apart). THE CARD IS WHAT COUNTS. Prove the row's statement (the work); the ties are given (YtpkgkekonhgonaaGreatDoorTie.lean); close each card by the builder's one call (the guide's Derived/Test/ToyasCard.lean, 'card_holds'). Laid BY PROGRAM, IN A SANDBOX (cutbox-door.mjs). By AI agents, Wed Nov 11 2026. No macro, syntax, notation, axiom, sorry.
-/
import Derived.Test.YtpkgkekonhgonaaGreatDoorRows
import GoSem.ClaimSeven
namespace Go.Proofs.YtpkgkekonhgonaaGreatDoor
namespace Rows

/-- THE TIED CARD OF 'laws.FnExactNetLegs'. -/
def fnExactNetLegsCard : Claim7 := { stood := { row := fnExactNetLegsRow, standIns := [], harness := (true, "42ae8a647b6b9da8c29744f6c3025fcb4c211caefccd0edd0152b580155eb56f"), looks := true }, kinds := [], alts := [], laidByText := true, laidKinds := [.sentinel, .sentinel, .sentinel, .sentinel], laidTests := true, laidLooks := .later }
def FnExactNetLegsCardSaid : Prop := Claim7.holds Tryz.pinned (.plain (OpenSpec.ofChange fnExactNetLegsSpec)) fnExactNetLegsCard

/-- THE TIED CARD OF 'laws.FnExactBookNet'. -/
def fnExactBookNetCard : Claim7 := { stood := { row := fnExactBookNetRow, standIns := [], harness := (true, "42ae8a647b6b9da8c29744f6c3025fcb4c211caefccd0edd0152b580155eb56f"), looks := true }, kinds := [], alts := [], laidByText := true, laidKinds := [.sentinel, .sentinel, .sentinel, .sentinel, .sentinel], laidTests := true, laidLooks := .later }
def FnExactBookNetCardSaid : Prop := Claim7.holds Tryz.pinned (.plain (OpenSpec.ofChange fnExactBookNetSpec)) fnExactBookNetCard

/-- THE SECOND FORM's CARD OF 'laws.FnExactNetLegs'. -/
def fnExactNetLegsUptoCard : Claim7 := { stood := { row := fnExactNetLegsUptoRow, standIns := [], harness := (true, "42ae8a647b6b9da8c29744f6c3025fcb4c211caefccd0edd0152b580155eb56f"), looks := true }, kinds := [], alts := [], laidByText := true, laidKinds := [.sentinel, .sentinel, .sentinel, .sentinel], laidTests := true, laidLooks := .later }
def FnExactNetLegsUptoCardSaid : Prop := Claim7.holds Tryz.pinned (.plain (OpenSpec.upto fnExactNetLegsSpec)) fnExactNetLegsUptoCard

/-- THE SECOND FORM's CARD OF 'laws.FnExactBookNet'. -/
def fnExactBookNetUptoCard : Claim7 := { stood := { row := fnExactBookNetUptoRow, standIns := [], harness := (true, "42ae8a647b6b9da8c29744f6c3025fcb4c211caefccd0edd0152b580155eb56f"), looks := true }, kinds := [], alts := [], laidByText := true, laidKinds := [.sentinel, .sentinel, .sentinel, .sentinel, .sentinel], laidTests := true, laidLooks := .later }
def FnExactBookNetUptoCardSaid : Prop := Claim7.holds Tryz.pinned (.plain (OpenSpec.upto fnExactBookNetSpec)) fnExactBookNetUptoCard
end Rows
end Go.Proofs.YtpkgkekonhgonaaGreatDoor
