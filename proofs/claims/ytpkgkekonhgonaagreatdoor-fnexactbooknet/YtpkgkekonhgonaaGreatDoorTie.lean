/-
  DERIVED. GIVEN WITH THE SEED: THE PROGRAM's TIES (one call each: nine closed facts by the kernel) AND EACH ROW's TIE, after the 31st guide's Derived/Test/Toyas{Tie, Card}.lean. No idea stands in it: it is a product of the set-up. Laid BY PROGRAM, IN A SANDBOX (cutbox-door.mjs). By AI agents, Wed Nov 11 2026. No macro, syntax, notation, axiom, sorry.
-/
import Derived.Test.YtpkgkekonhgonaaGreatDoorRows
import Derived.LaidByTextLater
import Derived.SevenTiedAt
import Derived.LaidSub
import Derived.LaidOnce
namespace Go.Proofs.YtpkgkekonhgonaaGreatDoor
open Go
set_option maxRecDepth 100000
theorem seatTie1 : Tryz.prog.laidByTextLater [("loop.example/g00110/impl.errNone", Rows.laid_loop_example_g00110_impl_errNone), ("loop.example/g00110/impl.errState", Rows.laid_loop_example_g00110_impl_errState), ("loop.example/g00110/impl.errShort", Rows.laid_loop_example_g00110_impl_errShort), ("loop.example/g00110/impl.errFull", Rows.laid_loop_example_g00110_impl_errFull), ("loop.example/g00110/impl.errLarge", Rows.laid_loop_example_g00110_impl_errLarge)] [.sentinel, .sentinel, .sentinel, .sentinel, .sentinel] true :=
  Program.laidByTextLater_by_one 104 8 2 (by kernel_rfl) (by kernel_rfl) (by kernel_rfl) (by kernel_rfl) (by kernel_rfl) (by kernel_rfl) (fun _ _ => by kernel_rfl)
theorem noOwnUnsafe : Tryz.pinned.checked.prog.headLifts.contains "ownunsafe" = false := by kernel_rfl
theorem tie : Tryz.prog.laidByTextLater [("loop.example/g00110/impl.errNone", Rows.laid_loop_example_g00110_impl_errNone), ("loop.example/g00110/impl.errState", Rows.laid_loop_example_g00110_impl_errState), ("loop.example/g00110/impl.errFull", Rows.laid_loop_example_g00110_impl_errFull), ("loop.example/g00110/impl.errLarge", Rows.laid_loop_example_g00110_impl_errLarge)] [.sentinel, .sentinel, .sentinel, .sentinel] true :=
  Program.laidByTextLater.sub seatTie1 ["loop.example/g00110/impl.errNone", "loop.example/g00110/impl.errState", "loop.example/g00110/impl.errFull", "loop.example/g00110/impl.errLarge"] (by kernel_rfl) (by kernel_rfl)
theorem fnExactNetLegs_row_tie : Rows.fnExactNetLegsRow.laidByTextAt .later Tryz.pinned [.sentinel, .sentinel, .sentinel, .sentinel] true :=
  OpenClaim.laidByTextAt_later rfl rfl tie noOwnUnsafe
theorem tie2 : Tryz.prog.laidByTextLater [("loop.example/g00110/impl.errNone", Rows.laid_loop_example_g00110_impl_errNone), ("loop.example/g00110/impl.errState", Rows.laid_loop_example_g00110_impl_errState), ("loop.example/g00110/impl.errShort", Rows.laid_loop_example_g00110_impl_errShort), ("loop.example/g00110/impl.errFull", Rows.laid_loop_example_g00110_impl_errFull), ("loop.example/g00110/impl.errLarge", Rows.laid_loop_example_g00110_impl_errLarge)] [.sentinel, .sentinel, .sentinel, .sentinel, .sentinel] true :=
  Program.laidByTextLater.sub seatTie1 ["loop.example/g00110/impl.errNone", "loop.example/g00110/impl.errState", "loop.example/g00110/impl.errShort", "loop.example/g00110/impl.errFull", "loop.example/g00110/impl.errLarge"] (by kernel_rfl) (by kernel_rfl)
theorem fnExactBookNet_row_tie : Rows.fnExactBookNetRow.laidByTextAt .later Tryz.pinned [.sentinel, .sentinel, .sentinel, .sentinel, .sentinel] true :=
  OpenClaim.laidByTextAt_later rfl rfl tie2 noOwnUnsafe
theorem fnExactNetLegsUpto_row_tie : Rows.fnExactNetLegsUptoRow.laidByTextAt .later Tryz.pinned [.sentinel, .sentinel, .sentinel, .sentinel] true :=
  OpenClaim.laidByTextAt_later rfl rfl tie noOwnUnsafe
theorem fnExactBookNetUpto_row_tie : Rows.fnExactBookNetUptoRow.laidByTextAt .later Tryz.pinned [.sentinel, .sentinel, .sentinel, .sentinel, .sentinel] true :=
  OpenClaim.laidByTextAt_later rfl rfl tie2 noOwnUnsafe
end Go.Proofs.YtpkgkekonhgonaaGreatDoor
