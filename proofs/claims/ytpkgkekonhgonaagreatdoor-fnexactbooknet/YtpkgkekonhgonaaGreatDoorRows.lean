/-
  NARROWER THAN 'FOR EVERY INPUT', by the rows' own cells (each row's printed sentence says how): FnExactNetLegs: ifaces, laid · FnExactBookNet: ifaces, laid.
  DERIVED. THE GIVEN ROWS OF THIS SEAT. 2 by the template 'for every input the law returns true; each argument reads behind the call as it read before'; 0 by the template 'total and deterministic' (their statements: YtpkgkekonhgonaaGreatDoorTotals.lean).
  GIVEN WITH THE SEED: the statements are not yours to turn. If you find one false, say at which input.
  Laid BY PROGRAM, IN A SANDBOX (cutbox-rows.mjs): the forced cells as the released guide's own fill.sh prints them over the translation 22770b397613e892… (all of the seat's roots in one cut). By AI agents, Wed Nov 11 2026. No macro, syntax, notation, axiom, sorry.
-/
import Derived.Test.YtpkgkekonhgonaaGreatDoorChecked
import GoSem.Claim
import GoSem.ClaimJoined
import GoSem.ClaimMapViews
import Derived.JoinedTies
import Derived.KernelRfl
namespace Go.Proofs.YtpkgkekonhgonaaGreatDoor
/- THE CELL 'sum', in the pinned program and in every row, IS THE sha256 OF THE DUMP (.gsa) THAT YtpkgkekonhgonaaGreatDoorProg.lean LOADS. Nothing in Lean hashes anything: it is a label: what it is worth is what the hold of that sum in a sandbox is worth. -/
noncomputable def Tryz.pinned : Pinned := { name := "ytpkgkekonhgonaagreatdoor", sum := "22770b397613e892252ec8ef56927a980e552e3c3c681f7fa1fda4af308c2230", checked := Tryz.checked }
namespace Rows
def none {H : Type} : Left H := { results := [], args := [] }

/- WHAT THE LISTED PACKAGE-LEVEL VARIABLES READ AS WHEN THE CALL BEGINS. Each datum BY PROGRAM (the guide's laid-datum.mjs) off the statement by which the dump's own 'gosem.cut.vars' lays the variable. In a bare row this is a premise. The card (YtpkgkekonhgonaaGreatDoorCards.lean) ties it to the program's text. -/
def laid_loop_example_g00110_impl_errNone {H : Type} : DataW H := .iface "*errors.errorString" (.ptr (.agg [.lit (.string [116, 104, 101, 114, 101, 32, 105, 115, 32, 110, 111, 32, 115, 117, 99, 104, 32, 116, 114, 97, 100, 101])]))
def laid_loop_example_g00110_impl_errState {H : Type} : DataW H := .iface "*errors.errorString" (.ptr (.agg [.lit (.string [97, 32, 116, 114, 97, 100, 101, 32, 105, 115, 32, 110, 111, 116, 32, 111, 112, 101, 110])]))
def laid_loop_example_g00110_impl_errFull {H : Type} : DataW H := .iface "*errors.errorString" (.ptr (.agg [.lit (.string [116, 104, 101, 114, 101, 32, 105, 115, 32, 110, 111, 32, 114, 111, 111, 109])]))
def laid_loop_example_g00110_impl_errLarge {H : Type} : DataW H := .iface "*errors.errorString" (.ptr (.agg [.lit (.string [97, 32, 115, 117, 109, 32, 105, 115, 32, 110, 111, 32, 97, 109, 111, 117, 110, 116])]))
def laid_loop_example_g00110_impl_errShort {H : Type} : DataW H := .iface "*errors.errorString" (.ptr (.agg [.lit (.string [97, 32, 104, 111, 108, 100, 101, 114, 32, 104, 97, 115, 32, 116, 111, 111, 32, 108, 105, 116, 116, 108, 101])]))

/-- 'laws.FnExactNetLegs': WHATEVER THE INPUT: true; the input reads as it did. -/
def fnExactNetLegsSpec : ChangeSpec := { name := "fnExactNetLegs", vars := ["loop.example/g00110/impl.errFull", "loop.example/g00110/impl.errNone", "loop.example/g00110/impl.errState", "loop.example/g00110/impl.errLarge"], fn := fun _ => fun
  | [d1, d2, g1, g2, g3, g4] => { results := [.lit (.bool true)], args := [d1, d2], vars := [g1, g2, g3, g4] }
  | _ => none }
def fnExactNetLegsRow : OpenClaim := { program := "ytpkgkekonhgonaagreatdoor", sum := "22770b397613e892252ec8ef56927a980e552e3c3c681f7fa1fda4af308c2230", func := "loop.example/g00110/laws.FnExactNetLegs", spec := "fnExactNetLegs", unfollowed := true, recurses := true, named := ["loop.example/g00110/impl.errFull", "loop.example/g00110/impl.errNone", "loop.example/g00110/impl.errState", "loop.example/g00110/impl.errLarge"], ifaces := true, plainKeys := false, apart := false, laid := [("loop.example/g00110/impl.errNone", laid_loop_example_g00110_impl_errNone), ("loop.example/g00110/impl.errState", laid_loop_example_g00110_impl_errState), ("loop.example/g00110/impl.errFull", laid_loop_example_g00110_impl_errFull), ("loop.example/g00110/impl.errLarge", laid_loop_example_g00110_impl_errLarge)] }
def FnExactNetLegsSaid : Prop := fnExactNetLegsRow.holds Tryz.pinned (OpenSpec.ofChange fnExactNetLegsSpec)

/-- ITS FALSE NEIGHBOUR: 'it returns false'. Refute it at one input. -/
def fnExactNetLegsWrong : ChangeSpec := { name := "fnExactNetLegs", vars := ["loop.example/g00110/impl.errFull", "loop.example/g00110/impl.errNone", "loop.example/g00110/impl.errState", "loop.example/g00110/impl.errLarge"], fn := fun _ => fun
  | [d1, d2, g1, g2, g3, g4] => { results := [.lit (.bool false)], args := [d1, d2], vars := [g1, g2, g3, g4] }
  | _ => none }
def FnExactNetLegsWrongFalsely : Prop := fnExactNetLegsRow.holds Tryz.pinned (OpenSpec.ofChange fnExactNetLegsWrong)

/-- 'laws.FnExactBookNet': WHATEVER THE INPUT: true; the input reads as it did. -/
def fnExactBookNetSpec : ChangeSpec := { name := "fnExactBookNet", vars := ["loop.example/g00110/impl.errNone", "loop.example/g00110/impl.errLarge", "loop.example/g00110/impl.errFull", "loop.example/g00110/impl.errState", "loop.example/g00110/impl.errShort"], fn := fun _ => fun
  | [d1, d2, d3, d4, g1, g2, g3, g4, g5] => { results := [.lit (.bool true)], args := [d1, d2, d3, d4], vars := [g1, g2, g3, g4, g5] }
  | _ => none }
def fnExactBookNetRow : OpenClaim := { program := "ytpkgkekonhgonaagreatdoor", sum := "22770b397613e892252ec8ef56927a980e552e3c3c681f7fa1fda4af308c2230", func := "loop.example/g00110/laws.FnExactBookNet", spec := "fnExactBookNet", inPlace := ["internal/reflectlite.TypeOf"], unfollowed := true, recurses := true, named := ["loop.example/g00110/impl.errNone", "loop.example/g00110/impl.errLarge", "loop.example/g00110/impl.errFull", "loop.example/g00110/impl.errState", "loop.example/g00110/impl.errShort"], ifaces := true, plainKeys := false, apart := false, laid := [("loop.example/g00110/impl.errNone", laid_loop_example_g00110_impl_errNone), ("loop.example/g00110/impl.errState", laid_loop_example_g00110_impl_errState), ("loop.example/g00110/impl.errShort", laid_loop_example_g00110_impl_errShort), ("loop.example/g00110/impl.errFull", laid_loop_example_g00110_impl_errFull), ("loop.example/g00110/impl.errLarge", laid_loop_example_g00110_impl_errLarge)] }
def FnExactBookNetSaid : Prop := fnExactBookNetRow.holds Tryz.pinned (OpenSpec.ofChange fnExactBookNetSpec)

/-- ITS FALSE NEIGHBOUR: 'it returns false'. Refute it at one input. -/
def fnExactBookNetWrong : ChangeSpec := { name := "fnExactBookNet", vars := ["loop.example/g00110/impl.errNone", "loop.example/g00110/impl.errLarge", "loop.example/g00110/impl.errFull", "loop.example/g00110/impl.errState", "loop.example/g00110/impl.errShort"], fn := fun _ => fun
  | [d1, d2, d3, d4, g1, g2, g3, g4, g5] => { results := [.lit (.bool false)], args := [d1, d2, d3, d4], vars := [g1, g2, g3, g4, g5] }
  | _ => none }
def FnExactBookNetWrongFalsely : Prop := fnExactBookNetRow.holds Tryz.pinned (OpenSpec.ofChange fnExactBookNetWrong)

/- THE SECOND FORM. 'bulk': how many values and letters a reading holds, each counted each time it is reached (what is shared counts as often as it is met; a slice's spare places count too). A statement '..UptoSaid' is the law's where the arguments, and the package variables that the reading takes, are together of bulk at most 1048576: NARROWER than '..Said'. Prove '..Said' where nothing that the law and all that it calls make is longer than what came in: it says more and counts as full. Else prove '..UptoSaid'. A law counts once. -/
mutual
def uptoBulk {H : Type} : DataW H → Nat
  | .lit (.string bytes) => bytes.length + 1
  | .lit _ => 1
  | .nil => 1
  | .ptr d => uptoBulk d + 1
  | .slice elems spare => uptoBulkAll elems + uptoBulkAll spare + 1
  | .agg parts => uptoBulkAll parts + 1
  | .iface _ d => uptoBulk d + 1
  | .map entries => uptoBulkEntries entries + 1
  | .held _ => 1
def uptoBulkAll {H : Type} : List (DataW H) → Nat
  | [] => 0
  | d :: r => uptoBulk d + uptoBulkAll r
def uptoBulkEntries {H : Type} : List (Lit × DataW H) → Nat
  | [] => 0
  | x :: r => uptoBulkEntry x + uptoBulkEntries r
def uptoBulkEntry {H : Type} : Lit × DataW H → Nat
  | (.string bytes, d) => bytes.length + uptoBulk d + 1
  | (_, d) => uptoBulk d + 1
 end
def uptoSmall : (H : Type) → List (DataW H) → Bool := fun _ ds => decide (uptoBulkAll ds ≤ 1048576)
def OpenSpec.upto (s : _root_.Go.ChangeSpec) : _root_.Go.OpenSpec := { _root_.Go.OpenSpec.ofChange s with cond := some uptoSmall }

/-- 'laws.FnExactNetLegs', WHERE WHAT IT READS IS OF BULK AT MOST 1048576: true; the input reads as it did. -/
def fnExactNetLegsUptoRow : OpenClaim := { program := "ytpkgkekonhgonaagreatdoor", sum := "22770b397613e892252ec8ef56927a980e552e3c3c681f7fa1fda4af308c2230", func := "loop.example/g00110/laws.FnExactNetLegs", spec := "fnExactNetLegs", unfollowed := true, recurses := true, named := ["loop.example/g00110/impl.errFull", "loop.example/g00110/impl.errNone", "loop.example/g00110/impl.errState", "loop.example/g00110/impl.errLarge"], ifaces := true, plainKeys := false, apart := false, laid := [("loop.example/g00110/impl.errNone", laid_loop_example_g00110_impl_errNone), ("loop.example/g00110/impl.errState", laid_loop_example_g00110_impl_errState), ("loop.example/g00110/impl.errFull", laid_loop_example_g00110_impl_errFull), ("loop.example/g00110/impl.errLarge", laid_loop_example_g00110_impl_errLarge)], narrowed := true }
def FnExactNetLegsUptoSaid : Prop := fnExactNetLegsUptoRow.holds Tryz.pinned (OpenSpec.upto fnExactNetLegsSpec)

/-- 'laws.FnExactBookNet', WHERE WHAT IT READS IS OF BULK AT MOST 1048576: true; the input reads as it did. -/
def fnExactBookNetUptoRow : OpenClaim := { program := "ytpkgkekonhgonaagreatdoor", sum := "22770b397613e892252ec8ef56927a980e552e3c3c681f7fa1fda4af308c2230", func := "loop.example/g00110/laws.FnExactBookNet", spec := "fnExactBookNet", inPlace := ["internal/reflectlite.TypeOf"], unfollowed := true, recurses := true, named := ["loop.example/g00110/impl.errNone", "loop.example/g00110/impl.errLarge", "loop.example/g00110/impl.errFull", "loop.example/g00110/impl.errState", "loop.example/g00110/impl.errShort"], ifaces := true, plainKeys := false, apart := false, laid := [("loop.example/g00110/impl.errNone", laid_loop_example_g00110_impl_errNone), ("loop.example/g00110/impl.errState", laid_loop_example_g00110_impl_errState), ("loop.example/g00110/impl.errShort", laid_loop_example_g00110_impl_errShort), ("loop.example/g00110/impl.errFull", laid_loop_example_g00110_impl_errFull), ("loop.example/g00110/impl.errLarge", laid_loop_example_g00110_impl_errLarge)], narrowed := true }
def FnExactBookNetUptoSaid : Prop := fnExactBookNetUptoRow.holds Tryz.pinned (OpenSpec.upto fnExactBookNetSpec)

end Rows
end Go.Proofs.YtpkgkekonhgonaaGreatDoor
