/-
  NARROWER THAN 'FOR EVERY INPUT', by the rows' own cells (each row's printed sentence says how): FnExactSaveLoad: ifaces, laid.
  DERIVED. THE GIVEN ROWS OF THIS SEAT. 1 by the template 'for every input the law returns true; each argument reads behind the call as it read before'; 0 by the template 'total and deterministic' (their statements: YtagmnociflkhcaaGreatDoorTotals.lean).
  GIVEN WITH THE SEED: the statements are not yours to turn. If you find one false, say at which input.
  Laid BY PROGRAM, IN A SANDBOX (cutbox-rows.mjs): the forced cells as the released guide's own fill.sh prints them over the translation e6acc2608a5c4453… (all of the seat's roots in one cut). By AI agents, Wed Nov 11 2026. No macro, syntax, notation, axiom, sorry.
-/
import Derived.Test.YtagmnociflkhcaaGreatDoorChecked
import GoSem.Claim
import GoSem.ClaimJoined
import GoSem.ClaimMapViews
import Derived.JoinedTies
import Derived.KernelRfl
namespace Go.Proofs.YtagmnociflkhcaaGreatDoor
/- THE CELL 'sum', in the pinned program and in every row, IS THE sha256 OF THE DUMP (.gsa) THAT YtagmnociflkhcaaGreatDoorProg.lean LOADS. Nothing in Lean hashes anything: it is a label: what it is worth is what the hold of that sum in a sandbox is worth. -/
noncomputable def Tryz.pinned : Pinned := { name := "ytagmnociflkhcaagreatdoor", sum := "e6acc2608a5c4453a409effade3ed305be2b631fff6cf0e98413f760f191e43d", checked := Tryz.checked }
namespace Rows
def none {H : Type} : Left H := { results := [], args := [] }

/- WHAT THE LISTED PACKAGE-LEVEL VARIABLES READ AS WHEN THE CALL BEGINS. Each datum BY PROGRAM (the guide's laid-datum.mjs) off the statement by which the dump's own 'gosem.cut.vars' lays the variable. In a bare row this is a premise. The card (YtagmnociflkhcaaGreatDoorCards.lean) ties it to the program's text. -/
def laid_loop_example_g00110_impl_errNoBooks {H : Type} : DataW H := .iface "*errors.errorString" (.ptr (.agg [.lit (.string [116, 104, 101, 32, 98, 121, 116, 101, 115, 32, 97, 114, 101, 32, 111, 102, 32, 110, 111, 32, 98, 111, 111, 107, 115])]))

/-- 'laws.FnExactSaveLoad': WHATEVER THE INPUT: true; the input reads as it did. -/
def fnExactSaveLoadSpec : ChangeSpec := { name := "fnExactSaveLoad", vars := ["loop.example/g00110/impl.errNoBooks"], fn := fun _ => fun
  | [d, g1] => { results := [.lit (.bool true)], args := [d], vars := [g1] }
  | _ => none }
def fnExactSaveLoadRow : OpenClaim := { program := "ytagmnociflkhcaagreatdoor", sum := "e6acc2608a5c4453a409effade3ed305be2b631fff6cf0e98413f760f191e43d", func := "loop.example/g00110/laws.FnExactSaveLoad", spec := "fnExactSaveLoad", unfollowed := true, recurses := true, named := ["loop.example/g00110/impl.errNoBooks"], ifaces := true, plainKeys := false, apart := false, laid := [("loop.example/g00110/impl.errNoBooks", laid_loop_example_g00110_impl_errNoBooks)] }
def FnExactSaveLoadSaid : Prop := fnExactSaveLoadRow.holds Tryz.pinned (OpenSpec.ofChange fnExactSaveLoadSpec)

/-- ITS FALSE NEIGHBOUR: 'it returns false'. Refute it at one input. -/
def fnExactSaveLoadWrong : ChangeSpec := { name := "fnExactSaveLoad", vars := ["loop.example/g00110/impl.errNoBooks"], fn := fun _ => fun
  | [d, g1] => { results := [.lit (.bool false)], args := [d], vars := [g1] }
  | _ => none }
def FnExactSaveLoadWrongFalsely : Prop := fnExactSaveLoadRow.holds Tryz.pinned (OpenSpec.ofChange fnExactSaveLoadWrong)

/- THE SECOND FORM. 'bulk': how many values and letters a reading holds, each counted each time it is reached (what is shared counts as often as it is met; a slice's spare places count too). A statement '..UptoSaid' is the law's where the arguments, and the package variables that the reading takes, are together of bulk at most 1048576: NARROWER than '..Said'. Prove '..Said' where nothing that the law and all that it calls make is longer than what came in: it says more and counts as full. Else prove '..UptoSaid'. A law counts once. -/
mutual
def uptoBulk {H : Type} : DataW H → Nat
  | .lit (.string bytes) => bytes.length + 1
  | .lit _ => 1
  | .nil => 1
  | .ptr d => uptoBulk d + 1
  | .slice elems spare => uptoBulkAll elems + uptoBulkAll spare + 1
  | .agg parts => uptoBulkAll parts + 1
  | .iface _ d => uptoBulk d + 1
  | .map entries => uptoBulkEntries entries + 1
  | .held _ => 1
def uptoBulkAll {H : Type} : List (DataW H) → Nat
  | [] => 0
  | d :: r => uptoBulk d + uptoBulkAll r
def uptoBulkEntries {H : Type} : List (Lit × DataW H) → Nat
  | [] => 0
  | x :: r => uptoBulkEntry x + uptoBulkEntries r
def uptoBulkEntry {H : Type} : Lit × DataW H → Nat
  | (.string bytes, d) => bytes.length + uptoBulk d + 1
  | (_, d) => uptoBulk d + 1
 end
def uptoSmall : (H : Type) → List (DataW H) → Bool := fun _ ds => decide (uptoBulkAll ds ≤ 1048576)
def OpenSpec.upto (s : _root_.Go.ChangeSpec) : _root_.Go.OpenSpec := { _root_.Go.OpenSpec.ofChange s with cond := some uptoSmall }

/-- 'laws.FnExactSaveLoad', WHERE WHAT IT READS IS OF BULK AT MOST 1048576: true; the input reads as it did. -/
def fnExactSaveLoadUptoRow : OpenClaim := { program := "ytagmnociflkhcaagreatdoor", sum := "e6acc2608a5c4453a409effade3ed305be2b631fff6cf0e98413f760f191e43d", func := "loop.example/g00110/laws.FnExactSaveLoad", spec := "fnExactSaveLoad", unfollowed := true, recurses := true, named := ["loop.example/g00110/impl.errNoBooks"], ifaces := true, plainKeys := false, apart := false, laid := [("loop.example/g00110/impl.errNoBooks", laid_loop_example_g00110_impl_errNoBooks)], narrowed := true }
def FnExactSaveLoadUptoSaid : Prop := fnExactSaveLoadUptoRow.holds Tryz.pinned (OpenSpec.upto fnExactSaveLoadSpec)

end Rows
end Go.Proofs.YtagmnociflkhcaaGreatDoor
