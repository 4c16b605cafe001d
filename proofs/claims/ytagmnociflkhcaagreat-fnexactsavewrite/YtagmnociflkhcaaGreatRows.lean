/-
  No cell of these rows narrows 'for every input' (looked for: loops, veiled, ifaces, maps, wideKeys, modest, calm, conditions, laid).
  DERIVED. THE GIVEN ROWS OF THIS SEAT. 3 by the template 'for every input the law returns true; each argument reads behind the call as it read before'; 0 by the template 'total and deterministic' (their statements: YtagmnociflkhcaaGreatTotals.lean).
  GIVEN WITH THE SEED: the statements are not yours to turn. If you find one false, say at which input.
  Laid BY PROGRAM, IN A SANDBOX (cutbox-rows.mjs): the forced cells as the released guide's own fill.sh prints them over the translation 23cb2dea989ad13a… (all of the seat's roots in one cut). By AI agents, Wed Nov 11 2026. No macro, syntax, notation, axiom, sorry.
-/
import Derived.Test.YtagmnociflkhcaaGreatChecked
import GoSem.Claim
import GoSem.ClaimJoined
import GoSem.ClaimMapViews
import Derived.JoinedTies
import Derived.KernelRfl
namespace Go.Proofs.YtagmnociflkhcaaGreat
/- THE CELL 'sum', in the pinned program and in every row, IS THE sha256 OF THE DUMP (.gsa) THAT YtagmnociflkhcaaGreatProg.lean LOADS. Nothing in Lean hashes anything: it is a label: what it is worth is what the hold of that sum in a sandbox is worth. -/
noncomputable def Tryz.pinned : Pinned := { name := "ytagmnociflkhcaagreat", sum := "23cb2dea989ad13a5666e2ff4eb73c5ad28729e5d31341e798b89a9aeb81b5bd", checked := Tryz.checked }
namespace Rows
def none {H : Type} : Left H := { results := [], args := [] }

/-- 'laws.FnExactSavePack': WHATEVER THE INPUT: true; the input reads as it did. -/
def fnExactSavePackSpec : ChangeSpec := { name := "fnExactSavePack", fn := fun _ => fun
  | [d] => { results := [.lit (.bool true)], args := [d] }
  | _ => none }
def fnExactSavePackRow : OpenClaim := { program := "ytagmnociflkhcaagreat", sum := "23cb2dea989ad13a5666e2ff4eb73c5ad28729e5d31341e798b89a9aeb81b5bd", func := "loop.example/g00110/laws.FnExactSavePack", spec := "fnExactSavePack", unfollowed := true, recurses := true, plainKeys := false, apart := false }
def FnExactSavePackSaid : Prop := fnExactSavePackRow.holds Tryz.pinned (OpenSpec.ofChange fnExactSavePackSpec)

/-- ITS FALSE NEIGHBOUR: 'it returns false'. Refute it at one input. -/
def fnExactSavePackWrong : ChangeSpec := { name := "fnExactSavePack", fn := fun _ => fun
  | [d] => { results := [.lit (.bool false)], args := [d] }
  | _ => none }
def FnExactSavePackWrongFalsely : Prop := fnExactSavePackRow.holds Tryz.pinned (OpenSpec.ofChange fnExactSavePackWrong)

/-- 'laws.FnExactSaveStep': WHATEVER THE INPUT: true; the input reads as it did. -/
def fnExactSaveStepSpec : ChangeSpec := { name := "fnExactSaveStep", fn := fun _ => fun
  | [d1, d2, d3] => { results := [.lit (.bool true)], args := [d1, d2, d3] }
  | _ => none }
def fnExactSaveStepRow : OpenClaim := { program := "ytagmnociflkhcaagreat", sum := "23cb2dea989ad13a5666e2ff4eb73c5ad28729e5d31341e798b89a9aeb81b5bd", func := "loop.example/g00110/laws.FnExactSaveStep", spec := "fnExactSaveStep", unfollowed := true, recurses := true, plainKeys := false, apart := false }
def FnExactSaveStepSaid : Prop := fnExactSaveStepRow.holds Tryz.pinned (OpenSpec.ofChange fnExactSaveStepSpec)

/-- ITS FALSE NEIGHBOUR: 'it returns false'. Refute it at one input. -/
def fnExactSaveStepWrong : ChangeSpec := { name := "fnExactSaveStep", fn := fun _ => fun
  | [d1, d2, d3] => { results := [.lit (.bool false)], args := [d1, d2, d3] }
  | _ => none }
def FnExactSaveStepWrongFalsely : Prop := fnExactSaveStepRow.holds Tryz.pinned (OpenSpec.ofChange fnExactSaveStepWrong)

/-- 'laws.FnExactSaveWrite': WHATEVER THE INPUT: true; the input reads as it did. -/
def fnExactSaveWriteSpec : ChangeSpec := { name := "fnExactSaveWrite", fn := fun _ => fun
  | [d1, d2] => { results := [.lit (.bool true)], args := [d1, d2] }
  | _ => none }
def fnExactSaveWriteRow : OpenClaim := { program := "ytagmnociflkhcaagreat", sum := "23cb2dea989ad13a5666e2ff4eb73c5ad28729e5d31341e798b89a9aeb81b5bd", func := "loop.example/g00110/laws.FnExactSaveWrite", spec := "fnExactSaveWrite", unfollowed := true, recurses := true, plainKeys := false, apart := false }
def FnExactSaveWriteSaid : Prop := fnExactSaveWriteRow.holds Tryz.pinned (OpenSpec.ofChange fnExactSaveWriteSpec)

/-- ITS FALSE NEIGHBOUR: 'it returns false'. Refute it at one input. -/
def fnExactSaveWriteWrong : ChangeSpec := { name := "fnExactSaveWrite", fn := fun _ => fun
  | [d1, d2] => { results := [.lit (.bool false)], args := [d1, d2] }
  | _ => none }
def FnExactSaveWriteWrongFalsely : Prop := fnExactSaveWriteRow.holds Tryz.pinned (OpenSpec.ofChange fnExactSaveWriteWrong)

/- THE SECOND FORM. 'bulk': how many values and letters a reading holds, each counted each time it is reached (what is shared counts as often as it is met; a slice's spare places count too). A statement '..UptoSaid' is the law's where the arguments, and the package variables that the reading takes, are together of bulk at most 1048576: NARROWER than '..Said'. Prove '..Said' where nothing that the law and all that it calls make is longer than what came in: it says more and counts as full. Else prove '..UptoSaid'. A law counts once. -/
mutual
def uptoBulk {H : Type} : DataW H → Nat
  | .lit (.string bytes) => bytes.length + 1
  | .lit _ => 1
  | .nil => 1
  | .ptr d => uptoBulk d + 1
  | .slice elems spare => uptoBulkAll elems + uptoBulkAll spare + 1
  | .agg parts => uptoBulkAll parts + 1
  | .iface _ d => uptoBulk d + 1
  | .map entries => uptoBulkEntries entries + 1
  | .held _ => 1
def uptoBulkAll {H : Type} : List (DataW H) → Nat
  | [] => 0
  | d :: r => uptoBulk d + uptoBulkAll r
def uptoBulkEntries {H : Type} : List (Lit × DataW H) → Nat
  | [] => 0
  | x :: r => uptoBulkEntry x + uptoBulkEntries r
def uptoBulkEntry {H : Type} : Lit × DataW H → Nat
  | (.string bytes, d) => bytes.length + uptoBulk d + 1
  | (_, d) => uptoBulk d + 1
 end
def uptoSmall : (H : Type) → List (DataW H) → Bool := fun _ ds => decide (uptoBulkAll ds ≤ 1048576)
def OpenSpec.upto (s : _root_.Go.ChangeSpec) : _root_.Go.OpenSpec := { _root_.Go.OpenSpec.ofChange s with cond := some uptoSmall }

/-- 'laws.FnExactSavePack', WHERE WHAT IT READS IS OF BULK AT MOST 1048576: true; the input reads as it did. -/
def fnExactSavePackUptoRow : OpenClaim := { program := "ytagmnociflkhcaagreat", sum := "23cb2dea989ad13a5666e2ff4eb73c5ad28729e5d31341e798b89a9aeb81b5bd", func := "loop.example/g00110/laws.FnExactSavePack", spec := "fnExactSavePack", unfollowed := true, recurses := true, plainKeys := false, apart := false, narrowed := true }
def FnExactSavePackUptoSaid : Prop := fnExactSavePackUptoRow.holds Tryz.pinned (OpenSpec.upto fnExactSavePackSpec)

/-- 'laws.FnExactSaveStep', WHERE WHAT IT READS IS OF BULK AT MOST 1048576: true; the input reads as it did. -/
def fnExactSaveStepUptoRow : OpenClaim := { program := "ytagmnociflkhcaagreat", sum := "23cb2dea989ad13a5666e2ff4eb73c5ad28729e5d31341e798b89a9aeb81b5bd", func := "loop.example/g00110/laws.FnExactSaveStep", spec := "fnExactSaveStep", unfollowed := true, recurses := true, plainKeys := false, apart := false, narrowed := true }
def FnExactSaveStepUptoSaid : Prop := fnExactSaveStepUptoRow.holds Tryz.pinned (OpenSpec.upto fnExactSaveStepSpec)

/-- 'laws.FnExactSaveWrite', WHERE WHAT IT READS IS OF BULK AT MOST 1048576: true; the input reads as it did. -/
def fnExactSaveWriteUptoRow : OpenClaim := { program := "ytagmnociflkhcaagreat", sum := "23cb2dea989ad13a5666e2ff4eb73c5ad28729e5d31341e798b89a9aeb81b5bd", func := "loop.example/g00110/laws.FnExactSaveWrite", spec := "fnExactSaveWrite", unfollowed := true, recurses := true, plainKeys := false, apart := false, narrowed := true }
def FnExactSaveWriteUptoSaid : Prop := fnExactSaveWriteUptoRow.holds Tryz.pinned (OpenSpec.upto fnExactSaveWriteSpec)

end Rows
end Go.Proofs.YtagmnociflkhcaaGreat
