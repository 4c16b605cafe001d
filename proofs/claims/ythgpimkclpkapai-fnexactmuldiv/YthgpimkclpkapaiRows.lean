/-
  No cell of these rows narrows 'for every input' (looked for: loops, veiled, ifaces, maps, wideKeys, modest, calm, conditions, laid).
  DERIVED. THE GIVEN ROWS OF THIS SEAT. 5 by the template 'for every input the law returns true; each argument reads behind the call as it read before'; 0 by the template 'total and deterministic' (their statements: YthgpimkclpkapaiTotals.lean).
  GIVEN WITH THE SEED: the statements are not yours to turn. If you find one false, say at which input.
  Laid BY PROGRAM, IN A SANDBOX (cutbox-rows.mjs): the forced cells as the released guide's own fill.sh prints them over the translation ffa26b80b5ebba93… (all of the seat's roots in one cut). By AI agents, Wed Nov 11 2026. No macro, syntax, notation, axiom, sorry.
-/
import Derived.Test.YthgpimkclpkapaiChecked
import GoSem.Claim
import GoSem.ClaimJoined
import GoSem.ClaimMapViews
import Derived.JoinedTies
import Derived.KernelRfl
namespace Go.Proofs.Ythgpimkclpkapai
/- THE CELL 'sum', in the pinned program and in every row, IS THE sha256 OF THE DUMP (.gsa) THAT YthgpimkclpkapaiProg.lean LOADS. Nothing in Lean hashes anything: it is a label: what it is worth is what the hold of that sum in a sandbox is worth. -/
noncomputable def Try.pinned : Pinned := { name := "ythgpimkclpkapai", sum := "ffa26b80b5ebba93f0dc7ab3c2ba5e9d46f5c8a7848fa9781ac9586bf6b2c665", checked := Try.checked }
namespace Rows
def none {H : Type} : Left H := { results := [], args := [] }

/-- 'laws.FnExactAddIn': WHATEVER THE INPUT: true; the input reads as it did. -/
def fnExactAddInSpec : ChangeSpec := { name := "fnExactAddIn", fn := fun _ => fun
  | [d1, d2] => { results := [.lit (.bool true)], args := [d1, d2] }
  | _ => none }
def fnExactAddInRow : OpenClaim := { program := "ythgpimkclpkapai", sum := "ffa26b80b5ebba93f0dc7ab3c2ba5e9d46f5c8a7848fa9781ac9586bf6b2c665", func := "loop.example/g00110/laws.FnExactAddIn", spec := "fnExactAddIn", apart := false }
def FnExactAddInSaid : Prop := fnExactAddInRow.holds Try.pinned (OpenSpec.ofChange fnExactAddInSpec)

/-- ITS FALSE NEIGHBOUR: 'it returns false'. Refute it at one input. -/
def fnExactAddInWrong : ChangeSpec := { name := "fnExactAddIn", fn := fun _ => fun
  | [d1, d2] => { results := [.lit (.bool false)], args := [d1, d2] }
  | _ => none }
def FnExactAddInWrongFalsely : Prop := fnExactAddInRow.holds Try.pinned (OpenSpec.ofChange fnExactAddInWrong)

/-- 'laws.FnExactSubIn': WHATEVER THE INPUT: true; the input reads as it did. -/
def fnExactSubInSpec : ChangeSpec := { name := "fnExactSubIn", fn := fun _ => fun
  | [d1, d2] => { results := [.lit (.bool true)], args := [d1, d2] }
  | _ => none }
def fnExactSubInRow : OpenClaim := { program := "ythgpimkclpkapai", sum := "ffa26b80b5ebba93f0dc7ab3c2ba5e9d46f5c8a7848fa9781ac9586bf6b2c665", func := "loop.example/g00110/laws.FnExactSubIn", spec := "fnExactSubIn", apart := false }
def FnExactSubInSaid : Prop := fnExactSubInRow.holds Try.pinned (OpenSpec.ofChange fnExactSubInSpec)

/-- ITS FALSE NEIGHBOUR: 'it returns false'. Refute it at one input. -/
def fnExactSubInWrong : ChangeSpec := { name := "fnExactSubIn", fn := fun _ => fun
  | [d1, d2] => { results := [.lit (.bool false)], args := [d1, d2] }
  | _ => none }
def FnExactSubInWrongFalsely : Prop := fnExactSubInRow.holds Try.pinned (OpenSpec.ofChange fnExactSubInWrong)

/-- 'laws.FnExactMulIn': WHATEVER THE INPUT: true; the input reads as it did. -/
def fnExactMulInSpec : ChangeSpec := { name := "fnExactMulIn", fn := fun _ => fun
  | [d1, d2] => { results := [.lit (.bool true)], args := [d1, d2] }
  | _ => none }
def fnExactMulInRow : OpenClaim := { program := "ythgpimkclpkapai", sum := "ffa26b80b5ebba93f0dc7ab3c2ba5e9d46f5c8a7848fa9781ac9586bf6b2c665", func := "loop.example/g00110/laws.FnExactMulIn", spec := "fnExactMulIn", apart := false }
def FnExactMulInSaid : Prop := fnExactMulInRow.holds Try.pinned (OpenSpec.ofChange fnExactMulInSpec)

/-- ITS FALSE NEIGHBOUR: 'it returns false'. Refute it at one input. -/
def fnExactMulInWrong : ChangeSpec := { name := "fnExactMulIn", fn := fun _ => fun
  | [d1, d2] => { results := [.lit (.bool false)], args := [d1, d2] }
  | _ => none }
def FnExactMulInWrongFalsely : Prop := fnExactMulInRow.holds Try.pinned (OpenSpec.ofChange fnExactMulInWrong)

/-- 'laws.FnExactDivFloor': WHATEVER THE INPUT: true; the input reads as it did. -/
def fnExactDivFloorSpec : ChangeSpec := { name := "fnExactDivFloor", fn := fun _ => fun
  | [d1, d2] => { results := [.lit (.bool true)], args := [d1, d2] }
  | _ => none }
def fnExactDivFloorRow : OpenClaim := { program := "ythgpimkclpkapai", sum := "ffa26b80b5ebba93f0dc7ab3c2ba5e9d46f5c8a7848fa9781ac9586bf6b2c665", func := "loop.example/g00110/laws.FnExactDivFloor", spec := "fnExactDivFloor", apart := false }
def FnExactDivFloorSaid : Prop := fnExactDivFloorRow.holds Try.pinned (OpenSpec.ofChange fnExactDivFloorSpec)

/-- ITS FALSE NEIGHBOUR: 'it returns false'. Refute it at one input. -/
def fnExactDivFloorWrong : ChangeSpec := { name := "fnExactDivFloor", fn := fun _ => fun
  | [d1, d2] => { results := [.lit (.bool false)], args := [d1, d2] }
  | _ => none }
def FnExactDivFloorWrongFalsely : Prop := fnExactDivFloorRow.holds Try.pinned (OpenSpec.ofChange fnExactDivFloorWrong)

/-- 'laws.FnExactMulDiv': WHATEVER THE INPUT: true; the input reads as it did. -/
def fnExactMulDivSpec : ChangeSpec := { name := "fnExactMulDiv", fn := fun _ => fun
  | [d1, d2, d3] => { results := [.lit (.bool true)], args := [d1, d2, d3] }
  | _ => none }
def fnExactMulDivRow : OpenClaim := { program := "ythgpimkclpkapai", sum := "ffa26b80b5ebba93f0dc7ab3c2ba5e9d46f5c8a7848fa9781ac9586bf6b2c665", func := "loop.example/g00110/laws.FnExactMulDiv", spec := "fnExactMulDiv", apart := false }
def FnExactMulDivSaid : Prop := fnExactMulDivRow.holds Try.pinned (OpenSpec.ofChange fnExactMulDivSpec)

/-- ITS FALSE NEIGHBOUR: 'it returns false'. Refute it at one input. -/
def fnExactMulDivWrong : ChangeSpec := { name := "fnExactMulDiv", fn := fun _ => fun
  | [d1, d2, d3] => { results := [.lit (.bool false)], args := [d1, d2, d3] }
  | _ => none }
def FnExactMulDivWrongFalsely : Prop := fnExactMulDivRow.holds Try.pinned (OpenSpec.ofChange fnExactMulDivWrong)

/- THE SECOND FORM. 'bulk': how many values and letters a reading holds, each counted each time it is reached (what is shared counts as often as it is met; a slice's spare places count too). A statement '..UptoSaid' is the law's where the arguments, and the package variables that the reading takes, are together of bulk at most 1048576: NARROWER than '..Said'. Prove '..Said' where nothing that the law and all that it calls make is longer than what came in: it says more and counts as full. Else prove '..UptoSaid'. A law counts once. -/
mutual
def uptoBulk {H : Type} : DataW H → Nat
  | .lit (.string bytes) => bytes.length + 1
  | .lit _ => 1
  | .nil => 1
  | .ptr d => uptoBulk d + 1
  | .slice elems spare => uptoBulkAll elems + uptoBulkAll spare + 1
  | .agg parts => uptoBulkAll parts + 1
  | .iface _ d => uptoBulk d + 1
  | .map entries => uptoBulkEntries entries + 1
  | .held _ => 1
def uptoBulkAll {H : Type} : List (DataW H) → Nat
  | [] => 0
  | d :: r => uptoBulk d + uptoBulkAll r
def uptoBulkEntries {H : Type} : List (Lit × DataW H) → Nat
  | [] => 0
  | x :: r => uptoBulkEntry x + uptoBulkEntries r
def uptoBulkEntry {H : Type} : Lit × DataW H → Nat
  | (.string bytes, d) => bytes.length + uptoBulk d + 1
  | (_, d) => uptoBulk d + 1
 end
def uptoSmall : (H : Type) → List (DataW H) → Bool := fun _ ds => decide (uptoBulkAll ds ≤ 1048576)
def OpenSpec.upto (s : _root_.Go.ChangeSpec) : _root_.Go.OpenSpec := { _root_.Go.OpenSpec.ofChange s with cond := some uptoSmall }

/-- 'laws.FnExactAddIn', WHERE WHAT IT READS IS OF BULK AT MOST 1048576: true; the input reads as it did. -/
def fnExactAddInUptoRow : OpenClaim := { program := "ythgpimkclpkapai", sum := "ffa26b80b5ebba93f0dc7ab3c2ba5e9d46f5c8a7848fa9781ac9586bf6b2c665", func := "loop.example/g00110/laws.FnExactAddIn", spec := "fnExactAddIn", apart := false, narrowed := true }
def FnExactAddInUptoSaid : Prop := fnExactAddInUptoRow.holds Try.pinned (OpenSpec.upto fnExactAddInSpec)

/-- 'laws.FnExactSubIn', WHERE WHAT IT READS IS OF BULK AT MOST 1048576: true; the input reads as it did. -/
def fnExactSubInUptoRow : OpenClaim := { program := "ythgpimkclpkapai", sum := "ffa26b80b5ebba93f0dc7ab3c2ba5e9d46f5c8a7848fa9781ac9586bf6b2c665", func := "loop.example/g00110/laws.FnExactSubIn", spec := "fnExactSubIn", apart := false, narrowed := true }
def FnExactSubInUptoSaid : Prop := fnExactSubInUptoRow.holds Try.pinned (OpenSpec.upto fnExactSubInSpec)

/-- 'laws.FnExactMulIn', WHERE WHAT IT READS IS OF BULK AT MOST 1048576: true; the input reads as it did. -/
def fnExactMulInUptoRow : OpenClaim := { program := "ythgpimkclpkapai", sum := "ffa26b80b5ebba93f0dc7ab3c2ba5e9d46f5c8a7848fa9781ac9586bf6b2c665", func := "loop.example/g00110/laws.FnExactMulIn", spec := "fnExactMulIn", apart := false, narrowed := true }
def FnExactMulInUptoSaid : Prop := fnExactMulInUptoRow.holds Try.pinned (OpenSpec.upto fnExactMulInSpec)

/-- 'laws.FnExactDivFloor', WHERE WHAT IT READS IS OF BULK AT MOST 1048576: true; the input reads as it did. -/
def fnExactDivFloorUptoRow : OpenClaim := { program := "ythgpimkclpkapai", sum := "ffa26b80b5ebba93f0dc7ab3c2ba5e9d46f5c8a7848fa9781ac9586bf6b2c665", func := "loop.example/g00110/laws.FnExactDivFloor", spec := "fnExactDivFloor", apart := false, narrowed := true }
def FnExactDivFloorUptoSaid : Prop := fnExactDivFloorUptoRow.holds Try.pinned (OpenSpec.upto fnExactDivFloorSpec)

/-- 'laws.FnExactMulDiv', WHERE WHAT IT READS IS OF BULK AT MOST 1048576: true; the input reads as it did. -/
def fnExactMulDivUptoRow : OpenClaim := { program := "ythgpimkclpkapai", sum := "ffa26b80b5ebba93f0dc7ab3c2ba5e9d46f5c8a7848fa9781ac9586bf6b2c665", func := "loop.example/g00110/laws.FnExactMulDiv", spec := "fnExactMulDiv", apart := false, narrowed := true }
def FnExactMulDivUptoSaid : Prop := fnExactMulDivUptoRow.holds Try.pinned (OpenSpec.upto fnExactMulDivSpec)

end Rows
end Go.Proofs.Ythgpimkclpkapai
