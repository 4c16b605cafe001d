/-
  No cell of these rows narrows 'for every input' (looked for: loops, veiled, ifaces, maps, wideKeys, modest, calm, conditions, laid).
  DERIVED. THE GIVEN ROWS OF THIS SEAT. 6 by the template 'for every input the law returns true; each argument reads behind the call as it read before'; 0 by the template 'total and deterministic' (their statements: YtiecflifopmmoaaTotals.lean).
  GIVEN WITH THE SEED: the statements are not yours to turn. If you find one false, say at which input.
  Laid BY PROGRAM, IN A SANDBOX (cutbox-rows.mjs): the forced cells as the released guide's own fill.sh prints them over the translation 64cb81905a17dc98… (all of the seat's roots in one cut). By AI agents, Wed Nov 11 2026. No macro, syntax, notation, axiom, sorry.
-/
import Derived.Test.YtiecflifopmmoaaChecked
import GoSem.Claim
import GoSem.ClaimJoined
import GoSem.ClaimMapViews
import Derived.JoinedTies
import Derived.KernelRfl
namespace Go.Proofs.Ytiecflifopmmoaa
/- THE CELL 'sum', in the pinned program and in every row, IS THE sha256 OF THE DUMP (.gsa) THAT YtiecflifopmmoaaProg.lean LOADS. Nothing in Lean hashes anything: it is a label: what it is worth is what the hold of that sum in a sandbox is worth. -/
noncomputable def Try.pinned : Pinned := { name := "ytiecflifopmmoaa", sum := "64cb81905a17dc986a301bbd4becb60caafc48c1945e98dbdd375ba73a2588b8", checked := Try.checked }
namespace Rows
def none {H : Type} : Left H := { results := [], args := [] }

/-- 'laws.FnExactBalsOk': WHATEVER THE INPUT: true; the input reads as it did. -/
def fnExactBalsOkSpec : ChangeSpec := { name := "fnExactBalsOk", fn := fun _ => fun
  | [d] => { results := [.lit (.bool true)], args := [d] }
  | _ => none }
def fnExactBalsOkRow : OpenClaim := { program := "ytiecflifopmmoaa", sum := "64cb81905a17dc986a301bbd4becb60caafc48c1945e98dbdd375ba73a2588b8", func := "loop.example/g00110/laws.FnExactBalsOk", spec := "fnExactBalsOk", plainKeys := false, apart := false }
def FnExactBalsOkSaid : Prop := fnExactBalsOkRow.holds Try.pinned (OpenSpec.ofChange fnExactBalsOkSpec)

/-- ITS FALSE NEIGHBOUR: 'it returns false'. Refute it at one input. -/
def fnExactBalsOkWrong : ChangeSpec := { name := "fnExactBalsOk", fn := fun _ => fun
  | [d] => { results := [.lit (.bool false)], args := [d] }
  | _ => none }
def FnExactBalsOkWrongFalsely : Prop := fnExactBalsOkRow.holds Try.pinned (OpenSpec.ofChange fnExactBalsOkWrong)

/-- 'laws.FnExactBalOf': WHATEVER THE INPUT: true; the input reads as it did. -/
def fnExactBalOfSpec : ChangeSpec := { name := "fnExactBalOf", fn := fun _ => fun
  | [d1, d2, d3] => { results := [.lit (.bool true)], args := [d1, d2, d3] }
  | _ => none }
def fnExactBalOfRow : OpenClaim := { program := "ytiecflifopmmoaa", sum := "64cb81905a17dc986a301bbd4becb60caafc48c1945e98dbdd375ba73a2588b8", func := "loop.example/g00110/laws.FnExactBalOf", spec := "fnExactBalOf", plainKeys := false, apart := false }
def FnExactBalOfSaid : Prop := fnExactBalOfRow.holds Try.pinned (OpenSpec.ofChange fnExactBalOfSpec)

/-- ITS FALSE NEIGHBOUR: 'it returns false'. Refute it at one input. -/
def fnExactBalOfWrong : ChangeSpec := { name := "fnExactBalOf", fn := fun _ => fun
  | [d1, d2, d3] => { results := [.lit (.bool false)], args := [d1, d2, d3] }
  | _ => none }
def FnExactBalOfWrongFalsely : Prop := fnExactBalOfRow.holds Try.pinned (OpenSpec.ofChange fnExactBalOfWrong)

/-- 'laws.FnExactBalPut': WHATEVER THE INPUT: true; the input reads as it did. -/
def fnExactBalPutSpec : ChangeSpec := { name := "fnExactBalPut", fn := fun _ => fun
  | [d1, d2, d3, d4] => { results := [.lit (.bool true)], args := [d1, d2, d3, d4] }
  | _ => none }
def fnExactBalPutRow : OpenClaim := { program := "ytiecflifopmmoaa", sum := "64cb81905a17dc986a301bbd4becb60caafc48c1945e98dbdd375ba73a2588b8", func := "loop.example/g00110/laws.FnExactBalPut", spec := "fnExactBalPut", unfollowed := true, recurses := true, plainKeys := false, apart := false }
def FnExactBalPutSaid : Prop := fnExactBalPutRow.holds Try.pinned (OpenSpec.ofChange fnExactBalPutSpec)

/-- ITS FALSE NEIGHBOUR: 'it returns false'. Refute it at one input. -/
def fnExactBalPutWrong : ChangeSpec := { name := "fnExactBalPut", fn := fun _ => fun
  | [d1, d2, d3, d4] => { results := [.lit (.bool false)], args := [d1, d2, d3, d4] }
  | _ => none }
def FnExactBalPutWrongFalsely : Prop := fnExactBalPutRow.holds Try.pinned (OpenSpec.ofChange fnExactBalPutWrong)

/-- 'laws.FnExactBalsSum': WHATEVER THE INPUT: true; the input reads as it did. -/
def fnExactBalsSumSpec : ChangeSpec := { name := "fnExactBalsSum", fn := fun _ => fun
  | [d1, d2] => { results := [.lit (.bool true)], args := [d1, d2] }
  | _ => none }
def fnExactBalsSumRow : OpenClaim := { program := "ytiecflifopmmoaa", sum := "64cb81905a17dc986a301bbd4becb60caafc48c1945e98dbdd375ba73a2588b8", func := "loop.example/g00110/laws.FnExactBalsSum", spec := "fnExactBalsSum", plainKeys := false, apart := false }
def FnExactBalsSumSaid : Prop := fnExactBalsSumRow.holds Try.pinned (OpenSpec.ofChange fnExactBalsSumSpec)

/-- ITS FALSE NEIGHBOUR: 'it returns false'. Refute it at one input. -/
def fnExactBalsSumWrong : ChangeSpec := { name := "fnExactBalsSum", fn := fun _ => fun
  | [d1, d2] => { results := [.lit (.bool false)], args := [d1, d2] }
  | _ => none }
def FnExactBalsSumWrongFalsely : Prop := fnExactBalsSumRow.holds Try.pinned (OpenSpec.ofChange fnExactBalsSumWrong)

/-- 'laws.FnExactLegsOk': WHATEVER THE INPUT: true; the input reads as it did. -/
def fnExactLegsOkSpec : ChangeSpec := { name := "fnExactLegsOk", fn := fun _ => fun
  | [d] => { results := [.lit (.bool true)], args := [d] }
  | _ => none }
def fnExactLegsOkRow : OpenClaim := { program := "ytiecflifopmmoaa", sum := "64cb81905a17dc986a301bbd4becb60caafc48c1945e98dbdd375ba73a2588b8", func := "loop.example/g00110/laws.FnExactLegsOk", spec := "fnExactLegsOk", plainKeys := false, apart := false }
def FnExactLegsOkSaid : Prop := fnExactLegsOkRow.holds Try.pinned (OpenSpec.ofChange fnExactLegsOkSpec)

/-- ITS FALSE NEIGHBOUR: 'it returns false'. Refute it at one input. -/
def fnExactLegsOkWrong : ChangeSpec := { name := "fnExactLegsOk", fn := fun _ => fun
  | [d] => { results := [.lit (.bool false)], args := [d] }
  | _ => none }
def FnExactLegsOkWrongFalsely : Prop := fnExactLegsOkRow.holds Try.pinned (OpenSpec.ofChange fnExactLegsOkWrong)

/-- 'laws.FnExactBalsPost': WHATEVER THE INPUT: true; the input reads as it did. -/
def fnExactBalsPostSpec : ChangeSpec := { name := "fnExactBalsPost", fn := fun _ => fun
  | [d1, d2, d3] => { results := [.lit (.bool true)], args := [d1, d2, d3] }
  | _ => none }
def fnExactBalsPostRow : OpenClaim := { program := "ytiecflifopmmoaa", sum := "64cb81905a17dc986a301bbd4becb60caafc48c1945e98dbdd375ba73a2588b8", func := "loop.example/g00110/laws.FnExactBalsPost", spec := "fnExactBalsPost", unfollowed := true, recurses := true, plainKeys := false, apart := false }
def FnExactBalsPostSaid : Prop := fnExactBalsPostRow.holds Try.pinned (OpenSpec.ofChange fnExactBalsPostSpec)

/-- ITS FALSE NEIGHBOUR: 'it returns false'. Refute it at one input. -/
def fnExactBalsPostWrong : ChangeSpec := { name := "fnExactBalsPost", fn := fun _ => fun
  | [d1, d2, d3] => { results := [.lit (.bool false)], args := [d1, d2, d3] }
  | _ => none }
def FnExactBalsPostWrongFalsely : Prop := fnExactBalsPostRow.holds Try.pinned (OpenSpec.ofChange fnExactBalsPostWrong)

/- THE SECOND FORM. 'bulk': how many values and letters a reading holds, each counted each time it is reached (what is shared counts as often as it is met; a slice's spare places count too). A statement '..UptoSaid' is the law's where the arguments, and the package variables that the reading takes, are together of bulk at most 1048576: NARROWER than '..Said'. Prove '..Said' where nothing that the law and all that it calls make is longer than what came in: it says more and counts as full. Else prove '..UptoSaid'. A law counts once. -/
mutual
def uptoBulk {H : Type} : DataW H → Nat
  | .lit (.string bytes) => bytes.length + 1
  | .lit _ => 1
  | .nil => 1
  | .ptr d => uptoBulk d + 1
  | .slice elems spare => uptoBulkAll elems + uptoBulkAll spare + 1
  | .agg parts => uptoBulkAll parts + 1
  | .iface _ d => uptoBulk d + 1
  | .map entries => uptoBulkEntries entries + 1
  | .held _ => 1
def uptoBulkAll {H : Type} : List (DataW H) → Nat
  | [] => 0
  | d :: r => uptoBulk d + uptoBulkAll r
def uptoBulkEntries {H : Type} : List (Lit × DataW H) → Nat
  | [] => 0
  | x :: r => uptoBulkEntry x + uptoBulkEntries r
def uptoBulkEntry {H : Type} : Lit × DataW H → Nat
  | (.string bytes, d) => bytes.length + uptoBulk d + 1
  | (_, d) => uptoBulk d + 1
 end
def uptoSmall : (H : Type) → List (DataW H) → Bool := fun _ ds => decide (uptoBulkAll ds ≤ 1048576)
def OpenSpec.upto (s : _root_.Go.ChangeSpec) : _root_.Go.OpenSpec := { _root_.Go.OpenSpec.ofChange s with cond := some uptoSmall }

/-- 'laws.FnExactBalsOk', WHERE WHAT IT READS IS OF BULK AT MOST 1048576: true; the input reads as it did. -/
def fnExactBalsOkUptoRow : OpenClaim := { program := "ytiecflifopmmoaa", sum := "64cb81905a17dc986a301bbd4becb60caafc48c1945e98dbdd375ba73a2588b8", func := "loop.example/g00110/laws.FnExactBalsOk", spec := "fnExactBalsOk", plainKeys := false, apart := false, narrowed := true }
def FnExactBalsOkUptoSaid : Prop := fnExactBalsOkUptoRow.holds Try.pinned (OpenSpec.upto fnExactBalsOkSpec)

/-- 'laws.FnExactBalOf', WHERE WHAT IT READS IS OF BULK AT MOST 1048576: true; the input reads as it did. -/
def fnExactBalOfUptoRow : OpenClaim := { program := "ytiecflifopmmoaa", sum := "64cb81905a17dc986a301bbd4becb60caafc48c1945e98dbdd375ba73a2588b8", func := "loop.example/g00110/laws.FnExactBalOf", spec := "fnExactBalOf", plainKeys := false, apart := false, narrowed := true }
def FnExactBalOfUptoSaid : Prop := fnExactBalOfUptoRow.holds Try.pinned (OpenSpec.upto fnExactBalOfSpec)

/-- 'laws.FnExactBalPut', WHERE WHAT IT READS IS OF BULK AT MOST 1048576: true; the input reads as it did. -/
def fnExactBalPutUptoRow : OpenClaim := { program := "ytiecflifopmmoaa", sum := "64cb81905a17dc986a301bbd4becb60caafc48c1945e98dbdd375ba73a2588b8", func := "loop.example/g00110/laws.FnExactBalPut", spec := "fnExactBalPut", unfollowed := true, recurses := true, plainKeys := false, apart := false, narrowed := true }
def FnExactBalPutUptoSaid : Prop := fnExactBalPutUptoRow.holds Try.pinned (OpenSpec.upto fnExactBalPutSpec)

/-- 'laws.FnExactBalsSum', WHERE WHAT IT READS IS OF BULK AT MOST 1048576: true; the input reads as it did. -/
def fnExactBalsSumUptoRow : OpenClaim := { program := "ytiecflifopmmoaa", sum := "64cb81905a17dc986a301bbd4becb60caafc48c1945e98dbdd375ba73a2588b8", func := "loop.example/g00110/laws.FnExactBalsSum", spec := "fnExactBalsSum", plainKeys := false, apart := false, narrowed := true }
def FnExactBalsSumUptoSaid : Prop := fnExactBalsSumUptoRow.holds Try.pinned (OpenSpec.upto fnExactBalsSumSpec)

/-- 'laws.FnExactLegsOk', WHERE WHAT IT READS IS OF BULK AT MOST 1048576: true; the input reads as it did. -/
def fnExactLegsOkUptoRow : OpenClaim := { program := "ytiecflifopmmoaa", sum := "64cb81905a17dc986a301bbd4becb60caafc48c1945e98dbdd375ba73a2588b8", func := "loop.example/g00110/laws.FnExactLegsOk", spec := "fnExactLegsOk", plainKeys := false, apart := false, narrowed := true }
def FnExactLegsOkUptoSaid : Prop := fnExactLegsOkUptoRow.holds Try.pinned (OpenSpec.upto fnExactLegsOkSpec)

/-- 'laws.FnExactBalsPost', WHERE WHAT IT READS IS OF BULK AT MOST 1048576: true; the input reads as it did. -/
def fnExactBalsPostUptoRow : OpenClaim := { program := "ytiecflifopmmoaa", sum := "64cb81905a17dc986a301bbd4becb60caafc48c1945e98dbdd375ba73a2588b8", func := "loop.example/g00110/laws.FnExactBalsPost", spec := "fnExactBalsPost", unfollowed := true, recurses := true, plainKeys := false, apart := false, narrowed := true }
def FnExactBalsPostUptoSaid : Prop := fnExactBalsPostUptoRow.holds Try.pinned (OpenSpec.upto fnExactBalsPostSpec)

end Rows
end Go.Proofs.Ytiecflifopmmoaa
