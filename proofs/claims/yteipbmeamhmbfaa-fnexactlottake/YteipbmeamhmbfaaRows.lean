/-
  No cell of these rows narrows 'for every input' (looked for: loops, veiled, ifaces, maps, wideKeys, modest, calm, conditions, laid).
  DERIVED. THE GIVEN ROWS OF THIS SEAT. 6 by the template 'for every input the law returns true; each argument reads behind the call as it read before'; 0 by the template 'total and deterministic' (their statements: YteipbmeamhmbfaaTotals.lean).
  GIVEN WITH THE SEED: the statements are not yours to turn. If you find one false, say at which input.
  Laid BY PROGRAM, IN A SANDBOX (cutbox-rows.mjs): the forced cells as the released guide's own fill.sh prints them over the translation 1a6ca43e62656f2a… (all of the seat's roots in one cut). By AI agents, Wed Nov 11 2026. No macro, syntax, notation, axiom, sorry.
-/
import Derived.Test.YteipbmeamhmbfaaChecked
import GoSem.Claim
import GoSem.ClaimJoined
import GoSem.ClaimMapViews
import Derived.JoinedTies
import Derived.KernelRfl
namespace Go.Proofs.Yteipbmeamhmbfaa
/- THE CELL 'sum', in the pinned program and in every row, IS THE sha256 OF THE DUMP (.gsa) THAT YteipbmeamhmbfaaProg.lean LOADS. Nothing in Lean hashes anything: it is a label: what it is worth is what the hold of that sum in a sandbox is worth. -/
noncomputable def Try.pinned : Pinned := { name := "yteipbmeamhmbfaa", sum := "1a6ca43e62656f2a8ef9af6f627de998fab0f6a8ccc7687b5d79a18031d0dffb", checked := Try.checked }
namespace Rows
def none {H : Type} : Left H := { results := [], args := [] }

/-- 'laws.FnExactLotsOk': WHATEVER THE INPUT: true; the input reads as it did. -/
def fnExactLotsOkSpec : ChangeSpec := { name := "fnExactLotsOk", fn := fun _ => fun
  | [d] => { results := [.lit (.bool true)], args := [d] }
  | _ => none }
def fnExactLotsOkRow : OpenClaim := { program := "yteipbmeamhmbfaa", sum := "1a6ca43e62656f2a8ef9af6f627de998fab0f6a8ccc7687b5d79a18031d0dffb", func := "loop.example/g00110/laws.FnExactLotsOk", spec := "fnExactLotsOk", apart := false }
def FnExactLotsOkSaid : Prop := fnExactLotsOkRow.holds Try.pinned (OpenSpec.ofChange fnExactLotsOkSpec)

/-- ITS FALSE NEIGHBOUR: 'it returns false'. Refute it at one input. -/
def fnExactLotsOkWrong : ChangeSpec := { name := "fnExactLotsOk", fn := fun _ => fun
  | [d] => { results := [.lit (.bool false)], args := [d] }
  | _ => none }
def FnExactLotsOkWrongFalsely : Prop := fnExactLotsOkRow.holds Try.pinned (OpenSpec.ofChange fnExactLotsOkWrong)

/-- 'laws.FnExactLotsOf': WHATEVER THE INPUT: true; the input reads as it did. -/
def fnExactLotsOfSpec : ChangeSpec := { name := "fnExactLotsOf", fn := fun _ => fun
  | [d1, d2, d3] => { results := [.lit (.bool true)], args := [d1, d2, d3] }
  | _ => none }
def fnExactLotsOfRow : OpenClaim := { program := "yteipbmeamhmbfaa", sum := "1a6ca43e62656f2a8ef9af6f627de998fab0f6a8ccc7687b5d79a18031d0dffb", func := "loop.example/g00110/laws.FnExactLotsOf", spec := "fnExactLotsOf", unfollowed := true, recurses := true, apart := false }
def FnExactLotsOfSaid : Prop := fnExactLotsOfRow.holds Try.pinned (OpenSpec.ofChange fnExactLotsOfSpec)

/-- ITS FALSE NEIGHBOUR: 'it returns false'. Refute it at one input. -/
def fnExactLotsOfWrong : ChangeSpec := { name := "fnExactLotsOf", fn := fun _ => fun
  | [d1, d2, d3] => { results := [.lit (.bool false)], args := [d1, d2, d3] }
  | _ => none }
def FnExactLotsOfWrongFalsely : Prop := fnExactLotsOfRow.holds Try.pinned (OpenSpec.ofChange fnExactLotsOfWrong)

/-- 'laws.FnExactLotsQty': WHATEVER THE INPUT: true; the input reads as it did. -/
def fnExactLotsQtySpec : ChangeSpec := { name := "fnExactLotsQty", fn := fun _ => fun
  | [d1, d2, d3] => { results := [.lit (.bool true)], args := [d1, d2, d3] }
  | _ => none }
def fnExactLotsQtyRow : OpenClaim := { program := "yteipbmeamhmbfaa", sum := "1a6ca43e62656f2a8ef9af6f627de998fab0f6a8ccc7687b5d79a18031d0dffb", func := "loop.example/g00110/laws.FnExactLotsQty", spec := "fnExactLotsQty", unfollowed := true, recurses := true, apart := false }
def FnExactLotsQtySaid : Prop := fnExactLotsQtyRow.holds Try.pinned (OpenSpec.ofChange fnExactLotsQtySpec)

/-- ITS FALSE NEIGHBOUR: 'it returns false'. Refute it at one input. -/
def fnExactLotsQtyWrong : ChangeSpec := { name := "fnExactLotsQty", fn := fun _ => fun
  | [d1, d2, d3] => { results := [.lit (.bool false)], args := [d1, d2, d3] }
  | _ => none }
def FnExactLotsQtyWrongFalsely : Prop := fnExactLotsQtyRow.holds Try.pinned (OpenSpec.ofChange fnExactLotsQtyWrong)

/-- 'laws.FnExactLotsCost': WHATEVER THE INPUT: true; the input reads as it did. -/
def fnExactLotsCostSpec : ChangeSpec := { name := "fnExactLotsCost", fn := fun _ => fun
  | [d1, d2, d3] => { results := [.lit (.bool true)], args := [d1, d2, d3] }
  | _ => none }
def fnExactLotsCostRow : OpenClaim := { program := "yteipbmeamhmbfaa", sum := "1a6ca43e62656f2a8ef9af6f627de998fab0f6a8ccc7687b5d79a18031d0dffb", func := "loop.example/g00110/laws.FnExactLotsCost", spec := "fnExactLotsCost", unfollowed := true, recurses := true, apart := false }
def FnExactLotsCostSaid : Prop := fnExactLotsCostRow.holds Try.pinned (OpenSpec.ofChange fnExactLotsCostSpec)

/-- ITS FALSE NEIGHBOUR: 'it returns false'. Refute it at one input. -/
def fnExactLotsCostWrong : ChangeSpec := { name := "fnExactLotsCost", fn := fun _ => fun
  | [d1, d2, d3] => { results := [.lit (.bool false)], args := [d1, d2, d3] }
  | _ => none }
def FnExactLotsCostWrongFalsely : Prop := fnExactLotsCostRow.holds Try.pinned (OpenSpec.ofChange fnExactLotsCostWrong)

/-- 'laws.FnExactLotOpen': WHATEVER THE INPUT: true; the input reads as it did. -/
def fnExactLotOpenSpec : ChangeSpec := { name := "fnExactLotOpen", fn := fun _ => fun
  | [d1, d2] => { results := [.lit (.bool true)], args := [d1, d2] }
  | _ => none }
def fnExactLotOpenRow : OpenClaim := { program := "yteipbmeamhmbfaa", sum := "1a6ca43e62656f2a8ef9af6f627de998fab0f6a8ccc7687b5d79a18031d0dffb", func := "loop.example/g00110/laws.FnExactLotOpen", spec := "fnExactLotOpen", unfollowed := true, recurses := true, apart := false }
def FnExactLotOpenSaid : Prop := fnExactLotOpenRow.holds Try.pinned (OpenSpec.ofChange fnExactLotOpenSpec)

/-- ITS FALSE NEIGHBOUR: 'it returns false'. Refute it at one input. -/
def fnExactLotOpenWrong : ChangeSpec := { name := "fnExactLotOpen", fn := fun _ => fun
  | [d1, d2] => { results := [.lit (.bool false)], args := [d1, d2] }
  | _ => none }
def FnExactLotOpenWrongFalsely : Prop := fnExactLotOpenRow.holds Try.pinned (OpenSpec.ofChange fnExactLotOpenWrong)

/-- 'laws.FnExactLotTake': WHATEVER THE INPUT: true; the input reads as it did. -/
def fnExactLotTakeSpec : ChangeSpec := { name := "fnExactLotTake", fn := fun _ => fun
  | [d1, d2, d3, d4, d5] => { results := [.lit (.bool true)], args := [d1, d2, d3, d4, d5] }
  | _ => none }
def fnExactLotTakeRow : OpenClaim := { program := "yteipbmeamhmbfaa", sum := "1a6ca43e62656f2a8ef9af6f627de998fab0f6a8ccc7687b5d79a18031d0dffb", func := "loop.example/g00110/laws.FnExactLotTake", spec := "fnExactLotTake", unfollowed := true, recurses := true, apart := false }
def FnExactLotTakeSaid : Prop := fnExactLotTakeRow.holds Try.pinned (OpenSpec.ofChange fnExactLotTakeSpec)

/-- ITS FALSE NEIGHBOUR: 'it returns false'. Refute it at one input. -/
def fnExactLotTakeWrong : ChangeSpec := { name := "fnExactLotTake", fn := fun _ => fun
  | [d1, d2, d3, d4, d5] => { results := [.lit (.bool false)], args := [d1, d2, d3, d4, d5] }
  | _ => none }
def FnExactLotTakeWrongFalsely : Prop := fnExactLotTakeRow.holds Try.pinned (OpenSpec.ofChange fnExactLotTakeWrong)

/- THE SECOND FORM. 'bulk': how many values and letters a reading holds, each counted each time it is reached (what is shared counts as often as it is met; a slice's spare places count too). A statement '..UptoSaid' is the law's where the arguments, and the package variables that the reading takes, are together of bulk at most 1048576: NARROWER than '..Said'. Prove '..Said' where nothing that the law and all that it calls make is longer than what came in: it says more and counts as full. Else prove '..UptoSaid'. A law counts once. -/
mutual
def uptoBulk {H : Type} : DataW H → Nat
  | .lit (.string bytes) => bytes.length + 1
  | .lit _ => 1
  | .nil => 1
  | .ptr d => uptoBulk d + 1
  | .slice elems spare => uptoBulkAll elems + uptoBulkAll spare + 1
  | .agg parts => uptoBulkAll parts + 1
  | .iface _ d => uptoBulk d + 1
  | .map entries => uptoBulkEntries entries + 1
  | .held _ => 1
def uptoBulkAll {H : Type} : List (DataW H) → Nat
  | [] => 0
  | d :: r => uptoBulk d + uptoBulkAll r
def uptoBulkEntries {H : Type} : List (Lit × DataW H) → Nat
  | [] => 0
  | x :: r => uptoBulkEntry x + uptoBulkEntries r
def uptoBulkEntry {H : Type} : Lit × DataW H → Nat
  | (.string bytes, d) => bytes.length + uptoBulk d + 1
  | (_, d) => uptoBulk d + 1
 end
def uptoSmall : (H : Type) → List (DataW H) → Bool := fun _ ds => decide (uptoBulkAll ds ≤ 1048576)
def OpenSpec.upto (s : _root_.Go.ChangeSpec) : _root_.Go.OpenSpec := { _root_.Go.OpenSpec.ofChange s with cond := some uptoSmall }

/-- 'laws.FnExactLotsOk', WHERE WHAT IT READS IS OF BULK AT MOST 1048576: true; the input reads as it did. -/
def fnExactLotsOkUptoRow : OpenClaim := { program := "yteipbmeamhmbfaa", sum := "1a6ca43e62656f2a8ef9af6f627de998fab0f6a8ccc7687b5d79a18031d0dffb", func := "loop.example/g00110/laws.FnExactLotsOk", spec := "fnExactLotsOk", apart := false, narrowed := true }
def FnExactLotsOkUptoSaid : Prop := fnExactLotsOkUptoRow.holds Try.pinned (OpenSpec.upto fnExactLotsOkSpec)

/-- 'laws.FnExactLotsOf', WHERE WHAT IT READS IS OF BULK AT MOST 1048576: true; the input reads as it did. -/
def fnExactLotsOfUptoRow : OpenClaim := { program := "yteipbmeamhmbfaa", sum := "1a6ca43e62656f2a8ef9af6f627de998fab0f6a8ccc7687b5d79a18031d0dffb", func := "loop.example/g00110/laws.FnExactLotsOf", spec := "fnExactLotsOf", unfollowed := true, recurses := true, apart := false, narrowed := true }
def FnExactLotsOfUptoSaid : Prop := fnExactLotsOfUptoRow.holds Try.pinned (OpenSpec.upto fnExactLotsOfSpec)

/-- 'laws.FnExactLotsQty', WHERE WHAT IT READS IS OF BULK AT MOST 1048576: true; the input reads as it did. -/
def fnExactLotsQtyUptoRow : OpenClaim := { program := "yteipbmeamhmbfaa", sum := "1a6ca43e62656f2a8ef9af6f627de998fab0f6a8ccc7687b5d79a18031d0dffb", func := "loop.example/g00110/laws.FnExactLotsQty", spec := "fnExactLotsQty", unfollowed := true, recurses := true, apart := false, narrowed := true }
def FnExactLotsQtyUptoSaid : Prop := fnExactLotsQtyUptoRow.holds Try.pinned (OpenSpec.upto fnExactLotsQtySpec)

/-- 'laws.FnExactLotsCost', WHERE WHAT IT READS IS OF BULK AT MOST 1048576: true; the input reads as it did. -/
def fnExactLotsCostUptoRow : OpenClaim := { program := "yteipbmeamhmbfaa", sum := "1a6ca43e62656f2a8ef9af6f627de998fab0f6a8ccc7687b5d79a18031d0dffb", func := "loop.example/g00110/laws.FnExactLotsCost", spec := "fnExactLotsCost", unfollowed := true, recurses := true, apart := false, narrowed := true }
def FnExactLotsCostUptoSaid : Prop := fnExactLotsCostUptoRow.holds Try.pinned (OpenSpec.upto fnExactLotsCostSpec)

/-- 'laws.FnExactLotOpen', WHERE WHAT IT READS IS OF BULK AT MOST 1048576: true; the input reads as it did. -/
def fnExactLotOpenUptoRow : OpenClaim := { program := "yteipbmeamhmbfaa", sum := "1a6ca43e62656f2a8ef9af6f627de998fab0f6a8ccc7687b5d79a18031d0dffb", func := "loop.example/g00110/laws.FnExactLotOpen", spec := "fnExactLotOpen", unfollowed := true, recurses := true, apart := false, narrowed := true }
def FnExactLotOpenUptoSaid : Prop := fnExactLotOpenUptoRow.holds Try.pinned (OpenSpec.upto fnExactLotOpenSpec)

/-- 'laws.FnExactLotTake', WHERE WHAT IT READS IS OF BULK AT MOST 1048576: true; the input reads as it did. -/
def fnExactLotTakeUptoRow : OpenClaim := { program := "yteipbmeamhmbfaa", sum := "1a6ca43e62656f2a8ef9af6f627de998fab0f6a8ccc7687b5d79a18031d0dffb", func := "loop.example/g00110/laws.FnExactLotTake", spec := "fnExactLotTake", unfollowed := true, recurses := true, apart := false, narrowed := true }
def FnExactLotTakeUptoSaid : Prop := fnExactLotTakeUptoRow.holds Try.pinned (OpenSpec.upto fnExactLotTakeSpec)

end Rows
end Go.Proofs.Yteipbmeamhmbfaa
