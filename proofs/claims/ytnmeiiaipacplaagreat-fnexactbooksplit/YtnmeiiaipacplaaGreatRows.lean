/-
  No cell of these rows narrows 'for every input' (looked for: loops, veiled, ifaces, maps, wideKeys, modest, calm, conditions, laid).
  DERIVED. THE GIVEN ROWS OF THIS SEAT. 4 by the template 'for every input the law returns true; each argument reads behind the call as it read before'; 0 by the template 'total and deterministic' (their statements: YtnmeiiaipacplaaGreatTotals.lean).
  GIVEN WITH THE SEED: the statements are not yours to turn. If you find one false, say at which input.
  Laid BY PROGRAM, IN A SANDBOX (cutbox-rows.mjs): the forced cells as the released guide's own fill.sh prints them over the translation c4d122a8763bb36b… (all of the seat's roots in one cut). By AI agents, Wed Nov 11 2026. No macro, syntax, notation, axiom, sorry.
-/
import Derived.Test.YtnmeiiaipacplaaGreatChecked
import GoSem.Claim
import GoSem.ClaimJoined
import GoSem.ClaimMapViews
import Derived.JoinedTies
import Derived.KernelRfl
namespace Go.Proofs.YtnmeiiaipacplaaGreat
/- THE CELL 'sum', in the pinned program and in every row, IS THE sha256 OF THE DUMP (.gsa) THAT YtnmeiiaipacplaaGreatProg.lean LOADS. Nothing in Lean hashes anything: it is a label: what it is worth is what the hold of that sum in a sandbox is worth. -/
noncomputable def Tryz.pinned : Pinned := { name := "ytnmeiiaipacplaagreat", sum := "c4d122a8763bb36b37f68365855e5c3119c52015a2201d77d11b02b93e1193e7", checked := Tryz.checked }
namespace Rows
def none {H : Type} : Left H := { results := [], args := [] }

/-- 'laws.FnExactBookFx': WHATEVER THE INPUT: true; the input reads as it did. -/
def fnExactBookFxSpec : ChangeSpec := { name := "fnExactBookFx", fn := fun _ => fun
  | [d1, d2, d3, d4, d5, d6, d7, d8] => { results := [.lit (.bool true)], args := [d1, d2, d3, d4, d5, d6, d7, d8] }
  | _ => none }
def fnExactBookFxRow : OpenClaim := { program := "ytnmeiiaipacplaagreat", sum := "c4d122a8763bb36b37f68365855e5c3119c52015a2201d77d11b02b93e1193e7", func := "loop.example/g00110/laws.FnExactBookFx", spec := "fnExactBookFx", unfollowed := true, recurses := true, plainKeys := false, apart := false }
def FnExactBookFxSaid : Prop := fnExactBookFxRow.holds Tryz.pinned (OpenSpec.ofChange fnExactBookFxSpec)

/-- ITS FALSE NEIGHBOUR: 'it returns false'. Refute it at one input. -/
def fnExactBookFxWrong : ChangeSpec := { name := "fnExactBookFx", fn := fun _ => fun
  | [d1, d2, d3, d4, d5, d6, d7, d8] => { results := [.lit (.bool false)], args := [d1, d2, d3, d4, d5, d6, d7, d8] }
  | _ => none }
def FnExactBookFxWrongFalsely : Prop := fnExactBookFxRow.holds Tryz.pinned (OpenSpec.ofChange fnExactBookFxWrong)

/-- 'laws.FnExactHeld': WHATEVER THE INPUT: true; the input reads as it did. -/
def fnExactHeldSpec : ChangeSpec := { name := "fnExactHeld", fn := fun _ => fun
  | [d1, d2] => { results := [.lit (.bool true)], args := [d1, d2] }
  | _ => none }
def fnExactHeldRow : OpenClaim := { program := "ytnmeiiaipacplaagreat", sum := "c4d122a8763bb36b37f68365855e5c3119c52015a2201d77d11b02b93e1193e7", func := "loop.example/g00110/laws.FnExactHeld", spec := "fnExactHeld", unfollowed := true, recurses := true, plainKeys := false, apart := false }
def FnExactHeldSaid : Prop := fnExactHeldRow.holds Tryz.pinned (OpenSpec.ofChange fnExactHeldSpec)

/-- ITS FALSE NEIGHBOUR: 'it returns false'. Refute it at one input. -/
def fnExactHeldWrong : ChangeSpec := { name := "fnExactHeld", fn := fun _ => fun
  | [d1, d2] => { results := [.lit (.bool false)], args := [d1, d2] }
  | _ => none }
def FnExactHeldWrongFalsely : Prop := fnExactHeldRow.holds Tryz.pinned (OpenSpec.ofChange fnExactHeldWrong)

/-- 'laws.FnExactBookSplit': WHATEVER THE INPUT: true; the input reads as it did. -/
def fnExactBookSplitSpec : ChangeSpec := { name := "fnExactBookSplit", fn := fun _ => fun
  | [d1, d2, d3, d4, d5] => { results := [.lit (.bool true)], args := [d1, d2, d3, d4, d5] }
  | _ => none }
def fnExactBookSplitRow : OpenClaim := { program := "ytnmeiiaipacplaagreat", sum := "c4d122a8763bb36b37f68365855e5c3119c52015a2201d77d11b02b93e1193e7", func := "loop.example/g00110/laws.FnExactBookSplit", spec := "fnExactBookSplit", unfollowed := true, recurses := true, plainKeys := false, apart := false }
def FnExactBookSplitSaid : Prop := fnExactBookSplitRow.holds Tryz.pinned (OpenSpec.ofChange fnExactBookSplitSpec)

/-- ITS FALSE NEIGHBOUR: 'it returns false'. Refute it at one input. -/
def fnExactBookSplitWrong : ChangeSpec := { name := "fnExactBookSplit", fn := fun _ => fun
  | [d1, d2, d3, d4, d5] => { results := [.lit (.bool false)], args := [d1, d2, d3, d4, d5] }
  | _ => none }
def FnExactBookSplitWrongFalsely : Prop := fnExactBookSplitRow.holds Tryz.pinned (OpenSpec.ofChange fnExactBookSplitWrong)

/-- 'laws.FnExactBookPay': WHATEVER THE INPUT: true; the input reads as it did. -/
def fnExactBookPaySpec : ChangeSpec := { name := "fnExactBookPay", fn := fun _ => fun
  | [d1, d2, d3, d4, d5] => { results := [.lit (.bool true)], args := [d1, d2, d3, d4, d5] }
  | _ => none }
def fnExactBookPayRow : OpenClaim := { program := "ytnmeiiaipacplaagreat", sum := "c4d122a8763bb36b37f68365855e5c3119c52015a2201d77d11b02b93e1193e7", func := "loop.example/g00110/laws.FnExactBookPay", spec := "fnExactBookPay", unfollowed := true, recurses := true, plainKeys := false, apart := false }
def FnExactBookPaySaid : Prop := fnExactBookPayRow.holds Tryz.pinned (OpenSpec.ofChange fnExactBookPaySpec)

/-- ITS FALSE NEIGHBOUR: 'it returns false'. Refute it at one input. -/
def fnExactBookPayWrong : ChangeSpec := { name := "fnExactBookPay", fn := fun _ => fun
  | [d1, d2, d3, d4, d5] => { results := [.lit (.bool false)], args := [d1, d2, d3, d4, d5] }
  | _ => none }
def FnExactBookPayWrongFalsely : Prop := fnExactBookPayRow.holds Tryz.pinned (OpenSpec.ofChange fnExactBookPayWrong)

/- THE SECOND FORM. 'bulk': how many values and letters a reading holds, each counted each time it is reached (what is shared counts as often as it is met; a slice's spare places count too). A statement '..UptoSaid' is the law's where the arguments, and the package variables that the reading takes, are together of bulk at most 1048576: NARROWER than '..Said'. Prove '..Said' where nothing that the law and all that it calls make is longer than what came in: it says more and counts as full. Else prove '..UptoSaid'. A law counts once. -/
mutual
def uptoBulk {H : Type} : DataW H → Nat
  | .lit (.string bytes) => bytes.length + 1
  | .lit _ => 1
  | .nil => 1
  | .ptr d => uptoBulk d + 1
  | .slice elems spare => uptoBulkAll elems + uptoBulkAll spare + 1
  | .agg parts => uptoBulkAll parts + 1
  | .iface _ d => uptoBulk d + 1
  | .map entries => uptoBulkEntries entries + 1
  | .held _ => 1
def uptoBulkAll {H : Type} : List (DataW H) → Nat
  | [] => 0
  | d :: r => uptoBulk d + uptoBulkAll r
def uptoBulkEntries {H : Type} : List (Lit × DataW H) → Nat
  | [] => 0
  | x :: r => uptoBulkEntry x + uptoBulkEntries r
def uptoBulkEntry {H : Type} : Lit × DataW H → Nat
  | (.string bytes, d) => bytes.length + uptoBulk d + 1
  | (_, d) => uptoBulk d + 1
 end
def uptoSmall : (H : Type) → List (DataW H) → Bool := fun _ ds => decide (uptoBulkAll ds ≤ 1048576)
def OpenSpec.upto (s : _root_.Go.ChangeSpec) : _root_.Go.OpenSpec := { _root_.Go.OpenSpec.ofChange s with cond := some uptoSmall }

/-- 'laws.FnExactBookFx', WHERE WHAT IT READS IS OF BULK AT MOST 1048576: true; the input reads as it did. -/
def fnExactBookFxUptoRow : OpenClaim := { program := "ytnmeiiaipacplaagreat", sum := "c4d122a8763bb36b37f68365855e5c3119c52015a2201d77d11b02b93e1193e7", func := "loop.example/g00110/laws.FnExactBookFx", spec := "fnExactBookFx", unfollowed := true, recurses := true, plainKeys := false, apart := false, narrowed := true }
def FnExactBookFxUptoSaid : Prop := fnExactBookFxUptoRow.holds Tryz.pinned (OpenSpec.upto fnExactBookFxSpec)

/-- 'laws.FnExactHeld', WHERE WHAT IT READS IS OF BULK AT MOST 1048576: true; the input reads as it did. -/
def fnExactHeldUptoRow : OpenClaim := { program := "ytnmeiiaipacplaagreat", sum := "c4d122a8763bb36b37f68365855e5c3119c52015a2201d77d11b02b93e1193e7", func := "loop.example/g00110/laws.FnExactHeld", spec := "fnExactHeld", unfollowed := true, recurses := true, plainKeys := false, apart := false, narrowed := true }
def FnExactHeldUptoSaid : Prop := fnExactHeldUptoRow.holds Tryz.pinned (OpenSpec.upto fnExactHeldSpec)

/-- 'laws.FnExactBookSplit', WHERE WHAT IT READS IS OF BULK AT MOST 1048576: true; the input reads as it did. -/
def fnExactBookSplitUptoRow : OpenClaim := { program := "ytnmeiiaipacplaagreat", sum := "c4d122a8763bb36b37f68365855e5c3119c52015a2201d77d11b02b93e1193e7", func := "loop.example/g00110/laws.FnExactBookSplit", spec := "fnExactBookSplit", unfollowed := true, recurses := true, plainKeys := false, apart := false, narrowed := true }
def FnExactBookSplitUptoSaid : Prop := fnExactBookSplitUptoRow.holds Tryz.pinned (OpenSpec.upto fnExactBookSplitSpec)

/-- 'laws.FnExactBookPay', WHERE WHAT IT READS IS OF BULK AT MOST 1048576: true; the input reads as it did. -/
def fnExactBookPayUptoRow : OpenClaim := { program := "ytnmeiiaipacplaagreat", sum := "c4d122a8763bb36b37f68365855e5c3119c52015a2201d77d11b02b93e1193e7", func := "loop.example/g00110/laws.FnExactBookPay", spec := "fnExactBookPay", unfollowed := true, recurses := true, plainKeys := false, apart := false, narrowed := true }
def FnExactBookPayUptoSaid : Prop := fnExactBookPayUptoRow.holds Tryz.pinned (OpenSpec.upto fnExactBookPaySpec)

end Rows
end Go.Proofs.YtnmeiiaipacplaaGreat
