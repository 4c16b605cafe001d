/-
  No cell of these rows narrows 'for every input' (looked for: loops, veiled, ifaces, maps, wideKeys, modest, calm, conditions, laid).
  DERIVED. THE GIVEN ROWS OF THIS SEAT. 5 by the template 'for every input the law returns true; each argument reads behind the call as it read before'; 0 by the template 'total and deterministic' (their statements: YtnkbkaeafkdpiaaTotals.lean).
  GIVEN WITH THE SEED: the statements are not yours to turn. If you find one false, say at which input.
  Laid BY PROGRAM, IN A SANDBOX (cutbox-rows.mjs): the forced cells as the released guide's own fill.sh prints them over the translation cd52173f9d8ebecc… (all of the seat's roots in one cut). By AI agents, Wed Nov 11 2026. No macro, syntax, notation, axiom, sorry.
-/
import Derived.Test.YtnkbkaeafkdpiaaChecked
import GoSem.Claim
import GoSem.ClaimJoined
import GoSem.ClaimMapViews
import Derived.JoinedTies
import Derived.KernelRfl
namespace Go.Proofs.Ytnkbkaeafkdpiaa
/- THE CELL 'sum', in the pinned program and in every row, IS THE sha256 OF THE DUMP (.gsa) THAT YtnkbkaeafkdpiaaProg.lean LOADS. Nothing in Lean hashes anything: it is a label: what it is worth is what the hold of that sum in a sandbox is worth. -/
noncomputable def Try.pinned : Pinned := { name := "ytnkbkaeafkdpiaa", sum := "cd52173f9d8ebecca20704bf803eb177a595053ebbfe8a15bc7002293dcdd613", checked := Try.checked }
namespace Rows
def none {H : Type} : Left H := { results := [], args := [] }

/-- 'laws.FnReplyBytes': WHATEVER THE INPUT: true; the input reads as it did. -/
def fnReplyBytesSpec : ChangeSpec := { name := "fnReplyBytes", fn := fun _ => fun
  | [d] => { results := [.lit (.bool true)], args := [d] }
  | _ => none }
def fnReplyBytesRow : OpenClaim := { program := "ytnkbkaeafkdpiaa", sum := "cd52173f9d8ebecca20704bf803eb177a595053ebbfe8a15bc7002293dcdd613", func := "loop.example/g00110/laws.FnReplyBytes", spec := "fnReplyBytes", unfollowed := true, recurses := true, apart := false }
def FnReplyBytesSaid : Prop := fnReplyBytesRow.holds Try.pinned (OpenSpec.ofChange fnReplyBytesSpec)

/-- ITS FALSE NEIGHBOUR: 'it returns false'. Refute it at one input. -/
def fnReplyBytesWrong : ChangeSpec := { name := "fnReplyBytes", fn := fun _ => fun
  | [d] => { results := [.lit (.bool false)], args := [d] }
  | _ => none }
def FnReplyBytesWrongFalsely : Prop := fnReplyBytesRow.holds Try.pinned (OpenSpec.ofChange fnReplyBytesWrong)

/-- 'laws.FnExactCmdPack': WHATEVER THE INPUT: true; the input reads as it did. -/
def fnExactCmdPackSpec : ChangeSpec := { name := "fnExactCmdPack", fn := fun _ => fun
  | [d] => { results := [.lit (.bool true)], args := [d] }
  | _ => none }
def fnExactCmdPackRow : OpenClaim := { program := "ytnkbkaeafkdpiaa", sum := "cd52173f9d8ebecca20704bf803eb177a595053ebbfe8a15bc7002293dcdd613", func := "loop.example/g00110/laws.FnExactCmdPack", spec := "fnExactCmdPack", unfollowed := true, recurses := true, apart := false }
def FnExactCmdPackSaid : Prop := fnExactCmdPackRow.holds Try.pinned (OpenSpec.ofChange fnExactCmdPackSpec)

/-- ITS FALSE NEIGHBOUR: 'it returns false'. Refute it at one input. -/
def fnExactCmdPackWrong : ChangeSpec := { name := "fnExactCmdPack", fn := fun _ => fun
  | [d] => { results := [.lit (.bool false)], args := [d] }
  | _ => none }
def FnExactCmdPackWrongFalsely : Prop := fnExactCmdPackRow.holds Try.pinned (OpenSpec.ofChange fnExactCmdPackWrong)

/-- 'laws.FnExactCmdRead': WHATEVER THE INPUT: true; the input reads as it did. -/
def fnExactCmdReadSpec : ChangeSpec := { name := "fnExactCmdRead", fn := fun _ => fun
  | [d] => { results := [.lit (.bool true)], args := [d] }
  | _ => none }
def fnExactCmdReadRow : OpenClaim := { program := "ytnkbkaeafkdpiaa", sum := "cd52173f9d8ebecca20704bf803eb177a595053ebbfe8a15bc7002293dcdd613", func := "loop.example/g00110/laws.FnExactCmdRead", spec := "fnExactCmdRead", unfollowed := true, recurses := true, apart := false }
def FnExactCmdReadSaid : Prop := fnExactCmdReadRow.holds Try.pinned (OpenSpec.ofChange fnExactCmdReadSpec)

/-- ITS FALSE NEIGHBOUR: 'it returns false'. Refute it at one input. -/
def fnExactCmdReadWrong : ChangeSpec := { name := "fnExactCmdRead", fn := fun _ => fun
  | [d] => { results := [.lit (.bool false)], args := [d] }
  | _ => none }
def FnExactCmdReadWrongFalsely : Prop := fnExactCmdReadRow.holds Try.pinned (OpenSpec.ofChange fnExactCmdReadWrong)

/-- 'laws.FnExactReplyPack': WHATEVER THE INPUT: true; the input reads as it did. -/
def fnExactReplyPackSpec : ChangeSpec := { name := "fnExactReplyPack", fn := fun _ => fun
  | [d] => { results := [.lit (.bool true)], args := [d] }
  | _ => none }
def fnExactReplyPackRow : OpenClaim := { program := "ytnkbkaeafkdpiaa", sum := "cd52173f9d8ebecca20704bf803eb177a595053ebbfe8a15bc7002293dcdd613", func := "loop.example/g00110/laws.FnExactReplyPack", spec := "fnExactReplyPack", unfollowed := true, recurses := true, apart := false }
def FnExactReplyPackSaid : Prop := fnExactReplyPackRow.holds Try.pinned (OpenSpec.ofChange fnExactReplyPackSpec)

/-- ITS FALSE NEIGHBOUR: 'it returns false'. Refute it at one input. -/
def fnExactReplyPackWrong : ChangeSpec := { name := "fnExactReplyPack", fn := fun _ => fun
  | [d] => { results := [.lit (.bool false)], args := [d] }
  | _ => none }
def FnExactReplyPackWrongFalsely : Prop := fnExactReplyPackRow.holds Try.pinned (OpenSpec.ofChange fnExactReplyPackWrong)

/-- 'laws.FnExactReplyRead': WHATEVER THE INPUT: true; the input reads as it did. -/
def fnExactReplyReadSpec : ChangeSpec := { name := "fnExactReplyRead", fn := fun _ => fun
  | [d] => { results := [.lit (.bool true)], args := [d] }
  | _ => none }
def fnExactReplyReadRow : OpenClaim := { program := "ytnkbkaeafkdpiaa", sum := "cd52173f9d8ebecca20704bf803eb177a595053ebbfe8a15bc7002293dcdd613", func := "loop.example/g00110/laws.FnExactReplyRead", spec := "fnExactReplyRead", unfollowed := true, recurses := true, apart := false }
def FnExactReplyReadSaid : Prop := fnExactReplyReadRow.holds Try.pinned (OpenSpec.ofChange fnExactReplyReadSpec)

/-- ITS FALSE NEIGHBOUR: 'it returns false'. Refute it at one input. -/
def fnExactReplyReadWrong : ChangeSpec := { name := "fnExactReplyRead", fn := fun _ => fun
  | [d] => { results := [.lit (.bool false)], args := [d] }
  | _ => none }
def FnExactReplyReadWrongFalsely : Prop := fnExactReplyReadRow.holds Try.pinned (OpenSpec.ofChange fnExactReplyReadWrong)

/- THE SECOND FORM. 'bulk': how many values and letters a reading holds, each counted each time it is reached (what is shared counts as often as it is met; a slice's spare places count too). A statement '..UptoSaid' is the law's where the arguments, and the package variables that the reading takes, are together of bulk at most 1048576: NARROWER than '..Said'. Prove '..Said' where nothing that the law and all that it calls make is longer than what came in: it says more and counts as full. Else prove '..UptoSaid'. A law counts once. -/
mutual
def uptoBulk {H : Type} : DataW H → Nat
  | .lit (.string bytes) => bytes.length + 1
  | .lit _ => 1
  | .nil => 1
  | .ptr d => uptoBulk d + 1
  | .slice elems spare => uptoBulkAll elems + uptoBulkAll spare + 1
  | .agg parts => uptoBulkAll parts + 1
  | .iface _ d => uptoBulk d + 1
  | .map entries => uptoBulkEntries entries + 1
  | .held _ => 1
def uptoBulkAll {H : Type} : List (DataW H) → Nat
  | [] => 0
  | d :: r => uptoBulk d + uptoBulkAll r
def uptoBulkEntries {H : Type} : List (Lit × DataW H) → Nat
  | [] => 0
  | x :: r => uptoBulkEntry x + uptoBulkEntries r
def uptoBulkEntry {H : Type} : Lit × DataW H → Nat
  | (.string bytes, d) => bytes.length + uptoBulk d + 1
  | (_, d) => uptoBulk d + 1
 end
def uptoSmall : (H : Type) → List (DataW H) → Bool := fun _ ds => decide (uptoBulkAll ds ≤ 1048576)
def OpenSpec.upto (s : _root_.Go.ChangeSpec) : _root_.Go.OpenSpec := { _root_.Go.OpenSpec.ofChange s with cond := some uptoSmall }

/-- 'laws.FnReplyBytes', WHERE WHAT IT READS IS OF BULK AT MOST 1048576: true; the input reads as it did. -/
def fnReplyBytesUptoRow : OpenClaim := { program := "ytnkbkaeafkdpiaa", sum := "cd52173f9d8ebecca20704bf803eb177a595053ebbfe8a15bc7002293dcdd613", func := "loop.example/g00110/laws.FnReplyBytes", spec := "fnReplyBytes", unfollowed := true, recurses := true, apart := false, narrowed := true }
def FnReplyBytesUptoSaid : Prop := fnReplyBytesUptoRow.holds Try.pinned (OpenSpec.upto fnReplyBytesSpec)

/-- 'laws.FnExactCmdPack', WHERE WHAT IT READS IS OF BULK AT MOST 1048576: true; the input reads as it did. -/
def fnExactCmdPackUptoRow : OpenClaim := { program := "ytnkbkaeafkdpiaa", sum := "cd52173f9d8ebecca20704bf803eb177a595053ebbfe8a15bc7002293dcdd613", func := "loop.example/g00110/laws.FnExactCmdPack", spec := "fnExactCmdPack", unfollowed := true, recurses := true, apart := false, narrowed := true }
def FnExactCmdPackUptoSaid : Prop := fnExactCmdPackUptoRow.holds Try.pinned (OpenSpec.upto fnExactCmdPackSpec)

/-- 'laws.FnExactCmdRead', WHERE WHAT IT READS IS OF BULK AT MOST 1048576: true; the input reads as it did. -/
def fnExactCmdReadUptoRow : OpenClaim := { program := "ytnkbkaeafkdpiaa", sum := "cd52173f9d8ebecca20704bf803eb177a595053ebbfe8a15bc7002293dcdd613", func := "loop.example/g00110/laws.FnExactCmdRead", spec := "fnExactCmdRead", unfollowed := true, recurses := true, apart := false, narrowed := true }
def FnExactCmdReadUptoSaid : Prop := fnExactCmdReadUptoRow.holds Try.pinned (OpenSpec.upto fnExactCmdReadSpec)

/-- 'laws.FnExactReplyPack', WHERE WHAT IT READS IS OF BULK AT MOST 1048576: true; the input reads as it did. -/
def fnExactReplyPackUptoRow : OpenClaim := { program := "ytnkbkaeafkdpiaa", sum := "cd52173f9d8ebecca20704bf803eb177a595053ebbfe8a15bc7002293dcdd613", func := "loop.example/g00110/laws.FnExactReplyPack", spec := "fnExactReplyPack", unfollowed := true, recurses := true, apart := false, narrowed := true }
def FnExactReplyPackUptoSaid : Prop := fnExactReplyPackUptoRow.holds Try.pinned (OpenSpec.upto fnExactReplyPackSpec)

/-- 'laws.FnExactReplyRead', WHERE WHAT IT READS IS OF BULK AT MOST 1048576: true; the input reads as it did. -/
def fnExactReplyReadUptoRow : OpenClaim := { program := "ytnkbkaeafkdpiaa", sum := "cd52173f9d8ebecca20704bf803eb177a595053ebbfe8a15bc7002293dcdd613", func := "loop.example/g00110/laws.FnExactReplyRead", spec := "fnExactReplyRead", unfollowed := true, recurses := true, apart := false, narrowed := true }
def FnExactReplyReadUptoSaid : Prop := fnExactReplyReadUptoRow.holds Try.pinned (OpenSpec.upto fnExactReplyReadSpec)

end Rows
end Go.Proofs.Ytnkbkaeafkdpiaa
