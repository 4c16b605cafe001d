/-
  No cell of these rows narrows 'for every input' (looked for: loops, veiled, ifaces, maps, wideKeys, modest, calm, conditions, laid).
  DERIVED. THE GIVEN ROWS OF THIS SEAT. 6 by the template 'for every input the law returns true; each argument reads behind the call as it read before'; 0 by the template 'total and deterministic' (their statements: YticofefdbjihiaaTotals.lean).
  GIVEN WITH THE SEED: the statements are not yours to turn. If you find one false, say at which input.
  Laid BY PROGRAM, IN A SANDBOX (cutbox-rows.mjs): the forced cells as the released guide's own fill.sh prints them over the translation da7c0ce14747c09f… (all of the seat's roots in one cut). By AI agents, Wed Nov 11 2026. No macro, syntax, notation, axiom, sorry.
-/
import Derived.Test.YticofefdbjihiaaChecked
import GoSem.Claim
import GoSem.ClaimJoined
import GoSem.ClaimMapViews
import Derived.JoinedTies
import Derived.KernelRfl
namespace Go.Proofs.Yticofefdbjihiaa
/- THE CELL 'sum', in the pinned program and in every row, IS THE sha256 OF THE DUMP (.gsa) THAT YticofefdbjihiaaProg.lean LOADS. Nothing in Lean hashes anything: it is a label: what it is worth is what the hold of that sum in a sandbox is worth. -/
noncomputable def Try.pinned : Pinned := { name := "yticofefdbjihiaa", sum := "da7c0ce14747c09ffc6d40f0e1cde49c4ee7d94e29f9207ad6f6c597c7f7acf1", checked := Try.checked }
namespace Rows
def none {H : Type} : Left H := { results := [], args := [] }

/-- 'laws.FnExactSegRead': WHATEVER THE INPUT: true; the input reads as it did. -/
def fnExactSegReadSpec : ChangeSpec := { name := "fnExactSegRead", fn := fun _ => fun
  | [d1, d2] => { results := [.lit (.bool true)], args := [d1, d2] }
  | _ => none }
def fnExactSegReadRow : OpenClaim := { program := "yticofefdbjihiaa", sum := "da7c0ce14747c09ffc6d40f0e1cde49c4ee7d94e29f9207ad6f6c597c7f7acf1", func := "loop.example/g00110/laws.FnExactSegRead", spec := "fnExactSegRead", apart := false }
def FnExactSegReadSaid : Prop := fnExactSegReadRow.holds Try.pinned (OpenSpec.ofChange fnExactSegReadSpec)

/-- ITS FALSE NEIGHBOUR: 'it returns false'. Refute it at one input. -/
def fnExactSegReadWrong : ChangeSpec := { name := "fnExactSegRead", fn := fun _ => fun
  | [d1, d2] => { results := [.lit (.bool false)], args := [d1, d2] }
  | _ => none }
def FnExactSegReadWrongFalsely : Prop := fnExactSegReadRow.holds Try.pinned (OpenSpec.ofChange fnExactSegReadWrong)

/-- 'laws.FnExactSegAdd': WHATEVER THE INPUT: true; the input reads as it did. -/
def fnExactSegAddSpec : ChangeSpec := { name := "fnExactSegAdd", fn := fun _ => fun
  | [d1, d2, d3] => { results := [.lit (.bool true)], args := [d1, d2, d3] }
  | _ => none }
def fnExactSegAddRow : OpenClaim := { program := "yticofefdbjihiaa", sum := "da7c0ce14747c09ffc6d40f0e1cde49c4ee7d94e29f9207ad6f6c597c7f7acf1", func := "loop.example/g00110/laws.FnExactSegAdd", spec := "fnExactSegAdd", apart := false }
def FnExactSegAddSaid : Prop := fnExactSegAddRow.holds Try.pinned (OpenSpec.ofChange fnExactSegAddSpec)

/-- ITS FALSE NEIGHBOUR: 'it returns false'. Refute it at one input. -/
def fnExactSegAddWrong : ChangeSpec := { name := "fnExactSegAdd", fn := fun _ => fun
  | [d1, d2, d3] => { results := [.lit (.bool false)], args := [d1, d2, d3] }
  | _ => none }
def FnExactSegAddWrongFalsely : Prop := fnExactSegAddRow.holds Try.pinned (OpenSpec.ofChange fnExactSegAddWrong)

/-- 'laws.FnExactSegLate': WHATEVER THE INPUT: true; the input reads as it did. -/
def fnExactSegLateSpec : ChangeSpec := { name := "fnExactSegLate", fn := fun _ => fun
  | [d1, d2, d3] => { results := [.lit (.bool true)], args := [d1, d2, d3] }
  | _ => none }
def fnExactSegLateRow : OpenClaim := { program := "yticofefdbjihiaa", sum := "da7c0ce14747c09ffc6d40f0e1cde49c4ee7d94e29f9207ad6f6c597c7f7acf1", func := "loop.example/g00110/laws.FnExactSegLate", spec := "fnExactSegLate", apart := false }
def FnExactSegLateSaid : Prop := fnExactSegLateRow.holds Try.pinned (OpenSpec.ofChange fnExactSegLateSpec)

/-- ITS FALSE NEIGHBOUR: 'it returns false'. Refute it at one input. -/
def fnExactSegLateWrong : ChangeSpec := { name := "fnExactSegLate", fn := fun _ => fun
  | [d1, d2, d3] => { results := [.lit (.bool false)], args := [d1, d2, d3] }
  | _ => none }
def FnExactSegLateWrongFalsely : Prop := fnExactSegLateRow.holds Try.pinned (OpenSpec.ofChange fnExactSegLateWrong)

/-- 'laws.FnExactSegMend': WHATEVER THE INPUT: true; the input reads as it did. -/
def fnExactSegMendSpec : ChangeSpec := { name := "fnExactSegMend", fn := fun _ => fun
  | [d1, d2] => { results := [.lit (.bool true)], args := [d1, d2] }
  | _ => none }
def fnExactSegMendRow : OpenClaim := { program := "yticofefdbjihiaa", sum := "da7c0ce14747c09ffc6d40f0e1cde49c4ee7d94e29f9207ad6f6c597c7f7acf1", func := "loop.example/g00110/laws.FnExactSegMend", spec := "fnExactSegMend", apart := false }
def FnExactSegMendSaid : Prop := fnExactSegMendRow.holds Try.pinned (OpenSpec.ofChange fnExactSegMendSpec)

/-- ITS FALSE NEIGHBOUR: 'it returns false'. Refute it at one input. -/
def fnExactSegMendWrong : ChangeSpec := { name := "fnExactSegMend", fn := fun _ => fun
  | [d1, d2] => { results := [.lit (.bool false)], args := [d1, d2] }
  | _ => none }
def FnExactSegMendWrongFalsely : Prop := fnExactSegMendRow.holds Try.pinned (OpenSpec.ofChange fnExactSegMendWrong)

/-- 'laws.FnExactSegsFrom': WHATEVER THE INPUT: true; the input reads as it did. -/
def fnExactSegsFromSpec : ChangeSpec := { name := "fnExactSegsFrom", fn := fun _ => fun
  | [d1, d2] => { results := [.lit (.bool true)], args := [d1, d2] }
  | _ => none }
def fnExactSegsFromRow : OpenClaim := { program := "yticofefdbjihiaa", sum := "da7c0ce14747c09ffc6d40f0e1cde49c4ee7d94e29f9207ad6f6c597c7f7acf1", func := "loop.example/g00110/laws.FnExactSegsFrom", spec := "fnExactSegsFrom", apart := false }
def FnExactSegsFromSaid : Prop := fnExactSegsFromRow.holds Try.pinned (OpenSpec.ofChange fnExactSegsFromSpec)

/-- ITS FALSE NEIGHBOUR: 'it returns false'. Refute it at one input. -/
def fnExactSegsFromWrong : ChangeSpec := { name := "fnExactSegsFrom", fn := fun _ => fun
  | [d1, d2] => { results := [.lit (.bool false)], args := [d1, d2] }
  | _ => none }
def FnExactSegsFromWrongFalsely : Prop := fnExactSegsFromRow.holds Try.pinned (OpenSpec.ofChange fnExactSegsFromWrong)

/-- 'laws.FnExactSegsClear': WHATEVER THE INPUT: true; the input reads as it did. -/
def fnExactSegsClearSpec : ChangeSpec := { name := "fnExactSegsClear", fn := fun _ => fun
  | [d1, d2] => { results := [.lit (.bool true)], args := [d1, d2] }
  | _ => none }
def fnExactSegsClearRow : OpenClaim := { program := "yticofefdbjihiaa", sum := "da7c0ce14747c09ffc6d40f0e1cde49c4ee7d94e29f9207ad6f6c597c7f7acf1", func := "loop.example/g00110/laws.FnExactSegsClear", spec := "fnExactSegsClear", apart := false }
def FnExactSegsClearSaid : Prop := fnExactSegsClearRow.holds Try.pinned (OpenSpec.ofChange fnExactSegsClearSpec)

/-- ITS FALSE NEIGHBOUR: 'it returns false'. Refute it at one input. -/
def fnExactSegsClearWrong : ChangeSpec := { name := "fnExactSegsClear", fn := fun _ => fun
  | [d1, d2] => { results := [.lit (.bool false)], args := [d1, d2] }
  | _ => none }
def FnExactSegsClearWrongFalsely : Prop := fnExactSegsClearRow.holds Try.pinned (OpenSpec.ofChange fnExactSegsClearWrong)

/- THE SECOND FORM. 'bulk': how many values and letters a reading holds, each counted each time it is reached (what is shared counts as often as it is met; a slice's spare places count too). A statement '..UptoSaid' is the law's where the arguments, and the package variables that the reading takes, are together of bulk at most 1048576: NARROWER than '..Said'. Prove '..Said' where nothing that the law and all that it calls make is longer than what came in: it says more and counts as full. Else prove '..UptoSaid'. A law counts once. -/
mutual
def uptoBulk {H : Type} : DataW H → Nat
  | .lit (.string bytes) => bytes.length + 1
  | .lit _ => 1
  | .nil => 1
  | .ptr d => uptoBulk d + 1
  | .slice elems spare => uptoBulkAll elems + uptoBulkAll spare + 1
  | .agg parts => uptoBulkAll parts + 1
  | .iface _ d => uptoBulk d + 1
  | .map entries => uptoBulkEntries entries + 1
  | .held _ => 1
def uptoBulkAll {H : Type} : List (DataW H) → Nat
  | [] => 0
  | d :: r => uptoBulk d + uptoBulkAll r
def uptoBulkEntries {H : Type} : List (Lit × DataW H) → Nat
  | [] => 0
  | x :: r => uptoBulkEntry x + uptoBulkEntries r
def uptoBulkEntry {H : Type} : Lit × DataW H → Nat
  | (.string bytes, d) => bytes.length + uptoBulk d + 1
  | (_, d) => uptoBulk d + 1
 end
def uptoSmall : (H : Type) → List (DataW H) → Bool := fun _ ds => decide (uptoBulkAll ds ≤ 1048576)
def OpenSpec.upto (s : _root_.Go.ChangeSpec) : _root_.Go.OpenSpec := { _root_.Go.OpenSpec.ofChange s with cond := some uptoSmall }

/-- 'laws.FnExactSegRead', WHERE WHAT IT READS IS OF BULK AT MOST 1048576: true; the input reads as it did. -/
def fnExactSegReadUptoRow : OpenClaim := { program := "yticofefdbjihiaa", sum := "da7c0ce14747c09ffc6d40f0e1cde49c4ee7d94e29f9207ad6f6c597c7f7acf1", func := "loop.example/g00110/laws.FnExactSegRead", spec := "fnExactSegRead", apart := false, narrowed := true }
def FnExactSegReadUptoSaid : Prop := fnExactSegReadUptoRow.holds Try.pinned (OpenSpec.upto fnExactSegReadSpec)

/-- 'laws.FnExactSegAdd', WHERE WHAT IT READS IS OF BULK AT MOST 1048576: true; the input reads as it did. -/
def fnExactSegAddUptoRow : OpenClaim := { program := "yticofefdbjihiaa", sum := "da7c0ce14747c09ffc6d40f0e1cde49c4ee7d94e29f9207ad6f6c597c7f7acf1", func := "loop.example/g00110/laws.FnExactSegAdd", spec := "fnExactSegAdd", apart := false, narrowed := true }
def FnExactSegAddUptoSaid : Prop := fnExactSegAddUptoRow.holds Try.pinned (OpenSpec.upto fnExactSegAddSpec)

/-- 'laws.FnExactSegLate', WHERE WHAT IT READS IS OF BULK AT MOST 1048576: true; the input reads as it did. -/
def fnExactSegLateUptoRow : OpenClaim := { program := "yticofefdbjihiaa", sum := "da7c0ce14747c09ffc6d40f0e1cde49c4ee7d94e29f9207ad6f6c597c7f7acf1", func := "loop.example/g00110/laws.FnExactSegLate", spec := "fnExactSegLate", apart := false, narrowed := true }
def FnExactSegLateUptoSaid : Prop := fnExactSegLateUptoRow.holds Try.pinned (OpenSpec.upto fnExactSegLateSpec)

/-- 'laws.FnExactSegMend', WHERE WHAT IT READS IS OF BULK AT MOST 1048576: true; the input reads as it did. -/
def fnExactSegMendUptoRow : OpenClaim := { program := "yticofefdbjihiaa", sum := "da7c0ce14747c09ffc6d40f0e1cde49c4ee7d94e29f9207ad6f6c597c7f7acf1", func := "loop.example/g00110/laws.FnExactSegMend", spec := "fnExactSegMend", apart := false, narrowed := true }
def FnExactSegMendUptoSaid : Prop := fnExactSegMendUptoRow.holds Try.pinned (OpenSpec.upto fnExactSegMendSpec)

/-- 'laws.FnExactSegsFrom', WHERE WHAT IT READS IS OF BULK AT MOST 1048576: true; the input reads as it did. -/
def fnExactSegsFromUptoRow : OpenClaim := { program := "yticofefdbjihiaa", sum := "da7c0ce14747c09ffc6d40f0e1cde49c4ee7d94e29f9207ad6f6c597c7f7acf1", func := "loop.example/g00110/laws.FnExactSegsFrom", spec := "fnExactSegsFrom", apart := false, narrowed := true }
def FnExactSegsFromUptoSaid : Prop := fnExactSegsFromUptoRow.holds Try.pinned (OpenSpec.upto fnExactSegsFromSpec)

/-- 'laws.FnExactSegsClear', WHERE WHAT IT READS IS OF BULK AT MOST 1048576: true; the input reads as it did. -/
def fnExactSegsClearUptoRow : OpenClaim := { program := "yticofefdbjihiaa", sum := "da7c0ce14747c09ffc6d40f0e1cde49c4ee7d94e29f9207ad6f6c597c7f7acf1", func := "loop.example/g00110/laws.FnExactSegsClear", spec := "fnExactSegsClear", apart := false, narrowed := true }
def FnExactSegsClearUptoSaid : Prop := fnExactSegsClearUptoRow.holds Try.pinned (OpenSpec.upto fnExactSegsClearSpec)

end Rows
end Go.Proofs.Yticofefdbjihiaa
