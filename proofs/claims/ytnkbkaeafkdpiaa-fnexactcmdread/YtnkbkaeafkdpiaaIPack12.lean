/- Commands and replies as bytes: the program's CmdPack and ReplyPack. -/
import Derived.Test.YtnkbkaeafkdpiaaIMsg12
namespace Go.Proofs.Ytnkbkaeafkdpiaa.IPack12
open Go.ChangeShapes Go.WideShapes Go.ChangeAt Go.RowKit SBytes SPut11 SPuts11 SPack12 IMsg12 SPackC12
open SCmd (CmOk nArgs Cb)
open Lots (Says says_of)
set_option linter.unusedVariables false
set_option linter.unusedSimpArgs false

theorem me_fitsR (v : Value) (w : World) : (Go.method 245 25 v "loop.example/g00110/impl.fits").run Try.prog w = .ok (76, v) w := by kernel_rfl
theorem me_numsR (v : Value) (w : World) : (Go.method 245 25 v "loop.example/g00110/impl.numbers").run Try.prog w = .ok (77, v) w := by kernel_rfl
theorem me_fitsC (v : Value) (w : World) : (Go.method 245 37 v "loop.example/g00110/impl.fits").run Try.prog w = .ok (79, v) w := by kernel_rfl
theorem me_numsC (v : Value) (w : World) : (Go.method 245 37 v "loop.example/g00110/impl.numbers").run Try.prog w = .ok (80, v) w := by kernel_rfl
theorem en_fitsR (args : Array Value) (u : World) : (callFunc 76 args).run Try.prog u = .ok (.enter 76 args) u := ICall10.enters Try.func76 (by kernel_rfl) rfl _ _
theorem en_numsR (args : Array Value) (u : World) : (callFunc 77 args).run Try.prog u = .ok (.enter 77 args) u := ICall10.enters Try.func77 (by kernel_rfl) rfl _ _
theorem en_fitsC (args : Array Value) (u : World) : (callFunc 79 args).run Try.prog u = .ok (.enter 79 args) u := ICall10.enters Try.func79 (by kernel_rfl) rfl _ _
theorem en_numsC (args : Array Value) (u : World) : (callFunc 80 args).run Try.prog u = .ok (.enter 80 args) u := ICall10.enters Try.func80 (by kernel_rfl) rfl _ _

theorem nums_two {c v : Int} (h : RpOk c v) : numsB [c, v + 1000000000000000] = packR c v := by
  obtain ⟨⟨c0, c8⟩, v0, v1⟩ := h
  unfold numsB packR
  rw [if_pos (show RpOk c v from ⟨⟨c0, c8⟩, v0, v1⟩), if_pos]
  · simp
  · intro i hi
    have : i = 0 ∨ i = 1 := by simp at hi; omega
    rcases this with rfl | rfl <;> simp <;> omega

theorem args_few {k : Int} {xs : List Int} (h : CmOk k xs) : xs.length ≤ 7 := by
  have a := h.1
  unfold nArgs at a
  repeat' split at a
  all_goals omega

theorem nums_cmd {k : Int} {xs : List Int} (h : CmOk k xs) : numsB (k :: xs) = packC true k xs := by
  have hk := kind_in h
  have hx : ∀ i, i < xs.length → 0 ≤ xs.getD i 0 := fun i hi => (h.2 i hi).1
  unfold packC numsB
  rw [if_pos rfl, if_pos hx, if_pos]
  · simp
  · intro i hi
    cases i with
    | zero => simp; omega
    | succ j => simpa using hx j (by simpa using hi)

set_option maxRecDepth 100000 in
theorem packedR (w : World) (c v : Int) :
    Calls Try.prog 33 #[.iface 25 (.agg #[.int .i64 c, .int .i64 v])] w fun e w' => ∃ a k, e = .returned (.tuple #[.slice a (packR c v).length k, .bool (decide (RpOk c v))]) ∧ VOB.Ob w' w.heap.size a (packR c v).length k (packR c v) ∧ Below w.heap.size w w' := by
  have m1 := me_fitsR
  have m2 := en_fitsR
  have m3 := me_numsR
  have m4 := en_numsR
  by_cases ok : RpOk c v
  case neg =>
    have FR := hide (fitsR w c v)
    rw [show decide (RpOk c v) = false by simpa using ok] at FR
    have e : packR c v = [] := if_neg ok
    rw [e, show decide (RpOk c v) = false by simpa using ok]
    clear e ok
    go_enter Try.func33, Try.ntmps33
    go_wp2_with fail
    refine (unhide FR).mono ?_
    rintro e u1 ⟨rfl, bb⟩
    have B1 := hide bb
    have O1 := hide (lit0 u1 w.heap.size bb.size rfl)
    clear bb
    go_wp2
    go_ret2
    exact ⟨_, 0, rfl, VOB.Ob.of (unhide O1), (unhide B1).alloc (unhide B1).size _⟩
  have FR := hide (fitsR w c v)
  rw [show decide (RpOk c v) = true by simpa using ok] at FR
  have OK := hide ok
  rw [show decide (RpOk c v) = true by simpa using ok, ← nums_two ok]
  clear ok
  go_enter Try.func33, Try.ntmps33
  go_wp2_with fail
  refine (unhide FR).mono ?_
  rintro e u1 ⟨rfl, bb⟩
  have B1 := hide bb
  clear bb
  go_wp2_with fail
  refine (numsR u1 c v (unhide OK)).mono ?_
  rintro e u2 ⟨g2, k2, rfl, o2, bb⟩
  have B2 := hide ((unhide B1).trans (bb.mono (unhide B1).size))
  have O2 := hide o2
  clear o2 bb
  go_wp2_with fail
  refine (IPuts11.iPutNums u2 g2 k2 [c, v + 1000000000000000] (by simp) (unhide O2).lt.2 (unhide O2).at (fun i hi => by
    obtain ⟨⟨c0, c8⟩, v0, v1⟩ := unhide OK
    have : i = 0 ∨ i = 1 := by simp at hi; omega
    rcases this with rfl | rfl <;> simp <;> omega)).mono ?_
  rintro e u3 ⟨a3, k3, rfl, o3, bb⟩
  have B3 := hide ((unhide B2).trans (bb.mono (unhide B2).size))
  have O3 := hide (o3.mono (unhide B2).size)
  clear bb o3
  go_wp2
  go_ret2
  exact ⟨a3, k3, rfl, unhide O3, unhide B3⟩

set_option maxRecDepth 100000 in
theorem iReplyPack (w : World) (c v : Int) :
    Calls Try.prog 10 #[.agg #[.int .i64 c, .int .i64 v]] w fun e w' => ∃ a k, e = .returned (.tuple #[.slice a (packR c v).length k, .bool (decide (RpOk c v))]) ∧ VOB.Ob w' w.heap.size a (packR c v).length k (packR c v) ∧ Below w.heap.size w w' := by
  have B0 := hide (one_more w (.cells #[.int .i64 c, .int .i64 v] 25))
  have PR := hide (fun u => packedR u c v)
  generalize decide (RpOk c v) = b at *
  generalize packR c v = l at *
  go_enter Try.func10, Try.ntmps10
  go_wp2_with fail
  refine ((unhide PR) _).mono ?_
  rintro e u3 ⟨a3, k3, rfl, o3, bb⟩
  have B3 := hide ((unhide B0).trans (bb.mono (unhide B0).size))
  have O3 := hide (o3.mono (unhide B0).size)
  clear bb o3
  go_wp2
  go_ret2
  exact ⟨a3, k3, rfl, unhide O3, unhide B3⟩

end Go.Proofs.Ytnkbkaeafkdpiaa.IPack12
