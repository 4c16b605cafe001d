/- The program's CmdArgs and CmdOk. Each kind of command is a struct of its own behind an interface; its method args tells where its fields lie. -/
import Derived.Test.YtnkbkaeafkdpiaaSCmd
import Derived.Handy
namespace Go.Proofs.Ytnkbkaeafkdpiaa.ICmd10
open Go.ChangeShapes Go.WideShapes Go.ChangeAt Go.RowKit SCmd
open Lots (Says says_of)
set_option linter.unusedVariables false
set_option linter.unusedSimpArgs false

/-- Pointers to the first n cells of a block, one behind the other. -/
def Ptr (w : World) (g p n : Nat) : Prop := ∀ i, i < n → w.cell? ⟨g, i, none⟩ = some (.pointer (some ⟨p, i, none⟩))

/-- What args answers: a list of its own, of pointers to the fields. -/
def ToldP (w : World) (p n : Nat) (e : Ending) (w' : World) : Prop := ∃ g, e = .returned (.slice (some ⟨g, 0, none⟩) n n) ∧ Ptr w' g p n ∧ (w.heap.size ≤ g ∧ g < w'.heap.size) ∧ Below w.heap.size w w'

set_option maxRecDepth 100000 in
set_option maxHeartbeats 8000000 in
theorem at_account (w : World) (p : Nat) : Calls Try.prog 84 #[.pointer (some ⟨p, 0, none⟩)] w (ToldP w p 2) := by
  go_enter Try.func84, Try.ntmps84
  go_wp2
  go_region
  go_wp2
  go_ret
  refine ⟨w.heap.size, rfl, fun i hi => ?_, ⟨by simp, by simp⟩, below_of_drew (one_more _ _)⟩
  have : i = 0 ∨ i = 1 := by omega
  rcases this with rfl | rfl
  all_goals simp

set_option maxRecDepth 100000 in
set_option maxHeartbeats 8000000 in
theorem at_instr (w : World) (p : Nat) : Calls Try.prog 85 #[.pointer (some ⟨p, 0, none⟩)] w (ToldP w p 2) := by
  go_enter Try.func85, Try.ntmps85
  go_wp2
  go_region
  go_wp2
  go_ret
  refine ⟨w.heap.size, rfl, fun i hi => ?_, ⟨by simp, by simp⟩, below_of_drew (one_more _ _)⟩
  have : i = 0 ∨ i = 1 := by omega
  rcases this with rfl | rfl
  all_goals simp

set_option maxRecDepth 100000 in
set_option maxHeartbeats 8000000 in
theorem at_issue (w : World) (p : Nat) : Calls Try.prog 86 #[.pointer (some ⟨p, 0, none⟩)] w (ToldP w p 5) := by
  go_enter Try.func86, Try.ntmps86
  go_wp2
  go_region
  go_wp2
  go_ret
  refine ⟨w.heap.size, rfl, fun i hi => ?_, ⟨by simp, by simp⟩, below_of_drew (one_more _ _)⟩
  have : i = 0 ∨ i = 1 ∨ i = 2 ∨ i = 3 ∨ i = 4 := by omega
  rcases this with rfl | rfl | rfl | rfl | rfl
  all_goals simp

set_option maxRecDepth 100000 in
set_option maxHeartbeats 8000000 in
theorem at_move (w : World) (p : Nat) : Calls Try.prog 87 #[.pointer (some ⟨p, 0, none⟩)] w (ToldP w p 5) := by
  go_enter Try.func87, Try.ntmps87
  go_wp2
  go_region
  go_wp2
  go_ret
  refine ⟨w.heap.size, rfl, fun i hi => ?_, ⟨by simp, by simp⟩, below_of_drew (one_more _ _)⟩
  have : i = 0 ∨ i = 1 ∨ i = 2 ∨ i = 3 ∨ i = 4 := by omega
  rcases this with rfl | rfl | rfl | rfl | rfl
  all_goals simp

set_option maxRecDepth 100000 in
set_option maxHeartbeats 8000000 in
theorem at_trade (w : World) (p : Nat) : Calls Try.prog 88 #[.pointer (some ⟨p, 0, none⟩)] w (ToldP w p 7) := by
  go_enter Try.func88, Try.ntmps88
  go_wp2
  go_region
  go_wp2
  go_ret
  refine ⟨w.heap.size, rfl, fun i hi => ?_, ⟨by simp, by simp⟩, below_of_drew (one_more _ _)⟩
  have : i = 0 ∨ i = 1 ∨ i = 2 ∨ i = 3 ∨ i = 4 ∨ i = 5 ∨ i = 6 := by omega
  rcases this with rfl | rfl | rfl | rfl | rfl | rfl | rfl
  all_goals simp

set_option maxRecDepth 100000 in
set_option maxHeartbeats 8000000 in
theorem at_cancel (w : World) (p : Nat) : Calls Try.prog 89 #[.pointer (some ⟨p, 0, none⟩)] w (ToldP w p 1) := by
  go_enter Try.func89, Try.ntmps89
  go_wp2
  go_ret
  refine ⟨w.heap.size, rfl, fun i hi => ?_, ⟨by simp, by simp⟩, one_more _ _⟩
  have : i = 0 := by omega
  rcases this with rfl
  all_goals simp

set_option maxRecDepth 100000 in
set_option maxHeartbeats 8000000 in
theorem at_settle (w : World) (p : Nat) : Calls Try.prog 90 #[.pointer (some ⟨p, 0, none⟩)] w (ToldP w p 2) := by
  go_enter Try.func90, Try.ntmps90
  go_wp2
  go_region
  go_wp2
  go_ret
  refine ⟨w.heap.size, rfl, fun i hi => ?_, ⟨by simp, by simp⟩, below_of_drew (one_more _ _)⟩
  have : i = 0 ∨ i = 1 := by omega
  rcases this with rfl | rfl
  all_goals simp

set_option maxRecDepth 100000 in
set_option maxHeartbeats 8000000 in
theorem at_net (w : World) (p : Nat) : Calls Try.prog 91 #[.pointer (some ⟨p, 0, none⟩)] w (ToldP w p 3) := by
  go_enter Try.func91, Try.ntmps91
  go_wp2
  go_region
  go_wp2
  go_ret
  refine ⟨w.heap.size, rfl, fun i hi => ?_, ⟨by simp, by simp⟩, below_of_drew (one_more _ _)⟩
  have : i = 0 ∨ i = 1 ∨ i = 2 := by omega
  rcases this with rfl | rfl | rfl
  all_goals simp

set_option maxRecDepth 100000 in
set_option maxHeartbeats 8000000 in
theorem at_fx (w : World) (p : Nat) : Calls Try.prog 92 #[.pointer (some ⟨p, 0, none⟩)] w (ToldP w p 7) := by
  go_enter Try.func92, Try.ntmps92
  go_wp2
  go_region
  go_wp2
  go_ret
  refine ⟨w.heap.size, rfl, fun i hi => ?_, ⟨by simp, by simp⟩, below_of_drew (one_more _ _)⟩
  have : i = 0 ∨ i = 1 ∨ i = 2 ∨ i = 3 ∨ i = 4 ∨ i = 5 ∨ i = 6 := by omega
  rcases this with rfl | rfl | rfl | rfl | rfl | rfl | rfl
  all_goals simp

set_option maxRecDepth 100000 in
set_option maxHeartbeats 8000000 in
theorem at_split (w : World) (p : Nat) : Calls Try.prog 93 #[.pointer (some ⟨p, 0, none⟩)] w (ToldP w p 4) := by
  go_enter Try.func93, Try.ntmps93
  go_wp2
  go_region
  go_wp2
  go_ret
  refine ⟨w.heap.size, rfl, fun i hi => ?_, ⟨by simp, by simp⟩, below_of_drew (one_more _ _)⟩
  have : i = 0 ∨ i = 1 ∨ i = 2 ∨ i = 3 := by omega
  rcases this with rfl | rfl | rfl | rfl
  all_goals simp

set_option maxRecDepth 100000 in
set_option maxHeartbeats 8000000 in
theorem at_pay (w : World) (p : Nat) : Calls Try.prog 94 #[.pointer (some ⟨p, 0, none⟩)] w (ToldP w p 4) := by
  go_enter Try.func94, Try.ntmps94
  go_wp2
  go_region
  go_wp2
  go_ret
  refine ⟨w.heap.size, rfl, fun i hi => ?_, ⟨by simp, by simp⟩, below_of_drew (one_more _ _)⟩
  have : i = 0 ∨ i = 1 ∨ i = 2 ∨ i = 3 := by omega
  rcases this with rfl | rfl | rfl | rfl
  all_goals simp

theorem no_args {k : Int} (h : k < 1 ∨ 11 < k) : nArgs k = -1 := by
  unfold nArgs
  repeat' split
  all_goals omega

set_option maxRecDepth 100000 in
set_option maxHeartbeats 8000000 in
theorem iNone (w : World) (k : Int) (h : k < 1 ∨ 11 < k) : Calls Try.prog 57 #[.int .i64 k] w fun e w' => e = .returned (.tuple #[.nilIface, .bool false]) ∧ w' = w := by
  have h1 : (k == 1) = false := by simp; omega
  have h2 : (k == 2) = false := by simp; omega
  have h3 : (k == 3) = false := by simp; omega
  have h4 : (k == 4) = false := by simp; omega
  have h5 : (k == 5) = false := by simp; omega
  have h6 : (k == 6) = false := by simp; omega
  have h7 : (k == 7) = false := by simp; omega
  have h8 : (k == 8) = false := by simp; omega
  have h9 : (k == 9) = false := by simp; omega
  have h10 : (k == 10) = false := by simp; omega
  have h11 : (k == 11) = false := by simp; omega
  clear h
  go_enter Try.func57, Try.ntmps57
  go_wp2
  go_ret2
  exact ⟨rfl, rfl⟩

set_option maxRecDepth 100000 in
set_option maxHeartbeats 8000000 in
theorem new_account (w : World) : Calls Try.prog 57 #[.int .i64 1] w fun e w' => e = .returned (.tuple #[.iface 94 (.pointer (some ⟨w.heap.size, 0, none⟩)), .bool true]) ∧ w' = w.alloc (.cells #[.int .i64 0, .int .i64 0] 96) := by
  go_enter Try.func57, Try.ntmps57
  go_wp2
  go_ret2
  exact ⟨rfl, rfl⟩

set_option maxRecDepth 100000 in
set_option maxHeartbeats 8000000 in
theorem new_instr (w : World) : Calls Try.prog 57 #[.int .i64 2] w fun e w' => e = .returned (.tuple #[.iface 97 (.pointer (some ⟨w.heap.size, 0, none⟩)), .bool true]) ∧ w' = w.alloc (.cells #[.int .i64 0, .int .i64 0] 98) := by
  go_enter Try.func57, Try.ntmps57
  go_wp2
  go_ret2
  exact ⟨rfl, rfl⟩

set_option maxRecDepth 100000 in
set_option maxHeartbeats 8000000 in
theorem new_issue (w : World) : Calls Try.prog 57 #[.int .i64 3] w fun e w' => e = .returned (.tuple #[.iface 99 (.pointer (some ⟨w.heap.size, 0, none⟩)), .bool true]) ∧ w' = w.alloc (.cells #[.int .i64 0, .int .i64 0, .int .i64 0, .int .i64 0, .int .i64 0] 101) := by
  go_enter Try.func57, Try.ntmps57
  go_wp2
  go_ret2
  exact ⟨rfl, rfl⟩

set_option maxRecDepth 100000 in
set_option maxHeartbeats 8000000 in
theorem new_move (w : World) : Calls Try.prog 57 #[.int .i64 4] w fun e w' => e = .returned (.tuple #[.iface 102 (.pointer (some ⟨w.heap.size, 0, none⟩)), .bool true]) ∧ w' = w.alloc (.cells #[.int .i64 0, .int .i64 0, .int .i64 0, .int .i64 0, .int .i64 0] 104) := by
  go_enter Try.func57, Try.ntmps57
  go_wp2
  go_ret2
  exact ⟨rfl, rfl⟩

set_option maxRecDepth 100000 in
set_option maxHeartbeats 8000000 in
theorem new_trade (w : World) : Calls Try.prog 57 #[.int .i64 5] w fun e w' => e = .returned (.tuple #[.iface 105 (.pointer (some ⟨w.heap.size, 0, none⟩)), .bool true]) ∧ w' = w.alloc (.cells #[.int .i64 0, .int .i64 0, .int .i64 0, .int .i64 0, .int .i64 0, .int .i64 0, .int .i64 0] 107) := by
  go_enter Try.func57, Try.ntmps57
  go_wp2
  go_ret2
  exact ⟨rfl, rfl⟩

set_option maxRecDepth 100000 in
set_option maxHeartbeats 8000000 in
theorem new_cancel (w : World) : Calls Try.prog 57 #[.int .i64 6] w fun e w' => e = .returned (.tuple #[.iface 108 (.pointer (some ⟨w.heap.size, 0, none⟩)), .bool true]) ∧ w' = w.alloc (.cells #[.int .i64 0] 110) := by
  go_enter Try.func57, Try.ntmps57
  go_wp2
  go_ret2
  exact ⟨rfl, rfl⟩

set_option maxRecDepth 100000 in
set_option maxHeartbeats 8000000 in
theorem new_settle (w : World) : Calls Try.prog 57 #[.int .i64 7] w fun e w' => e = .returned (.tuple #[.iface 111 (.pointer (some ⟨w.heap.size, 0, none⟩)), .bool true]) ∧ w' = w.alloc (.cells #[.int .i64 0, .int .i64 0] 113) := by
  go_enter Try.func57, Try.ntmps57
  go_wp2
  go_ret2
  exact ⟨rfl, rfl⟩

set_option maxRecDepth 100000 in
set_option maxHeartbeats 8000000 in
theorem new_net (w : World) : Calls Try.prog 57 #[.int .i64 8] w fun e w' => e = .returned (.tuple #[.iface 114 (.pointer (some ⟨w.heap.size, 0, none⟩)), .bool true]) ∧ w' = w.alloc (.cells #[.int .i64 0, .int .i64 0, .int .i64 0] 116) := by
  go_enter Try.func57, Try.ntmps57
  go_wp2
  go_ret2
  exact ⟨rfl, rfl⟩

set_option maxRecDepth 100000 in
set_option maxHeartbeats 8000000 in
theorem new_fx (w : World) : Calls Try.prog 57 #[.int .i64 9] w fun e w' => e = .returned (.tuple #[.iface 117 (.pointer (some ⟨w.heap.size, 0, none⟩)), .bool true]) ∧ w' = w.alloc (.cells #[.int .i64 0, .int .i64 0, .int .i64 0, .int .i64 0, .int .i64 0, .int .i64 0, .int .i64 0] 119) := by
  go_enter Try.func57, Try.ntmps57
  go_wp2
  go_ret2
  exact ⟨rfl, rfl⟩

set_option maxRecDepth 100000 in
set_option maxHeartbeats 8000000 in
theorem new_split (w : World) : Calls Try.prog 57 #[.int .i64 10] w fun e w' => e = .returned (.tuple #[.iface 120 (.pointer (some ⟨w.heap.size, 0, none⟩)), .bool true]) ∧ w' = w.alloc (.cells #[.int .i64 0, .int .i64 0, .int .i64 0, .int .i64 0] 122) := by
  go_enter Try.func57, Try.ntmps57
  go_wp2
  go_ret2
  exact ⟨rfl, rfl⟩

set_option maxRecDepth 100000 in
set_option maxHeartbeats 8000000 in
theorem new_pay (w : World) : Calls Try.prog 57 #[.int .i64 11] w fun e w' => e = .returned (.tuple #[.iface 123 (.pointer (some ⟨w.heap.size, 0, none⟩)), .bool true]) ∧ w' = w.alloc (.cells #[.int .i64 0, .int .i64 0, .int .i64 0, .int .i64 0] 125) := by
  go_enter Try.func57, Try.ntmps57
  go_wp2
  go_ret2
  exact ⟨rfl, rfl⟩

end Go.Proofs.Ytnkbkaeafkdpiaa.ICmd10
