/- The program's CmdArgs and CmdOk. Each kind of command is a struct of its own behind an interface; its method args tells where its fields lie. -/
import Derived.Test.YtophnnmbgpinfaaSCmd
import Derived.Handy
namespace Go.Proofs.Ytophnnmbgpinfaa.ICmd10
open Go.ChangeShapes Go.WideShapes Go.ChangeAt Go.RowKit SCmd
open Lots (Says says_of)
set_option linter.unusedVariables false
set_option linter.unusedSimpArgs false

/-- Pointers to the first n cells of a block, one behind the other. -/
def Ptr (w : World) (g p n : Nat) : Prop := ∀ i, i < n → w.cell? ⟨g, i, none⟩ = some (.pointer (some ⟨p, i, none⟩))

/-- What args answers: a list of its own, of pointers to the fields. -/
def ToldP (w : World) (p n : Nat) (e : Ending) (w' : World) : Prop := ∃ g, e = .returned (.slice (some ⟨g, 0, none⟩) n n) ∧ Ptr w' g p n ∧ (w.heap.size ≤ g ∧ g < w'.heap.size) ∧ Below w.heap.size w w'

set_option maxRecDepth 100000 in
set_option maxHeartbeats 8000000 in
theorem at_account (w : World) (p : Nat) : Calls Try.prog 74 #[.pointer (some ⟨p, 0, none⟩)] w (ToldP w p 2) := by
  go_enter Try.func74, Try.ntmps74
  go_wp2
  go_region
  go_wp2
  go_ret
  refine ⟨w.heap.size, rfl, fun i hi => ?_, ⟨by simp, by simp⟩, below_of_drew (one_more _ _)⟩
  have : i = 0 ∨ i = 1 := by omega
  rcases this with rfl | rfl
  all_goals simp

set_option maxRecDepth 100000 in
set_option maxHeartbeats 8000000 in
theorem at_instr (w : World) (p : Nat) : Calls Try.prog 75 #[.pointer (some ⟨p, 0, none⟩)] w (ToldP w p 2) := by
  go_enter Try.func75, Try.ntmps75
  go_wp2
  go_region
  go_wp2
  go_ret
  refine ⟨w.heap.size, rfl, fun i hi => ?_, ⟨by simp, by simp⟩, below_of_drew (one_more _ _)⟩
  have : i = 0 ∨ i = 1 := by omega
  rcases this with rfl | rfl
  all_goals simp

set_option maxRecDepth 100000 in
set_option maxHeartbeats 8000000 in
theorem at_issue (w : World) (p : Nat) : Calls Try.prog 76 #[.pointer (some ⟨p, 0, none⟩)] w (ToldP w p 5) := by
  go_enter Try.func76, Try.ntmps76
  go_wp2
  go_region
  go_wp2
  go_ret
  refine ⟨w.heap.size, rfl, fun i hi => ?_, ⟨by simp, by simp⟩, below_of_drew (one_more _ _)⟩
  have : i = 0 ∨ i = 1 ∨ i = 2 ∨ i = 3 ∨ i = 4 := by omega
  rcases this with rfl | rfl | rfl | rfl | rfl
  all_goals simp

set_option maxRecDepth 100000 in
set_option maxHeartbeats 8000000 in
theorem at_move (w : World) (p : Nat) : Calls Try.prog 77 #[.pointer (some ⟨p, 0, none⟩)] w (ToldP w p 5) := by
  go_enter Try.func77, Try.ntmps77
  go_wp2
  go_region
  go_wp2
  go_ret
  refine ⟨w.heap.size, rfl, fun i hi => ?_, ⟨by simp, by simp⟩, below_of_drew (one_more _ _)⟩
  have : i = 0 ∨ i = 1 ∨ i = 2 ∨ i = 3 ∨ i = 4 := by omega
  rcases this with rfl | rfl | rfl | rfl | rfl
  all_goals simp

set_option maxRecDepth 100000 in
set_option maxHeartbeats 8000000 in
theorem at_trade (w : World) (p : Nat) : Calls Try.prog 78 #[.pointer (some ⟨p, 0, none⟩)] w (ToldP w p 7) := by
  go_enter Try.func78, Try.ntmps78
  go_wp2
  go_region
  go_wp2
  go_ret
  refine ⟨w.heap.size, rfl, fun i hi => ?_, ⟨by simp, by simp⟩, below_of_drew (one_more _ _)⟩
  have : i = 0 ∨ i = 1 ∨ i = 2 ∨ i = 3 ∨ i = 4 ∨ i = 5 ∨ i = 6 := by omega
  rcases this with rfl | rfl | rfl | rfl | rfl | rfl | rfl
  all_goals simp

set_option maxRecDepth 100000 in
set_option maxHeartbeats 8000000 in
theorem at_cancel (w : World) (p : Nat) : Calls Try.prog 79 #[.pointer (some ⟨p, 0, none⟩)] w (ToldP w p 1) := by
  go_enter Try.func79, Try.ntmps79
  go_wp2
  go_ret
  refine ⟨w.heap.size, rfl, fun i hi => ?_, ⟨by simp, by simp⟩, one_more _ _⟩
  have : i = 0 := by omega
  rcases this with rfl
  all_goals simp

set_option maxRecDepth 100000 in
set_option maxHeartbeats 8000000 in
theorem at_settle (w : World) (p : Nat) : Calls Try.prog 80 #[.pointer (some ⟨p, 0, none⟩)] w (ToldP w p 2) := by
  go_enter Try.func80, Try.ntmps80
  go_wp2
  go_region
  go_wp2
  go_ret
  refine ⟨w.heap.size, rfl, fun i hi => ?_, ⟨by simp, by simp⟩, below_of_drew (one_more _ _)⟩
  have : i = 0 ∨ i = 1 := by omega
  rcases this with rfl | rfl
  all_goals simp

set_option maxRecDepth 100000 in
set_option maxHeartbeats 8000000 in
theorem at_net (w : World) (p : Nat) : Calls Try.prog 81 #[.pointer (some ⟨p, 0, none⟩)] w (ToldP w p 3) := by
  go_enter Try.func81, Try.ntmps81
  go_wp2
  go_region
  go_wp2
  go_ret
  refine ⟨w.heap.size, rfl, fun i hi => ?_, ⟨by simp, by simp⟩, below_of_drew (one_more _ _)⟩
  have : i = 0 ∨ i = 1 ∨ i = 2 := by omega
  rcases this with rfl | rfl | rfl
  all_goals simp

set_option maxRecDepth 100000 in
set_option maxHeartbeats 8000000 in
theorem at_fx (w : World) (p : Nat) : Calls Try.prog 82 #[.pointer (some ⟨p, 0, none⟩)] w (ToldP w p 7) := by
  go_enter Try.func82, Try.ntmps82
  go_wp2
  go_region
  go_wp2
  go_ret
  refine ⟨w.heap.size, rfl, fun i hi => ?_, ⟨by simp, by simp⟩, below_of_drew (one_more _ _)⟩
  have : i = 0 ∨ i = 1 ∨ i = 2 ∨ i = 3 ∨ i = 4 ∨ i = 5 ∨ i = 6 := by omega
  rcases this with rfl | rfl | rfl | rfl | rfl | rfl | rfl
  all_goals simp

set_option maxRecDepth 100000 in
set_option maxHeartbeats 8000000 in
theorem at_split (w : World) (p : Nat) : Calls Try.prog 83 #[.pointer (some ⟨p, 0, none⟩)] w (ToldP w p 4) := by
  go_enter Try.func83, Try.ntmps83
  go_wp2
  go_region
  go_wp2
  go_ret
  refine ⟨w.heap.size, rfl, fun i hi => ?_, ⟨by simp, by simp⟩, below_of_drew (one_more _ _)⟩
  have : i = 0 ∨ i = 1 ∨ i = 2 ∨ i = 3 := by omega
  rcases this with rfl | rfl | rfl | rfl
  all_goals simp

set_option maxRecDepth 100000 in
set_option maxHeartbeats 8000000 in
theorem at_pay (w : World) (p : Nat) : Calls Try.prog 84 #[.pointer (some ⟨p, 0, none⟩)] w (ToldP w p 4) := by
  go_enter Try.func84, Try.ntmps84
  go_wp2
  go_region
  go_wp2
  go_ret
  refine ⟨w.heap.size, rfl, fun i hi => ?_, ⟨by simp, by simp⟩, below_of_drew (one_more _ _)⟩
  have : i = 0 ∨ i = 1 ∨ i = 2 ∨ i = 3 := by omega
  rcases this with rfl | rfl | rfl | rfl
  all_goals simp

theorem no_args {k : Int} (h : k < 1 ∨ 11 < k) : nArgs k = -1 := by
  unfold nArgs
  repeat' split
  all_goals omega

set_option maxRecDepth 100000 in
set_option maxHeartbeats 8000000 in
theorem iNone (w : World) (k : Int) (h : k < 1 ∨ 11 < k) : Calls Try.prog 19 #[.int .i64 k] w fun e w' => e = .returned (.tuple #[.nilIface, .bool false]) ∧ w' = w := by
  have h1 : (k == 1) = false := by simp; omega
  have h2 : (k == 2) = false := by simp; omega
  have h3 : (k == 3) = false := by simp; omega
  have h4 : (k == 4) = false := by simp; omega
  have h5 : (k == 5) = false := by simp; omega
  have h6 : (k == 6) = false := by simp; omega
  have h7 : (k == 7) = false := by simp; omega
  have h8 : (k == 8) = false := by simp; omega
  have h9 : (k == 9) = false := by simp; omega
  have h10 : (k == 10) = false := by simp; omega
  have h11 : (k == 11) = false := by simp; omega
  clear h
  go_enter Try.func19, Try.ntmps19
  go_wp2
  go_ret2
  exact ⟨rfl, rfl⟩

set_option maxRecDepth 100000 in
set_option maxHeartbeats 8000000 in
theorem new_account (w : World) : Calls Try.prog 19 #[.int .i64 1] w fun e w' => e = .returned (.tuple #[.iface 87 (.pointer (some ⟨w.heap.size, 0, none⟩)), .bool true]) ∧ w' = w.alloc (.cells #[.int .i64 0, .int .i64 0] 89) := by
  go_enter Try.func19, Try.ntmps19
  go_wp2
  go_ret2
  exact ⟨rfl, rfl⟩

set_option maxRecDepth 100000 in
set_option maxHeartbeats 8000000 in
theorem new_instr (w : World) : Calls Try.prog 19 #[.int .i64 2] w fun e w' => e = .returned (.tuple #[.iface 90 (.pointer (some ⟨w.heap.size, 0, none⟩)), .bool true]) ∧ w' = w.alloc (.cells #[.int .i64 0, .int .i64 0] 91) := by
  go_enter Try.func19, Try.ntmps19
  go_wp2
  go_ret2
  exact ⟨rfl, rfl⟩

set_option maxRecDepth 100000 in
set_option maxHeartbeats 8000000 in
theorem new_issue (w : World) : Calls Try.prog 19 #[.int .i64 3] w fun e w' => e = .returned (.tuple #[.iface 92 (.pointer (some ⟨w.heap.size, 0, none⟩)), .bool true]) ∧ w' = w.alloc (.cells #[.int .i64 0, .int .i64 0, .int .i64 0, .int .i64 0, .int .i64 0] 94) := by
  go_enter Try.func19, Try.ntmps19
  go_wp2
  go_ret2
  exact ⟨rfl, rfl⟩

set_option maxRecDepth 100000 in
set_option maxHeartbeats 8000000 in
theorem new_move (w : World) : Calls Try.prog 19 #[.int .i64 4] w fun e w' => e = .returned (.tuple #[.iface 95 (.pointer (some ⟨w.heap.size, 0, none⟩)), .bool true]) ∧ w' = w.alloc (.cells #[.int .i64 0, .int .i64 0, .int .i64 0, .int .i64 0, .int .i64 0] 97) := by
  go_enter Try.func19, Try.ntmps19
  go_wp2
  go_ret2
  exact ⟨rfl, rfl⟩

set_option maxRecDepth 100000 in
set_option maxHeartbeats 8000000 in
theorem new_trade (w : World) : Calls Try.prog 19 #[.int .i64 5] w fun e w' => e = .returned (.tuple #[.iface 98 (.pointer (some ⟨w.heap.size, 0, none⟩)), .bool true]) ∧ w' = w.alloc (.cells #[.int .i64 0, .int .i64 0, .int .i64 0, .int .i64 0, .int .i64 0, .int .i64 0, .int .i64 0] 100) := by
  go_enter Try.func19, Try.ntmps19
  go_wp2
  go_ret2
  exact ⟨rfl, rfl⟩

set_option maxRecDepth 100000 in
set_option maxHeartbeats 8000000 in
theorem new_cancel (w : World) : Calls Try.prog 19 #[.int .i64 6] w fun e w' => e = .returned (.tuple #[.iface 101 (.pointer (some ⟨w.heap.size, 0, none⟩)), .bool true]) ∧ w' = w.alloc (.cells #[.int .i64 0] 103) := by
  go_enter Try.func19, Try.ntmps19
  go_wp2
  go_ret2
  exact ⟨rfl, rfl⟩

set_option maxRecDepth 100000 in
set_option maxHeartbeats 8000000 in
theorem new_settle (w : World) : Calls Try.prog 19 #[.int .i64 7] w fun e w' => e = .returned (.tuple #[.iface 104 (.pointer (some ⟨w.heap.size, 0, none⟩)), .bool true]) ∧ w' = w.alloc (.cells #[.int .i64 0, .int .i64 0] 106) := by
  go_enter Try.func19, Try.ntmps19
  go_wp2
  go_ret2
  exact ⟨rfl, rfl⟩

set_option maxRecDepth 100000 in
set_option maxHeartbeats 8000000 in
theorem new_net (w : World) : Calls Try.prog 19 #[.int .i64 8] w fun e w' => e = .returned (.tuple #[.iface 107 (.pointer (some ⟨w.heap.size, 0, none⟩)), .bool true]) ∧ w' = w.alloc (.cells #[.int .i64 0, .int .i64 0, .int .i64 0] 109) := by
  go_enter Try.func19, Try.ntmps19
  go_wp2
  go_ret2
  exact ⟨rfl, rfl⟩

set_option maxRecDepth 100000 in
set_option maxHeartbeats 8000000 in
theorem new_fx (w : World) : Calls Try.prog 19 #[.int .i64 9] w fun e w' => e = .returned (.tuple #[.iface 110 (.pointer (some ⟨w.heap.size, 0, none⟩)), .bool true]) ∧ w' = w.alloc (.cells #[.int .i64 0, .int .i64 0, .int .i64 0, .int .i64 0, .int .i64 0, .int .i64 0, .int .i64 0] 112) := by
  go_enter Try.func19, Try.ntmps19
  go_wp2
  go_ret2
  exact ⟨rfl, rfl⟩

set_option maxRecDepth 100000 in
set_option maxHeartbeats 8000000 in
theorem new_split (w : World) : Calls Try.prog 19 #[.int .i64 10] w fun e w' => e = .returned (.tuple #[.iface 113 (.pointer (some ⟨w.heap.size, 0, none⟩)), .bool true]) ∧ w' = w.alloc (.cells #[.int .i64 0, .int .i64 0, .int .i64 0, .int .i64 0] 115) := by
  go_enter Try.func19, Try.ntmps19
  go_wp2
  go_ret2
  exact ⟨rfl, rfl⟩

set_option maxRecDepth 100000 in
set_option maxHeartbeats 8000000 in
theorem new_pay (w : World) : Calls Try.prog 19 #[.int .i64 11] w fun e w' => e = .returned (.tuple #[.iface 116 (.pointer (some ⟨w.heap.size, 0, none⟩)), .bool true]) ∧ w' = w.alloc (.cells #[.int .i64 0, .int .i64 0, .int .i64 0, .int .i64 0] 118) := by
  go_enter Try.func19, Try.ntmps19
  go_wp2
  go_ret2
  exact ⟨rfl, rfl⟩

set_option maxRecDepth 100000 in
set_option maxHeartbeats 8000000 in
theorem iArgs (w : World) (k : Int) : Calls Try.prog 7 #[.int .i64 k] w fun e w' => e = .returned (.int .i64 (nArgs k)) ∧ Below w.heap.size w w' := by
  by_cases h0 : k < 1 ∨ 11 < k
  · rw [no_args h0]
    go_enter Try.func7, Try.ntmps7
    go_wp2_with fail
    refine (iNone _ k h0).mono ?_
    rintro e u ⟨rfl, rfl⟩
    go_wp2
    go_ret
    exact ⟨rfl, Below.refl _ _⟩
  have : k = 1 ∨ k = 2 ∨ k = 3 ∨ k = 4 ∨ k = 5 ∨ k = 6 ∨ k = 7 ∨ k = 8 ∨ k = 9 ∨ k = 10 ∨ k = 11 := by omega
  clear h0
  rcases this with rfl | rfl | rfl | rfl | rfl | rfl | rfl | rfl | rfl | rfl | rfl
  · go_enter Try.func7, Try.ntmps7
    go_wp2_with fail
    refine (new_account _).mono ?_
    rintro e u ⟨rfl, rfl⟩
    go_wp2_with fail
    refine (at_account _ w.heap.size).mono ?_
    rintro e u ⟨g, rfl, hp, hg, bb⟩
    have B := hide ((one_more _ _).trans (bb.mono (by simp)))
    clear hp hg bb
    go_wp2
    go_ret
    exact ⟨rfl, unhide B⟩
  · go_enter Try.func7, Try.ntmps7
    go_wp2_with fail
    refine (new_instr _).mono ?_
    rintro e u ⟨rfl, rfl⟩
    go_wp2_with fail
    refine (at_instr _ w.heap.size).mono ?_
    rintro e u ⟨g, rfl, hp, hg, bb⟩
    have B := hide ((one_more _ _).trans (bb.mono (by simp)))
    clear hp hg bb
    go_wp2
    go_ret
    exact ⟨rfl, unhide B⟩
  · go_enter Try.func7, Try.ntmps7
    go_wp2_with fail
    refine (new_issue _).mono ?_
    rintro e u ⟨rfl, rfl⟩
    go_wp2_with fail
    refine (at_issue _ w.heap.size).mono ?_
    rintro e u ⟨g, rfl, hp, hg, bb⟩
    have B := hide ((one_more _ _).trans (bb.mono (by simp)))
    clear hp hg bb
    go_wp2
    go_ret
    exact ⟨rfl, unhide B⟩
  · go_enter Try.func7, Try.ntmps7
    go_wp2_with fail
    refine (new_move _).mono ?_
    rintro e u ⟨rfl, rfl⟩
    go_wp2_with fail
    refine (at_move _ w.heap.size).mono ?_
    rintro e u ⟨g, rfl, hp, hg, bb⟩
    have B := hide ((one_more _ _).trans (bb.mono (by simp)))
    clear hp hg bb
    go_wp2
    go_ret
    exact ⟨rfl, unhide B⟩
  · go_enter Try.func7, Try.ntmps7
    go_wp2_with fail
    refine (new_trade _).mono ?_
    rintro e u ⟨rfl, rfl⟩
    go_wp2_with fail
    refine (at_trade _ w.heap.size).mono ?_
    rintro e u ⟨g, rfl, hp, hg, bb⟩
    have B := hide ((one_more _ _).trans (bb.mono (by simp)))
    clear hp hg bb
    go_wp2
    go_ret
    exact ⟨rfl, unhide B⟩
  · go_enter Try.func7, Try.ntmps7
    go_wp2_with fail
    refine (new_cancel _).mono ?_
    rintro e u ⟨rfl, rfl⟩
    go_wp2_with fail
    refine (at_cancel _ w.heap.size).mono ?_
    rintro e u ⟨g, rfl, hp, hg, bb⟩
    have B := hide ((one_more _ _).trans (bb.mono (by simp)))
    clear hp hg bb
    go_wp2
    go_ret
    exact ⟨rfl, unhide B⟩
  · go_enter Try.func7, Try.ntmps7
    go_wp2_with fail
    refine (new_settle _).mono ?_
    rintro e u ⟨rfl, rfl⟩
    go_wp2_with fail
    refine (at_settle _ w.heap.size).mono ?_
    rintro e u ⟨g, rfl, hp, hg, bb⟩
    have B := hide ((one_more _ _).trans (bb.mono (by simp)))
    clear hp hg bb
    go_wp2
    go_ret
    exact ⟨rfl, unhide B⟩
  · go_enter Try.func7, Try.ntmps7
    go_wp2_with fail
    refine (new_net _).mono ?_
    rintro e u ⟨rfl, rfl⟩
    go_wp2_with fail
    refine (at_net _ w.heap.size).mono ?_
    rintro e u ⟨g, rfl, hp, hg, bb⟩
    have B := hide ((one_more _ _).trans (bb.mono (by simp)))
    clear hp hg bb
    go_wp2
    go_ret
    exact ⟨rfl, unhide B⟩
  · go_enter Try.func7, Try.ntmps7
    go_wp2_with fail
    refine (new_fx _).mono ?_
    rintro e u ⟨rfl, rfl⟩
    go_wp2_with fail
    refine (at_fx _ w.heap.size).mono ?_
    rintro e u ⟨g, rfl, hp, hg, bb⟩
    have B := hide ((one_more _ _).trans (bb.mono (by simp)))
    clear hp hg bb
    go_wp2
    go_ret
    exact ⟨rfl, unhide B⟩
  · go_enter Try.func7, Try.ntmps7
    go_wp2_with fail
    refine (new_split _).mono ?_
    rintro e u ⟨rfl, rfl⟩
    go_wp2_with fail
    refine (at_split _ w.heap.size).mono ?_
    rintro e u ⟨g, rfl, hp, hg, bb⟩
    have B := hide ((one_more _ _).trans (bb.mono (by simp)))
    clear hp hg bb
    go_wp2
    go_ret
    exact ⟨rfl, unhide B⟩
  · go_enter Try.func7, Try.ntmps7
    go_wp2_with fail
    refine (new_pay _).mono ?_
    rintro e u ⟨rfl, rfl⟩
    go_wp2_with fail
    refine (at_pay _ w.heap.size).mono ?_
    rintro e u ⟨g, rfl, hp, hg, bb⟩
    have B := hide ((one_more _ _).trans (bb.mono (by simp)))
    clear hp hg bb
    go_wp2
    go_ret
    exact ⟨rfl, unhide B⟩

end Go.Proofs.Ytophnnmbgpinfaa.ICmd10
