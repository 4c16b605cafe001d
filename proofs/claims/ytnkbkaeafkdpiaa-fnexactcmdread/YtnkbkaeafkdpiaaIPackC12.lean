/- Commands as bytes: the program's CmdPack. -/
import Derived.Test.YtnkbkaeafkdpiaaIPack12
namespace Go.Proofs.Ytnkbkaeafkdpiaa.IPackC12
open Go.ChangeShapes Go.WideShapes Go.ChangeAt Go.RowKit SBytes SPut11 SPuts11 SPack12 IMsg12 SPackC12 IPack12
open SCmd (CmOk nArgs Cb)
open Lots (Says says_of)
set_option linter.unusedVariables false
set_option linter.unusedSimpArgs false

set_option maxRecDepth 100000 in
theorem packedC (w : World) (k : Int) (gl cap : Nat) (xs : List Int) (b : Bool) (h20 : xs.length ≤ 1048576) (hg : gl < w.heap.size) (hr : Ints.At w gl xs) (hb : Says b (CmOk k xs)) :
    Calls Try.prog 33 #[.iface 37 (.agg #[.int .i64 k, .slice (some ⟨gl, 0, none⟩) xs.length cap])] w fun e w' => ∃ a c, e = .returned (.tuple #[.slice a (packC b k xs).length c, .bool b]) ∧ VOB.Ob w' w.heap.size a (packC b k xs).length c (packC b k xs) ∧ Below w.heap.size w w' := by
  have m1 := me_fitsC
  have m2 := en_fitsC
  have m3 := me_numsC
  have m4 := en_numsC
  have FR := hide (fitsC w k gl cap xs b (by omega) hg hr hb)
  have R := hide hr
  have HG := hide hg
  have HB := hide hb
  clear hr hg hb
  cases b with
  | false =>
    have e : packC false k xs = [] := rfl
    rw [e]
    clear e
    go_enter Try.func33, Try.ntmps33
    go_wp2_with fail
    refine (unhide FR).mono ?_
    rintro e u1 ⟨rfl, bb⟩
    have B1 := hide bb
    have O1 := hide (lit0 u1 w.heap.size bb.size rfl)
    clear bb
    go_wp2
    go_ret2
    exact ⟨_, 0, rfl, VOB.Ob.of (unhide O1), (unhide B1).alloc (unhide B1).size _⟩
  | true =>
    have few := args_few (unhide HB).yes
    rw [← nums_cmd (unhide HB).yes]
    go_enter Try.func33, Try.ntmps33
    go_wp2_with fail
    refine (unhide FR).mono ?_
    rintro e u1 ⟨rfl, bb⟩
    have B1 := hide bb
    clear bb
    go_wp2_with fail
    refine (numsC u1 k gl cap xs (by omega) (Nat.lt_of_lt_of_le (unhide HG) (unhide B1).size) ((unhide R).below (unhide B1) (unhide HG))).mono ?_
    rintro e u2 ⟨g2, k2, rfl, o2, bb⟩
    have B2 := hide ((unhide B1).trans (bb.mono (unhide B1).size))
    have O2 := hide o2
    have IP := hide (IPuts11.iPutNums u2 g2 k2 (k :: xs) (by simp; omega) (unhide O2).lt.2 (unhide O2).at (fun i hi => by
      have hk := kind_in (unhide HB).yes
      cases i with
      | zero => simp; omega
      | succ j => simpa using args_in (unhide HB).yes j (by simpa using hi)))
    rw [show (k :: xs).length = 1 + xs.length by simp; omega] at IP
    clear o2 bb
    go_wp2_with fail
    refine (unhide IP).mono ?_
    rintro e u3 ⟨a3, k3, rfl, o3, bb⟩
    have B3 := hide ((unhide B2).trans (bb.mono (unhide B2).size))
    have O3 := hide (o3.mono (unhide B2).size)
    clear bb o3
    go_wp2
    go_ret2
    exact ⟨a3, k3, rfl, unhide O3, unhide B3⟩

set_option maxRecDepth 100000 in
theorem iCmdPack (w : World) (k : Int) (gl cap : Nat) (xs : List Int) (b : Bool) (h20 : xs.length ≤ 1048576) (hg : gl < w.heap.size) (hr : Ints.At w gl xs) (hb : Says b (CmOk k xs)) :
    Calls Try.prog 18 #[.agg #[.int .i64 k, .slice (some ⟨gl, 0, none⟩) xs.length cap]] w fun e w' => ∃ a c, e = .returned (.tuple #[.slice a (packC b k xs).length c, .bool b]) ∧ VOB.Ob w' w.heap.size a (packC b k xs).length c (packC b k xs) ∧ Below w.heap.size w w' := by
  have L0 := hide (Cb.start (k := k) (cap := cap) hr hg 37)
  have T := hide hb
  clear hr hg hb
  obtain ⟨c0, c1⟩ := (unhide L0).c
  go_enter Try.func18, Try.ntmps18
  go_wp2_with fail
  refine (packedC _ k gl cap xs b h20 (unhide L0).l (unhide L0).r (unhide T)).mono ?_
  rintro e u3 ⟨a3, k3, rfl, o3, bb⟩
  have B3 := hide ((unhide L0).b.trans (bb.mono (unhide L0).b.size))
  have O3 := hide (o3.mono (unhide L0).b.size)
  clear bb o3 c0 c1
  go_wp2
  go_ret2
  exact ⟨a3, k3, rfl, unhide O3, unhide B3⟩

end Go.Proofs.Ytnkbkaeafkdpiaa.IPackC12
