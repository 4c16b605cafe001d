/- Disks: the draws of texts and names. -/
import Derived.Test.YtejbbhjhinkcdaaDrawS11
import Derived.Laws.BytesArg
namespace Go.Proofs.Ytejbbhjhinkcdaa.DrawT14
open Go.ChangeShapes Go.WideShapes Go.ChangeAt Go.RowKit Draw Draw11 DrawS11
set_option linter.unusedVariables false
set_option linter.unusedSimpArgs false
theorem hide {p : Prop} (h : p) : Hid p := h
theorem unhide {p : Prop} (h : Hid p) : p := h
set_option maxRecDepth 100000 in
theorem drawText (w0 w : World) (c : Nat) (a : Option Addr) (len cap most : Nat) (hl : len ≤ 1048576) (hm : most ≤ 1000) (hcode : CodeAt w0 a len) (h : Cur w0 w c a len cap) :
    Calls Try.prog 32 #[.pointer (some ⟨c, 0, none⟩), .int .i64 most] w fun e w' => (∃ s : ByteArray, s.size ≤ most ∧ e = .returned (.string s)) ∧ Moved w0 w w' c a len cap := by
  have DB := hide (drawBytes w0 w c a len cap most hl hm hcode h)
  clear hcode h
  go_enter Try.func32, Try.ntmps32
  go_wp2_with fail
  refine (unhide DB).mono ?_
  rintro e u ⟨xs, g, k, rfl, o, hx, _, mv⟩
  have cv := run_convert_bytes_arg (P := Try.prog) u 22 5 Try.underlying22 Try.underlying5 g 0 xs.length k xs rfl (fun i hi => by rw [Nat.zero_add]; exact o.at i hi) 9 Try.underlying9
  have MV := hide mv
  have SZ := hide (strOfNums_size xs)
  have HX := hide hx
  clear mv o hx DB
  generalize strOfNums xs = s at *
  go_wp2
  go_ret
  exact ⟨⟨s, by rw [unhide SZ]; exact unhide HX, rfl⟩, unhide MV⟩
set_option maxRecDepth 100000 in
theorem drawName (w0 w : World) (c : Nat) (a : Option Addr) (len cap : Nat) (hl : len ≤ 1048576) (hcode : CodeAt w0 a len) (h : Cur w0 w c a len cap) :
    Calls Try.prog 31 #[.pointer (some ⟨c, 0, none⟩)] w fun e w' => (∃ x : Int, -1 ≤ x ∧ x ≤ 22 ∧ e = .returned (.int .i64 x)) ∧ Moved w0 w w' c a len cap := by
  have ON := hide (once w0 w c a len cap 20 hl hcode h (by omega))
  have HC := hide hcode
  clear hcode h
  go_enter Try.func31, Try.ntmps31
  go_wp2_with fail
  refine (unhide ON).mono ?_
  rintro e u ⟨⟨t, rfl⟩, mv⟩
  have MV := hide mv
  have uh := mv.1.hi
  clear mv ON
  cases t with
  | true =>
    have M1 := hide (moved_alloc (unhide MV) #[.int .i64 (-1), .int .i64 22, .int .i64 21] 3)
    go_wp2_with fail
    refine (pick w0 _ c a len cap u.heap.size 3 (of3 (-1) 22 21) hl (unhide HC) (unhide M1).1 (by omega) (by omega) (by simp) (by omega) (fun j hj => of3_cells u _ (-1) 22 21 j hj)).mono ?_
    rintro e u1 ⟨⟨j, hj, rfl⟩, m2⟩
    have M2 := hide ((unhide M1).trans m2)
    have B := hide (show -1 ≤ of3 (-1) 22 21 j ∧ of3 (-1) 22 21 j ≤ 22 from by unfold of3; split <;> (try split) <;> omega)
    clear m2 hj
    generalize of3 (-1) 22 21 j = x at *
    go_wp2
    go_ret
    exact ⟨⟨x, (unhide B).1, (unhide B).2, rfl⟩, unhide M2⟩
  | false =>
    go_wp2_with fail
    refine (below w0 u c a len cap 5 hl (unhide HC) (unhide MV).1 (by omega)).mono ?_
    rintro e u1 ⟨⟨x, x0, x1, rfl⟩, m2⟩
    have M2 := hide ((unhide MV).trans m2)
    clear m2
    go_wp2
    go_ret
    exact ⟨⟨x, by omega, by omega, rfl⟩, unhide M2⟩
end Go.Proofs.Ytejbbhjhinkcdaa.DrawT14
