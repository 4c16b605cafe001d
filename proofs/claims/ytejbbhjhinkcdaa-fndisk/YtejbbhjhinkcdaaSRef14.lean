/- Disks: what the specification answers of a disk when it refuses. -/
import Derived.Test.YtejbbhjhinkcdaaSCopy14
namespace Go.Proofs.Ytejbbhjhinkcdaa.SRef14
open Go.ChangeShapes Go.WideShapes Go.ChangeAt Go.RowKit Fil14 OpensF14 DiskH14 DkH14 SDk14 SOk14 SRd14 App14 SLess14 SCopy14
set_option linter.unusedVariables false
set_option linter.unusedSimpArgs false

/-- What is answered of a disk when a call is refused. -/
def refD (code room : Int) (ps : List TF) : Int × List TF := if code = 1 then (0, []) else (room, ps)

set_option maxRecDepth 100000 in
set_option maxHeartbeats 4000000 in
theorem sRefused (w : World) (x : Dx) (code : Int) (hr : RdD w x) :
    Calls Try.prog 46 #[.agg #[.int .i64 x.room, .slice x.a x.ps.length x.c], .int .i64 code] w fun e w' => ∃ y : Dx, (y.room, y.ps) = refD code x.room x.ps ∧ e = .returned (.agg #[.int .i64 y.room, .slice y.a y.ps.length y.c]) ∧ OwD w' w.heap.size y ∧ Below w.heap.size w w' := by
  have F : ∀ W1, W1 = w.alloc (.cells #[.int .i64 x.room, .slice x.a x.ps.length x.c] 26) → ∀ W2, W2 = W1.alloc (.cells #[.int .i64 0, .slice none 0 0] 26) →
      Wd w W2 x ∧ Bc W2 w.heap.size (w.heap.size + 1) (.int .i64 0) (.slice none 0 0) ∧ W2.heap.size = w.heap.size + 2 := by
    intro W1 h1 W2 h2
    have s1 : W1.heap.size = w.heap.size + 1 := by rw [h1]; simp
    have s2 : W2.heap.size = w.heap.size + 2 := by rw [h2]; simp [s1]
    have d1 : Wd w W1 x := by rw [h1]; exact Wd.made hr _
    have b2 : Below W1.heap.size W1 W2 := by rw [h2]; exact one_more _ _
    have R1 : Bc W2 w.heap.size (w.heap.size + 1) (.int .i64 0) (.slice none 0 0) := by rw [h2]; exact Bc.made _ _ (by omega) s1.symm
    exact ⟨d1.step b2, R1, s2⟩
  have G0 := hide (F _ rfl _ rfl)
  clear F hr
  by_cases q : code = 1
  · have E := hide (show refD code x.room x.ps = (0, []) from if_pos q)
    generalize refD code x.room x.ps = rr at *
    subst q
    go_enter Try.func46, Try.ntmps46
    go_wp2
    obtain ⟨WD, RB, s3⟩ := unhide G0
    have r0 := RB.c0
    have r1 := RB.c1
    refine bodyPost_ret (v := .agg #[.int .i64 0, .slice none 0 0]) (by simp [results, Try.results46, go_sem]) rfl ⟨⟨0, none, 0, []⟩, (unhide E).symm, rfl, ⟨rfl, .inl ⟨rfl, rfl⟩⟩, WD.b⟩
  · have E := hide (show refD code x.room x.ps = (x.room, x.ps) from if_neg q)
    generalize refD code x.room x.ps = rr at *
    go_enter Try.func46, Try.ntmps46
    go_wp2_with fail
    generalize (w.alloc (.cells #[.int .i64 x.room, .slice x.a x.ps.length x.c] 26)).alloc (.cells #[.int .i64 0, .slice none 0 0] 26) = W at *
    obtain ⟨WD, RB, s3⟩ := unhide G0
    refine (sCopy W x WD.r).mono ?_
    rintro e u ⟨y, yr, yp, rfl, oy, by1⟩
    have HE := hide (show (y.room, y.ps) = rr by rw [unhide E, yr, yp])
    have R9 := RB.below by1 (by omega)
    have f0 := R9.free 0
    have f1 := R9.free 1
    have r0 := R9.c0
    have r1 := R9.c1
    have s0 := R9.set0 (.int .i64 y.room)
    have s1 := bc_set1 s0.1 (.slice y.a y.ps.length y.c)
    have ST := hide (grow_grow s0.2 s1.2)
    have BB := hide (WD.b.trans (by1.mono WD.b.size))
    have us := by1.size
    have O1 := hide oy
    clear WD RB R9 s0 s1 by1 G0 oy yr yp
    go_wp2
    refine bodyPost_ret (v := .agg #[.int .i64 y.room, .slice y.a y.ps.length y.c]) (by simp [results, Try.results46, go_sem, r0, r1]) rfl ⟨y, unhide HE, rfl, ?_, ?_⟩
    · exact row_base (row_kept (unhide O1) (unhide ST) (by omega)) (by omega)
    · exact grow_low (unhide BB) (unhide ST) (by omega)
