/- Disks: the program's table of the files of one. -/
import Derived.Test.YtejbbhjhinkcdaaTabF14
namespace Go.Proofs.Ytejbbhjhinkcdaa.ITb14
open Go.ChangeShapes Go.WideShapes Go.ChangeAt Go.RowKit Fil14 OpensF14 DiskH14 DkH14 SDk14 SOk14 SLess14 TabF14
set_option linter.unusedVariables false
set_option linter.unusedSimpArgs false

theorem wd_grown {w wr wz : World} {x : Dx} {B : Nat} (h : Wd w wr x) (k : wr.grownBy wz (some B)) (hB : w.heap.size < B) (hx : ∀ g, x.a = some ⟨g, 0, none⟩ → g ≠ B) : Wd w wz x := by
  refine ⟨(App14.kcell k 0 h.lt (by omega)).trans h.c0, (App14.kcell k 1 h.lt (by omega)).trans h.c1, Nat.lt_of_lt_of_le h.lt k.size, grow_low h.b k ⟨by omega, Nat.le_of_lt h.lt⟩, ⟨h.r.e, fun g e => ?_, h.r.n⟩⟩
  obtain ⟨l, a⟩ := h.r.r g e
  have c := fun o => App14.kcell k o l (hx g e)
  refine ⟨Nat.lt_of_lt_of_le l k.size, fun i hi => ?_⟩
  obtain ⟨a0, a1, a2⟩ := a i hi
  exact ⟨(c _).trans a0, (c _).trans a1, (c _).trans a2⟩

set_option maxRecDepth 100000 in
set_option maxHeartbeats 4000000 in
theorem iTable (w : World) (x : Dx) (hr : RdD w x) (hn : ∀ i, i < x.ps.length → Wf (elF x.ps i).1) :
    Calls Try.prog 26 #[.agg #[.int .i64 x.room, .slice x.a x.ps.length x.c]] w fun e w' => e = .returned (.map (some (w.heap.size + 1))) ∧ Tf w' (w.heap.size + 1) x.ps.length (tabOf x.ps) ∧ Below w.heap.size w w' := by
  have W1 := Wd.made hr 26
  have XA := hide (fun g e => (hr.r g e).1)
  have h20 := hr.n
  have HN := hide hn
  clear hr hn
  have S1 : (w.alloc (.cells #[.int .i64 x.room, .slice x.a x.ps.length x.c] 26)).heap.size = w.heap.size + 1 := by simp
  have T0 := tf_made (w.alloc (.cells #[.int .i64 x.room, .slice x.a x.ps.length x.c] 26))
  rw [S1] at T0
  have G0 := hide (And.intro (W1.step (one_more _ (.map #[] 0))) T0)
  have hmm := @run_makeMap Try.prog
  clear W1 S1 T0
  go_enter Try.func26, Try.ntmps26
  go_wp2
  go_loopw [10] (fun i wr => ∃ (k : Nat), k ≤ x.ps.length ∧ i = .int .i64 k ∧ Hid (Wd w wr x) ∧ Hid (Tf wr (w.heap.size + 1) k (tabN x.ps k))) (fun i _ => x.ps.length - (intOf i).toNat)
  case atStart => exact ⟨0, by omega, rfl, hide (unhide G0).1, hide (unhide G0).2⟩
  case round =>
    clear G0
    obtain ⟨k, hk, rfl, HW, HT⟩ := hrel
    by_cases t : k < x.ps.length
    · have kt : (k : Int) < x.ps.length := by omega
      obtain ⟨g, ea, lg, e0, e1, e2⟩ := cells_of (unhide HW).r t
      have lt := (unhide HW).lt
      have IX := SCom14.ixF x.c ea t
      have WF := (unhide HN) k t
      have PR : elF x.ps k = ((elF x.ps k).1, (elF x.ps k).2.1, (elF x.ps k).2.2) := rfl
      have TE := hide (show tabN x.ps (k + 1) = upd (tabN x.ps k) (elF x.ps k).1 (some ((elF x.ps k).1, (elF x.ps k).2.1, (elF x.ps k).2.2)) from rfl)
      generalize tabN x.ps k = f at *
      clear PR
      generalize (elF x.ps k).1 = z0 at *
      generalize (elF x.ps k).2.1 = z1 at *
      generalize (elF x.ps k).2.2 = z2 at *
      clear ea
      have OB := one_more wr (.cells #[.int .i64 z0, .string z1, .string z2] 32)
      have HW2 := hide ((unhide HW).step OB)
      have HT2 := hide ((unhide HT).below OB)
      clear OB HW HT
      go_wp2_with (first | (at_mapUpdate; refine wp_put _ rfl _ _ _ rfl (w.heap.size + 1) k _ rfl (unhide HT2) (by omega) z0 (z0, z1, z2) rfl rfl WF ?_; intro w1 t1 g1) | go_in)
      go_roundw
      case rel => exact ⟨k + 1, by omega, by go_num, hide (wd_grown (unhide HW2) g1 (by omega) (fun g e => by have := (unhide XA) g e; omega)), hide (by rw [unhide TE]; exact t1)⟩
      case measure => simp [intOf]; omega
    · have e : k = x.ps.length := by omega
      have kt : ¬ (k : Int) < x.ps.length := by omega
      subst e
      go_wp2
      go_ret
      exact ⟨rfl, unhide HT, (unhide HW).b⟩

end Go.Proofs.Ytejbbhjhinkcdaa.ITb14
