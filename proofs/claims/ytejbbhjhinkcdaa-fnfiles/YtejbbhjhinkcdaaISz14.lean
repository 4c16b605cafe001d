/- Disks: how many bytes the program counts on one. -/
import Derived.Test.YtejbbhjhinkcdaaIFile14
namespace Go.Proofs.Ytejbbhjhinkcdaa.ISz14
open Go.ChangeShapes Go.WideShapes Go.ChangeAt Go.RowKit Fil14 DiskH14 DkH14 SDk14 SOk14 IFile14
set_option linter.unusedVariables false
set_option linter.unusedSimpArgs false
set_option maxRecDepth 100000 in
set_option maxHeartbeats 4000000 in
theorem iSizeD (w : World) (x : Dx) (hr : RdD w x) (hz : sumZ x.ps ≤ 1048576) :
    Calls Try.prog 34 #[.agg #[.int .i64 x.room, .slice x.a x.ps.length x.c]] w fun e w' => e = .returned (.int .i64 (sumZ x.ps)) ∧ Below w.heap.size w w' := by
  have W0 := hide (Wd.made hr 26)
  have h20 := hr.n
  clear hr
  go_enter Try.func34, Try.ntmps34
  go_wp2
  go_loopw [3, 9] (fun n i wr => ∃ (k : Nat) (y : Int), k ≤ x.ps.length ∧ i = .int .i64 k ∧ n = .int .i64 y ∧ 0 ≤ y ∧ y ≤ 1048576 ∧ Hid (y = sumZ (x.ps.take k)) ∧ Hid (Wd w wr x)) (fun _ i _ => x.ps.length - (intOf i).toNat)
  case atStart => exact ⟨0, 0, by omega, rfl, rfl, by omega, by omega, hide (by simp [sumZ]), W0⟩
  case round =>
    clear W0
    obtain ⟨k, y, hk, rfl, rfl, y0, y1, HY, HW⟩ := hrel
    by_cases t : k < x.ps.length
    · have kt : (k : Int) < x.ps.length := by omega
      have NX := sumZ_next t
      have LE := sumZ_le x.ps (k + 1)
      have YE := unhide HY
      obtain ⟨g, ea, lg, e0, e1, e2⟩ := cells_of (unhide HW).r t
      have lt := (unhide HW).lt
      have IX := SCom14.ixF x.c ea t
      generalize (elF x.ps k).1 = z0 at *
      generalize (elF x.ps k).2.1 = z1 at *
      generalize (elF x.ps k).2.2 = z2 at *
      have b1 : z1.size + z2.size ≤ 1048576 := by omega
      have a2 : wrap64 (y + ((z1.size : Int) + z2.size)) = y + ((z1.size : Int) + z2.size) := by rw [wrap64]; omega
      have NY := hide (show 0 ≤ y + ((z1.size : Int) + z2.size) ∧ y + ((z1.size : Int) + z2.size) ≤ 1048576 ∧ y + ((z1.size : Int) + z2.size) = sumZ (x.ps.take (k + 1)) by omega)
      clear NX LE YE HY ea
      have OB := hide (one_more wr (.cells #[.int .i64 z0, .string z1, .string z2] 32))
      go_wp2_with fail
      refine (iSizeF _ z0 z1 z2 b1).mono ?_
      rintro e w2 ⟨rfl, bb⟩
      have HW2 := hide (((unhide HW).step (unhide OB)).step bb)
      clear bb OB HW e0 e1 e2 IX
      go_wp2
      go_roundw
      case rel => exact ⟨k + 1, y + ((z1.size : Int) + z2.size), by omega, by go_num, rfl, (unhide NY).1, (unhide NY).2.1, hide (unhide NY).2.2, HW2⟩
      case measure => simp [intOf]; omega
    · have e : k = x.ps.length := by omega
      have E := hide (show y = sumZ x.ps by have := unhide HY; rw [e, List.take_length] at this; exact this)
      have kt : ¬ (k : Int) < x.ps.length := by omega
      clear HY
      subst e
      go_wp2
      go_ret
      exact ⟨congrArg (fun z => Ending.returned (.int .i64 z)) (unhide E), (unhide HW).b⟩
end Go.Proofs.Ytejbbhjhinkcdaa.ISz14
