/- Bytes: the program's sum as four bytes. -/
import Derived.Test.YtpplmecddmpjbaaICheck11
import Derived.Test.YtpplmecddmpjbaaSPut11
import Derived.Handy
namespace Go.Proofs.Ytpplmecddmpjbaa.ISum11
open Go.ChangeShapes Go.WideShapes Go.ChangeAt Go.RowKit SBytes SPut11
set_option linter.unusedVariables false
set_option linter.unusedSimpArgs false

theorem chkB_in (xs : List Int) : 0 ≤ chkB xs ∧ chkB xs ≤ 4294967295 := by
  have := chk_in xs xs.length
  unfold chkB
  omega

/-- The four bytes of a sum, the first k of them laid. -/
def laid (n : Int) (k : Nat) : Array Value := #[.int .u8 (if 0 < k then n % 256 else 0), .int .u8 (if 1 < k then n / 256 % 256 else 0), .int .u8 (if 2 < k then n / 65536 % 256 else 0), .int .u8 (if 3 < k then n / 16777216 % 256 else 0)]

theorem info53 : (Try.prog.info? 52).map (·.size) = some 4 := by kernel_rfl

set_option maxRecDepth 100000 in
set_option maxHeartbeats 4000000 in
theorem iSum (w : World) (gl o cl : Nat) (xs : List Int) (h20 : xs.length ≤ 1048576) (hg : gl < w.heap.size) (hr : ICheck11.AtBO w gl o xs) :
    Calls Try.prog 24 #[.slice (some ⟨gl, o, none⟩) xs.length cl] w fun e w' => e = .returned (.agg #[.int .u8 (chkB xs % 256), .int .u8 (chkB xs / 256 % 256), .int .u8 (chkB xs / 65536 % 256), .int .u8 (chkB xs / 16777216 % 256)]) ∧ Below w.heap.size w w' := by
  have CK := hide (fun u h => ICheck11.iCheckO u gl o cl xs h20 h)
  have R := hide hr
  have CI := hide (show 0 ≤ 65536 * (chk xs xs.length).2 + (chk xs xs.length).1 ∧ 65536 * (chk xs xs.length).2 + (chk xs xs.length).1 ≤ 4294967295 from chkB_in xs)
  have E := hide (show chkB xs = 65536 * (chk xs xs.length).2 + (chk xs xs.length).1 from rfl)
  rw [unhide E]
  clear hr E
  generalize 65536 * (chk xs xs.length).2 + (chk xs xs.length).1 = n at *
  obtain ⟨n0, n1⟩ := unhide CI
  go_enter Try.func24, Try.ntmps24
  go_wp2_with fail
  refine ((unhide CK) _ ((unhide R).below (one_more _ _) hg)).mono ?_
  rintro e u ⟨rfl, rfl⟩
  go_wp2
  go_loopw [5, 9] (fun _ i wr => ∃ k : Nat, k ≤ 4 ∧ i = .int .i64 k ∧ wr = (w.alloc (.cells #[.int .u8 0, .int .u8 0, .int .u8 0, .int .u8 0] 52)).alloc (.cells (laid n k) 52)) (fun _ i _ => 4 - (intOf i).toNat)
  case atStart => exact ⟨0, by omega, rfl, rfl⟩
  case round =>
    obtain ⟨k, hk, rfl, rfl⟩ := hrel
    have : k = 0 ∨ k = 1 ∨ k = 2 ∨ k = 3 ∨ k = 4 := by omega
    rcases this with rfl | rfl | rfl | rfl | rfl
    · simp only [laid]
      go_wp2
      go_roundw
      case rel => exact ⟨1, by omega, rfl, by first | rfl | simp⟩
      case measure => simp [intOf]
    · simp only [laid]
      go_wp2
      go_roundw
      case rel => exact ⟨2, by omega, rfl, by first | rfl | simp⟩
      case measure => simp [intOf]
    · simp only [laid]
      go_wp2
      go_roundw
      case rel => exact ⟨3, by omega, rfl, by first | rfl | simp⟩
      case measure => simp [intOf]
    · simp only [laid]
      go_wp2
      go_roundw
      case rel => exact ⟨4, by omega, rfl, by
        have e : n / 16777216 % 256 = n / 16777216 := by omega
        simp [e]⟩
      case measure => simp [intOf]
    · simp only [laid]
      go_wp2
      go_returns
      exact ⟨rfl, (one_more _ _).trans ((Below.refl _ _).alloc (by simp) _)⟩

end Go.Proofs.Ytpplmecddmpjbaa.ISum11
