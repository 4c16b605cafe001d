/- Bytes: the program's Check. -/
import Derived.Test.YtpplmecddmpjbaaSBytes
namespace Go.Proofs.Ytpplmecddmpjbaa.ICheck11
open Go.ChangeShapes Go.WideShapes Go.ChangeAt Go.RowKit SBytes
set_option linter.unusedVariables false
set_option linter.unusedSimpArgs false

/-- Bytes that lie from a place on. -/
def AtBO (w : World) (g o : Nat) (xs : List Int) : Prop := ∀ i, i < xs.length → w.cell? ⟨g, o + i, none⟩ = some (.int .u8 (xs.getD i 0)) ∧ 0 ≤ xs.getD i 0 ∧ xs.getD i 0 ≤ 255
theorem AtBO.of {w : World} {g : Nat} {xs : List Int} (h : AtB w g xs) : AtBO w g 0 xs := fun i hi => by rw [Nat.zero_add]; exact h i hi
theorem AtBO.below {w w' : World} {g o B : Nat} {xs : List Int} (h : AtBO w g o xs) (k : Below B w w') (hg : g < B) : AtBO w' g o xs := fun i hi => ⟨(k.cell (p := ⟨g, o + i, none⟩) hg).trans (h i hi).1, (h i hi).2⟩

set_option maxRecDepth 100000 in
set_option maxHeartbeats 4000000 in
theorem iCheckO (w : World) (g o cap : Nat) (xs : List Int) (h20 : xs.length ≤ 1048576) (hr : AtBO w g o xs) :
    Calls Try.prog 30 #[.slice (some ⟨g, o, none⟩) xs.length cap] w fun e w' => e = .returned (.int .i64 (65536 * (chk xs xs.length).2 + (chk xs xs.length).1)) ∧ w' = w := by
  have R := hide hr
  clear hr
  go_enter Try.func30, Try.ntmps30
  go_wp2
  go_loopw [3, 4, 6, 9] (fun a b _ i wr => ∃ (k : Nat) (x y : Int), k ≤ xs.length ∧ i = .int .i64 k ∧ a = .int .i64 x ∧ b = .int .i64 y ∧ Hid ((x, y) = chk xs k) ∧ wr = w) (fun _ _ _ i _ => xs.length - (intOf i).toNat)
  case atStart => exact ⟨0, 0, 0, by omega, rfl, rfl, rfl, rfl, rfl⟩
  case round =>
    obtain ⟨k, x, y, hk, rfl, rfl, rfl, HC, rfl⟩ := hrel
    have q := chk_in xs k
    rw [← unhide HC] at q
    obtain ⟨q0, q1, q2, q3⟩ := q
    simp only at q0 q1 q2 q3
    by_cases t : k < xs.length
    · obtain ⟨d, d0, d1⟩ := (unhide R) k t
      have N := hide (show ((x + xs.getD k 0 + 1) % 65535, (y + (x + xs.getD k 0 + 1) % 65535) % 65535) = chk xs (k + 1) from by simp only [chk]; rw [← unhide HC]; rfl)
      clear HC
      generalize xs.getD k 0 = v at *
      have a1 : wrap64 (x + v) = x + v := by rw [wrap64]; omega
      have a2 : wrap64 (x + v + 1) = x + v + 1 := by rw [wrap64]; omega
      have a3 : (x + v + 1).tmod 65535 = (x + v + 1) % 65535 := tmod_pos _ (by omega)
      have m1 : 0 ≤ (x + v + 1) % 65535 ∧ (x + v + 1) % 65535 < 65535 := by omega
      generalize (x + v + 1) % 65535 = m at *
      have a4 : wrap64 m = m := by rw [wrap64]; omega
      have a5 : wrap64 (y + m) = y + m := by rw [wrap64]; omega
      have a6 : (y + m).tmod 65535 = (y + m) % 65535 := tmod_pos _ (by omega)
      have m2 : 0 ≤ (y + m) % 65535 ∧ (y + m) % 65535 < 65535 := by omega
      generalize (y + m) % 65535 = n at *
      have a7 : wrap64 n = n := by rw [wrap64]; omega
      have a8 : wrap64 v = v := by rw [wrap64]; omega
      go_wp2
      go_roundw
      case rel => exact ⟨k + 1, m, n, by omega, by go_num, by simp [a1, a2, a3, a4], by simp [a1, a2, a3, a4, a5, a6, a7], N, trivial⟩
      case measure => simp [intOf]; omega
    · have e : k = xs.length := by omega
      subst e
      have a1 : wrap64 (65536 * y) = 65536 * y := by rw [wrap64]; omega
      have a2 : wrap64 (65536 * y + x) = 65536 * y + x := by rw [wrap64]; omega
      have c1 : x = (chk xs xs.length).1 := congrArg Prod.fst (unhide HC)
      have c2 : y = (chk xs xs.length).2 := congrArg Prod.snd (unhide HC)
      have C1 := hide c1
      have C2 := hide c2
      clear c1 c2
      go_wp2
      go_ret
      exact ⟨by rw [← unhide C1, ← unhide C2]; simp [a1, a2], rfl⟩

theorem iCheck (w : World) (g cap : Nat) (xs : List Int) (h20 : xs.length ≤ 1048576) (hg : g < w.heap.size) (hr : AtB w g xs) :
    Calls Try.prog 30 #[.slice (some ⟨g, 0, none⟩) xs.length cap] w fun e w' => e = .returned (.int .i64 (65536 * (chk xs xs.length).2 + (chk xs xs.length).1)) ∧ Below w.heap.size w w' :=
  (iCheckO w g 0 cap xs h20 (.of hr)).mono fun e w' ⟨h, k⟩ => ⟨h, by rw [k]; exact Below.refl _ _⟩

end Go.Proofs.Ytpplmecddmpjbaa.ICheck11
