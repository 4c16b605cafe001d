/- Bytes: the specification's Check. -/
import Derived.Test.YtnkbkaeafkdpiaaRows
import Derived.WalkKit
import Derived.ProofKit
import Derived.OpenShut
import Derived.Below
import Derived.BigQuiet
namespace Go.Proofs.Ytnkbkaeafkdpiaa.SBytes
open Go.ChangeShapes Go.WideShapes Go.ChangeAt Go.RowKit
set_option linter.unusedVariables false
set_option linter.unusedSimpArgs false

theorem hide {p : Prop} (h : p) : Hid p := h
theorem unhide {p : Prop} (h : Hid p) : p := h

/-- The bytes of a list: block g from its head on. -/
def AtB (w : World) (g : Nat) (xs : List Int) : Prop := ∀ i, i < xs.length → w.cell? ⟨g, i, none⟩ = some (.int .u8 (xs.getD i 0)) ∧ 0 ≤ xs.getD i 0 ∧ xs.getD i 0 ≤ 255

/-- One byte more in the sum. -/
def stepC (p : Int × Int) (d : Int) : Int × Int := ((p.1 + d + 1) % 65535, (p.2 + (p.1 + d + 1) % 65535) % 65535)
/-- The sum of the first k bytes. -/
def chk (xs : List Int) : Nat → Int × Int
  | 0 => (0, 0)
  | k + 1 => stepC (chk xs k) (xs.getD k 0)

theorem chk_in (xs : List Int) (k : Nat) : 0 ≤ (chk xs k).1 ∧ (chk xs k).1 < 65535 ∧ 0 ≤ (chk xs k).2 ∧ (chk xs k).2 < 65535 := by
  cases k with
  | zero => simp [chk]
  | succ k => simp only [chk, stepC]; omega

theorem AtB.below {w w' : World} {g B : Nat} {xs : List Int} (h : AtB w g xs) (k : Below B w w') (hg : g < B) : AtB w' g xs := fun i hi => ⟨(k.cell (p := ⟨g, i, none⟩) hg).trans (h i hi).1, (h i hi).2⟩

/-- Check of bytes. -/
def chkB (xs : List Int) : Int := 65536 * (chk xs xs.length).2 + (chk xs xs.length).1

theorem tmod_pos (a : Int) (h : 0 ≤ a) : a.tmod 65535 = a % 65535 := Int.tmod_eq_emod_of_nonneg h

/-- What the first k bytes from at on are worth. -/
def val (xs : List Int) (at' : Nat) : Nat → Int
  | 0 => 0
  | k + 1 => val xs at' k + xs.getD (at' + k) 0 % 128 * 128 ^ k
/-- The number that is read from at on, k bytes being read and f left. -/
def getF (xs : List Int) (at' : Nat) : Nat → Nat → Int × Int × Bool
  | 0, _ => (0, 0, false)
  | f + 1, k => if at' + k < xs.length then (if xs.getD (at' + k) 0 < 128 then (if xs.getD (at' + k) 0 = 0 ∧ 0 < k then (0, 0, false) else (val xs at' (k + 1), ((at' + k + 1 : Nat) : Int), true)) else getF xs at' f (k + 1)) else (0, 0, false)
/-- The number that is read from at on. -/
def getN (xs : List Int) (at' : Int) : Int × Int × Bool := if at' < 0 ∨ (xs.length : Int) ≤ at' then (0, 0, false) else getF xs at'.toNat 9 0

theorem pow_le (k : Nat) (h : k ≤ 8) : 1 ≤ (128 : Int) ^ k ∧ (128 : Int) ^ k ≤ 72057594037927936 := by
  have : k = 0 ∨ k = 1 ∨ k = 2 ∨ k = 3 ∨ k = 4 ∨ k = 5 ∨ k = 6 ∨ k = 7 ∨ k = 8 := by omega
  rcases this with rfl | rfl | rfl | rfl | rfl | rfl | rfl | rfl | rfl <;> decide

theorem pow_more (k : Nat) : (128 : Int) ^ (k + 1) = 128 ^ k * 128 := Int.pow_succ 128 k

theorem val_in (xs : List Int) (at' k : Nat) : 0 ≤ val xs at' k ∧ val xs at' k < 128 ^ k := by
  induction k with
  | zero => simp [val]
  | succ k ih =>
    have p : (0 : Int) ≤ 128 ^ k := by omega
    have d0 : 0 ≤ xs.getD (at' + k) 0 % 128 := by omega
    have d1 : xs.getD (at' + k) 0 % 128 ≤ 127 := by omega
    have m0 := Int.mul_nonneg d0 p
    have m1 := Int.mul_le_mul_of_nonneg_right d1 p
    rw [pow_more]
    simp only [val]
    omega

set_option maxRecDepth 100000 in
set_option maxHeartbeats 8000000 in
theorem sGetNum (w : World) (g cap : Nat) (xs : List Int) (at' : Int) (h20 : xs.length ≤ 1048576) (hr : AtB w g xs) :
    Calls Try.prog 47 #[.slice (some ⟨g, 0, none⟩) xs.length cap, .int .i64 at'] w fun e w' => e = .returned (.tuple #[.int .i64 (getN xs at').1, .int .i64 (getN xs at').2.1, .bool (getN xs at').2.2]) ∧ w' = w := by
  have R := hide hr
  clear hr
  by_cases p0 : at' < 0
  · have e : getN xs at' = (0, 0, false) := by unfold getN; rw [if_pos (.inl p0)]
    rw [e]
    clear e
    go_enter Try.func47, Try.ntmps47
    go_wp2
    go_ret3
    exact ⟨rfl, rfl⟩
  by_cases p1 : (xs.length : Int) ≤ at'
  · have e : getN xs at' = (0, 0, false) := by unfold getN; rw [if_pos (.inr p1)]
    rw [e]
    clear e
    go_enter Try.func47, Try.ntmps47
    go_wp2
    go_ret3
    exact ⟨rfl, rfl⟩
  obtain ⟨n, rfl⟩ : ∃ n : Nat, at' = n := ⟨at'.toNat, by omega⟩
  have E0 := hide (show getN xs n = getF xs n 9 0 from by unfold getN; rw [if_neg (by omega)]; simp)
  have p2 : n < xs.length := by omega
  generalize getN xs n = r at *
  obtain ⟨r0, r1, r2⟩ := r
  go_enter Try.func47, Try.ntmps47
  go_wp2
  clear p0 p1
  go_loopw [7, 8, 9, 10] (fun a u i _ wr => ∃ (k : Nat) (x v : Int), k ≤ 9 ∧ i = .int .i64 k ∧ a = .int .i64 x ∧ u = .int .i64 v ∧ Hid (x = val xs n k) ∧ Hid (k ≤ 8 → v = 128 ^ k) ∧ Hid ((r0, r1, r2) = getF xs n (9 - k) k) ∧ wr = w) (fun _ _ i _ _ => 9 - (intOf i).toNat)
  case atStart => exact ⟨0, 0, 1, by omega, rfl, rfl, rfl, rfl, hide (fun _ => rfl), E0, rfl⟩
  case round =>
    obtain ⟨k, x, v, hk, rfl, rfl, rfl, HX, HV, HE, rfl⟩ := hrel
    clear E0
    by_cases t : k = 9
    · subst t
      have F := unhide HE
      simp only [Nat.sub_self, getF] at F
      injection F with F0 F
      injection F with F1 F2
      subst F0 F1 F2
      clear HX HV HE
      go_wp2
      go_ret3
      exact ⟨rfl, rfl⟩
    by_cases t1 : n + k < xs.length
    case neg =>
      have F := unhide HE
      rw [show 9 - k = (9 - (k + 1)) + 1 by omega] at F
      simp only [getF] at F
      rw [if_neg t1] at F
      injection F with F0 F
      injection F with F1 F2
      subst F0 F1 F2
      have a0 : wrap64 ((n : Int) + (k : Int)) = n + k := by rw [wrap64]; omega
      have a1 : ¬ ((n : Int) + k < xs.length) := by omega
      have a2 : (k : Int) < 9 := by omega
      clear HX HV HE t1 t hk
      go_wp2
      go_ret3
      exact ⟨rfl, rfl⟩
    obtain ⟨d, d0, d1⟩ := (unhide R) (n + k) t1
    have hv := (unhide HV) (by omega)
    have V1 := hide (show x + xs.getD (n + k) 0 % 128 * v = val xs n (k + 1) from by rw [unhide HX, hv]; rfl)
    have V2 := hide (show k + 1 ≤ 8 → v * 128 = 128 ^ (k + 1) from fun _ => by rw [hv, pow_more])
    have XI := hide (show 0 ≤ x ∧ x < v from by have q := val_in xs n k; rw [← hv, ← unhide HX] at q; exact q)
    have ST := hide (show (r0, r1, r2) = if xs.getD (n + k) 0 < 128 then (if xs.getD (n + k) 0 = 0 ∧ 0 < k then (0, 0, false) else (val xs n (k + 1), ((n + k + 1 : Nat) : Int), true)) else getF xs n (9 - (k + 1)) (k + 1) from by
      rw [unhide HE, show 9 - k = (9 - (k + 1)) + 1 by omega]
      simp only [getF]
      rw [if_pos t1])
    rw [← unhide V1] at ST
    clear HX HV HE
    generalize xs.getD (n + k) 0 = y at *
    have Y := hide (show 0 ≤ y ∧ y ≤ 255 from ⟨d0, d1⟩)
    have a0 : wrap64 ((n : Int) + (k : Int)) = n + k := by rw [wrap64]; omega
    have a1 : (n : Int) + k < xs.length := by omega
    have a2 : (k : Int) < 9 := by omega
    have a3 : wrap64 y = y := by rw [wrap64]; omega
    have b1 : y.tmod 128 = y % 128 := Int.tmod_eq_emod_of_nonneg d0
    have b2 : wrap64 (y % 128) = y % 128 := by rw [wrap64]; omega
    have pv := pow_le k (by omega)
    rw [← hv] at pv
    have m0 := Int.mul_nonneg (show 0 ≤ y % 128 by omega) (show 0 ≤ v by omega)
    have m1 := Int.mul_le_mul_of_nonneg_right (show y % 128 ≤ 127 by omega) (show 0 ≤ v by omega)
    have xi := unhide XI
    have b3 : wrap64 (y % 128 * v) = y % 128 * v := by
      generalize y % 128 * v = m at *
      rw [wrap64]; omega
    have b4 : wrap64 (x + y % 128 * v) = x + y % 128 * v := by
      generalize y % 128 * v = m at *
      rw [wrap64]; omega
    have b5 : wrap64 ((n : Int) + k + 1) = n + k + 1 := by rw [wrap64]; omega
    have b6 := hide (show k + 1 ≤ 8 → wrap64 (v * 128) = v * 128 from fun _ => by
      have := pow_le (k + 1) (by omega)
      rw [pow_more, ← hv] at this
      rw [wrap64]; omega)
    have B := hide (And.intro b1 (And.intro b2 (And.intro b3 (And.intro b4 b5))))
    clear hv d0 d1 t t1 pv m0 m1 xi XI b1 b2 b3 b4 b5
    by_cases y1 : y < 128
    · by_cases y2 : y = 0
      · by_cases k0 : 0 < k
        · have F := unhide ST
          rw [if_pos y1, if_pos ⟨y2, k0⟩] at F
          injection F with F0 F
          injection F with F1 F2
          subst F0 F1 F2
          subst y2
          have k1 : (0 : Int) < k := by omega
          clear ST V1 V2 hk
          go_wp2
          go_ret3
          exact ⟨rfl, rfl⟩
        · have F := unhide ST
          rw [if_pos y1, if_neg (fun h => k0 h.2)] at F
          injection F with F0 F
          injection F with F1 F2
          subst F0 F1 F2
          subst y2
          have k1 : ¬ (0 : Int) < k := by omega
          clear ST V1 V2 hk
          go_wp2
          go_ret3
          obtain ⟨b1, b2, b3, b4, b5⟩ := unhide B
          simp at b4
          exact ⟨by simp [b4, b5], rfl⟩
      · have F := unhide ST
        rw [if_pos y1, if_neg (fun h => y2 h.1)] at F
        injection F with F0 F
        injection F with F1 F2
        subst F0 F1 F2
        have y3 : (y == 0) = false := by simp [y2]
        clear ST V1 V2 hk y2
        go_wp2
        go_ret3
        obtain ⟨b1, b2, b3, b4, b5⟩ := unhide B
        exact ⟨by simp [b1, b2, b3, b4, b5], rfl⟩
    · have F := unhide ST
      rw [if_neg y1] at F
      have HF := hide F
      clear ST F
      go_wp2
      go_roundw
      case rel =>
        obtain ⟨b1, b2, b3, b4, b5⟩ := unhide B
        exact ⟨k + 1, x + y % 128 * v, wrap64 (v * 128), by omega, by go_num, by simp [b1, b2, b3, b4], rfl, V1, hide (fun h => by rw [(unhide b6) h]; exact (unhide V2) h), HF, trivial⟩
      case measure => simp [intOf]; omega

end Go.Proofs.Ytnkbkaeafkdpiaa.SBytes
