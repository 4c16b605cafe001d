/- Texts of one proof, one behind the other: Law14, SBytes, ByteH, SPut11, SUnseal11, Conv15, SegP15, StrO15, SSeg15, Ints, SPuts11, SSeal11, RTG15, IFile14, ISg15, IOk14, TabF14, ITb14. -/
import Derived.Test.YticofefdbjihiaaRows
import Derived.Test.YticofefdbjihiaaFG1
import Derived.Test.YticofefdbjihiaaFG2
import Derived.WalkKit
import Derived.ProofKit
import Derived.OpenShut
import Derived.Below
import Derived.BigQuiet
import Derived.Maps.AppendAt
import Derived.Deep.RegionHeld3
import Derived.Lib.ConvBytes
import Derived.Laws.BytesArg
import Derived.Maps.OwnSet
set_option linter.unusedVariables false
set_option linter.unusedSimpArgs false
namespace Go.Proofs.Yticofefdbjihiaa.Law14
open Go.ChangeShapes Go.WideShapes Go.ChangeAt Go.RowKit Fil14 OpensF14 DiskH14 DkH14 SCom14
/-- The argument in its box, and what is read of it. -/
structure La (w W : World) (k : Int) (a : Option Addr) (len cap : Nat) (ps : List TF) : Prop where
  c0 : W.cell? ⟨w.heap.size, 0, none⟩ = some (.int .i64 k)
  c1 : W.cell? ⟨w.heap.size, 1, none⟩ = some (.slice a len cap)
  s : w.heap.size < W.heap.size
  b : Below w.heap.size w W
  r : ReadsF W a ps
section
variable {w W W' : World} {k : Int} {a : Option Addr} {len cap : Nat} {ps : List TF}
theorem La.start (h : ReadsF w a ps) (e : TypeId) : La w (w.alloc (.cells #[.int .i64 k, .slice a len cap] e)) k a len cap ps :=
  ⟨by simp, by simp, by simp, one_more _ _, h.below (one_more _ _)⟩
theorem La.step (h : La w W k a len cap ps) (b : Below W.heap.size W W') : La w W' k a len cap ps :=
  ⟨(b.cell (p := ⟨w.heap.size, 0, none⟩) h.s).trans h.c0, (b.cell (p := ⟨w.heap.size, 1, none⟩) h.s).trans h.c1, Nat.lt_of_lt_of_le h.s b.size, h.b.trans (b.mono (Nat.le_of_lt h.s)), h.r.below b⟩
theorem La.turn {B : Nat} (H : ReadsF w a ps) (h : La w W k a len cap ps) (b : Below B W W') (hB : w.heap.size < B) : La w W' k a len cap ps := by
  have q := h.b.trans (b.mono (Nat.le_of_lt hB))
  exact ⟨(b.cell (p := ⟨w.heap.size, 0, none⟩) hB).trans h.c0, (b.cell (p := ⟨w.heap.size, 1, none⟩) hB).trans h.c1, Nat.lt_of_lt_of_le h.s b.size, q, H.below q⟩
end
/-- A disk in a box. -/
structure Kd (W : World) (g : Nat) (x : Dx) : Prop where
  c0 : W.cell? ⟨g, 0, none⟩ = some (.int .i64 x.room)
  c1 : W.cell? ⟨g, 1, none⟩ = some (.slice x.a x.ps.length x.c)
  lt : g < W.heap.size
theorem Kd.made (w : World) (x : Dx) (e : TypeId) : Kd (w.alloc (.cells #[.int .i64 x.room, .slice x.a x.ps.length x.c] e)) w.heap.size x := ⟨by simp, by simp, by simp⟩
theorem Kd.step {W W' : World} {g : Nat} {x : Dx} (h : Kd W g x) (k : Below W.heap.size W W') : Kd W' g x :=
  ⟨(k.cell (p := ⟨g, 0, none⟩) h.lt).trans h.c0, (k.cell (p := ⟨g, 1, none⟩) h.lt).trans h.c1, Nat.lt_of_lt_of_le h.lt k.size⟩
theorem Kd.turn {W W' : World} {g : Nat} {x y : Dx} (h : Kd W g x) (k : TurnD y W W') (n : some g ≠ (Value.slice y.a y.ps.length y.c).ownBlock) : Kd W' g x := by
  have e : W'.heap[g]? = W.heap[g]? := k.block g h.lt n
  exact ⟨(World.cell?_of_block (w := W) e).trans h.c0, (World.cell?_of_block (w := W) e).trans h.c1, Nat.lt_of_lt_of_le h.lt k.size⟩
/-- A disk's files behind marks on another one's. -/
theorem own_turn {W W' : World} {base : Nat} {x y : Dx} (h : OwD W base x) (k : TurnD y W W') (n : ∀ g, (Value.slice x.a x.ps.length x.c).ownBlock = some g → some g ≠ (Value.slice y.a y.ps.length y.c).ownBlock) : OwD W' base x := by
  refine ⟨h.1, ?_⟩
  rcases h.2 with h1 | ⟨g, c, cur, h1, h2, h3, h4⟩
  · exact .inl h1
  · exact .inr ⟨g, c, cur, h1, h2, (k.block g (World.ownsRow.lt h g (by rw [h1]; rfl)).2 (n g (by rw [h1]; rfl))).trans h3, h4⟩
theorem rd_turn {W W' : World} {x y : Dx} (h : RdD W x) (k : TurnD y W W') (n : ∀ g, x.a = some ⟨g, 0, none⟩ → some g ≠ (Value.slice y.a y.ps.length y.c).ownBlock) : RdD W' x :=
  ⟨h.e, fun g e => ⟨Nat.lt_of_lt_of_le (h.r g e).1 k.size, fun i hi => by
    obtain ⟨p0, p1, p2⟩ := (h.r g e).2 i hi
    have q : W'.heap[g]? = W.heap[g]? := k.block g (h.r g e).1 (n g e)
    exact ⟨(World.cell?_of_block (w := W) q).trans p0, (World.cell?_of_block (w := W) q).trans p1, (World.cell?_of_block (w := W) q).trans p2⟩⟩, h.n⟩
/-- A block is none of a disk's that lies elsewhere. -/
theorem out_lo {W : World} {base : Nat} {y : Dx} {g : Nat} (h : OwD W base y) (hg : g < base) : some g ≠ (Value.slice y.a y.ps.length y.c).ownBlock := fun e => by
  have := (World.ownsRow.lt h g e.symm).1
  omega
theorem own_lt {W : World} {base g : Nat} {y : Dx} (h : OwD W base y) (e : (Value.slice y.a y.ps.length y.c).ownBlock = some g) : base ≤ g ∧ g < W.heap.size := World.ownsRow.lt h g e
theorem own_base {W : World} {base base' : Nat} {y : Dx} (h : OwD W base y) (hb : base' ≤ base) : OwD W base' y := App14.row_base h hb
end Go.Proofs.Yticofefdbjihiaa.Law14
namespace Go.Proofs.Yticofefdbjihiaa.SBytes
open Go.ChangeShapes Go.WideShapes Go.ChangeAt Go.RowKit
theorem hide {p : Prop} (h : p) : Hid p := h
theorem unhide {p : Prop} (h : Hid p) : p := h
/-- The bytes of a list: block g from its head on. -/
def AtB (w : World) (g : Nat) (xs : List Int) : Prop := ∀ i, i < xs.length → w.cell? ⟨g, i, none⟩ = some (.int .u8 (xs.getD i 0)) ∧ 0 ≤ xs.getD i 0 ∧ xs.getD i 0 ≤ 255
/-- One byte more in the sum. -/
def stepC (p : Int × Int) (d : Int) : Int × Int := ((p.1 + d + 1) % 65535, (p.2 + (p.1 + d + 1) % 65535) % 65535)
/-- The sum of the first k bytes. -/
def chk (xs : List Int) : Nat → Int × Int
  | 0 => (0, 0)
  | k + 1 => stepC (chk xs k) (xs.getD k 0)
theorem chk_in (xs : List Int) (k : Nat) : 0 ≤ (chk xs k).1 ∧ (chk xs k).1 < 65535 ∧ 0 ≤ (chk xs k).2 ∧ (chk xs k).2 < 65535 := by
  cases k with
  | zero => simp [chk]
  | succ k => simp only [chk, stepC]; omega
theorem AtB.below {w w' : World} {g B : Nat} {xs : List Int} (h : AtB w g xs) (k : Below B w w') (hg : g < B) : AtB w' g xs := fun i hi => ⟨(k.cell (p := ⟨g, i, none⟩) hg).trans (h i hi).1, (h i hi).2⟩
/-- Check of bytes. -/
def chkB (xs : List Int) : Int := 65536 * (chk xs xs.length).2 + (chk xs xs.length).1
theorem tmod_pos (a : Int) (h : 0 ≤ a) : a.tmod 65535 = a % 65535 := Int.tmod_eq_emod_of_nonneg h
set_option maxRecDepth 100000 in
set_option maxHeartbeats 4000000 in
theorem sCheck (w : World) (g cap : Nat) (xs : List Int) (h20 : xs.length ≤ 1048576) (hr : AtB w g xs) :
    Calls Try.prog 65 #[.slice (some ⟨g, 0, none⟩) xs.length cap] w fun e w' => e = .returned (.int .i64 (65536 * (chk xs xs.length).2 + (chk xs xs.length).1)) ∧ w' = w := by
  have R := hide hr
  clear hr
  go_enter Try.func65, Try.ntmps65
  go_wp2
  go_loopw [3, 4, 5] (fun a b i wr => ∃ (k : Nat) (x y : Int), k ≤ xs.length ∧ i = .int .i64 k ∧ a = .int .i64 x ∧ b = .int .i64 y ∧ Hid ((x, y) = chk xs k) ∧ wr = w) (fun _ _ i _ => xs.length - (intOf i).toNat)
  case atStart => exact ⟨0, 0, 0, by omega, rfl, rfl, rfl, rfl, rfl⟩
  case round =>
    obtain ⟨k, x, y, hk, rfl, rfl, rfl, HC, rfl⟩ := hrel
    have q := chk_in xs k
    rw [← unhide HC] at q
    obtain ⟨q0, q1, q2, q3⟩ := q
    simp only at q0 q1 q2 q3
    by_cases t : k < xs.length
    · obtain ⟨d, d0, d1⟩ := (unhide R) k t
      have N := hide (show ((x + xs.getD k 0 + 1) % 65535, (y + (x + xs.getD k 0 + 1) % 65535) % 65535) = chk xs (k + 1) from by simp only [chk]; rw [← unhide HC]; rfl)
      clear HC
      generalize xs.getD k 0 = v at *
      have a1 : wrap64 (x + v) = x + v := by rw [wrap64]; omega
      have a2 : wrap64 (x + v + 1) = x + v + 1 := by rw [wrap64]; omega
      have a3 : (x + v + 1).tmod 65535 = (x + v + 1) % 65535 := tmod_pos _ (by omega)
      have m1 : 0 ≤ (x + v + 1) % 65535 ∧ (x + v + 1) % 65535 < 65535 := by omega
      generalize (x + v + 1) % 65535 = m at *
      have a4 : wrap64 m = m := by rw [wrap64]; omega
      have a5 : wrap64 (y + m) = y + m := by rw [wrap64]; omega
      have a6 : (y + m).tmod 65535 = (y + m) % 65535 := tmod_pos _ (by omega)
      have m2 : 0 ≤ (y + m) % 65535 ∧ (y + m) % 65535 < 65535 := by omega
      generalize (y + m) % 65535 = n at *
      have a7 : wrap64 n = n := by rw [wrap64]; omega
      have a8 : wrap64 v = v := by rw [wrap64]; omega
      go_wp2
      go_roundw
      case rel => exact ⟨k + 1, m, n, by omega, by go_num, by simp [a1, a2, a3, a4], by simp [a1, a2, a3, a4, a5, a6, a7], N, trivial⟩
      case measure => simp [intOf]; omega
    · have e : k = xs.length := by omega
      subst e
      have a1 : wrap64 (65536 * y) = 65536 * y := by rw [wrap64]; omega
      have a2 : wrap64 (65536 * y + x) = 65536 * y + x := by rw [wrap64]; omega
      have c1 : x = (chk xs xs.length).1 := congrArg Prod.fst (unhide HC)
      have c2 : y = (chk xs xs.length).2 := congrArg Prod.snd (unhide HC)
      have C1 := hide c1
      have C2 := hide c2
      clear c1 c2
      go_wp2
      go_ret
      exact ⟨by rw [← unhide C1, ← unhide C2]; simp [a1, a2], rfl⟩
/-- What the first k bytes from at on are worth. -/
def val (xs : List Int) (at' : Nat) : Nat → Int
  | 0 => 0
  | k + 1 => val xs at' k + xs.getD (at' + k) 0 % 128 * 128 ^ k
/-- The number that is read from at on, k bytes being read and f left. -/
def getF (xs : List Int) (at' : Nat) : Nat → Nat → Int × Int × Bool
  | 0, _ => (0, 0, false)
  | f + 1, k => if at' + k < xs.length then (if xs.getD (at' + k) 0 < 128 then (if xs.getD (at' + k) 0 = 0 ∧ 0 < k then (0, 0, false) else (val xs at' (k + 1), ((at' + k + 1 : Nat) : Int), true)) else getF xs at' f (k + 1)) else (0, 0, false)
/-- The number that is read from at on. -/
def getN (xs : List Int) (at' : Int) : Int × Int × Bool := if at' < 0 ∨ (xs.length : Int) ≤ at' then (0, 0, false) else getF xs at'.toNat 9 0
theorem pow_le (k : Nat) (h : k ≤ 8) : 1 ≤ (128 : Int) ^ k ∧ (128 : Int) ^ k ≤ 72057594037927936 := by
  have : k = 0 ∨ k = 1 ∨ k = 2 ∨ k = 3 ∨ k = 4 ∨ k = 5 ∨ k = 6 ∨ k = 7 ∨ k = 8 := by omega
  rcases this with rfl | rfl | rfl | rfl | rfl | rfl | rfl | rfl | rfl <;> decide
theorem pow_more (k : Nat) : (128 : Int) ^ (k + 1) = 128 ^ k * 128 := Int.pow_succ 128 k
theorem val_in (xs : List Int) (at' k : Nat) : 0 ≤ val xs at' k ∧ val xs at' k < 128 ^ k := by
  induction k with
  | zero => simp [val]
  | succ k ih =>
    have p : (0 : Int) ≤ 128 ^ k := by omega
    have d0 : 0 ≤ xs.getD (at' + k) 0 % 128 := by omega
    have d1 : xs.getD (at' + k) 0 % 128 ≤ 127 := by omega
    have m0 := Int.mul_nonneg d0 p
    have m1 := Int.mul_le_mul_of_nonneg_right d1 p
    rw [pow_more]
    simp only [val]
    omega
set_option maxRecDepth 100000 in
set_option maxHeartbeats 8000000 in
theorem sGetNum (w : World) (g cap : Nat) (xs : List Int) (at' : Int) (h20 : xs.length ≤ 1048576) (hr : AtB w g xs) :
    Calls Try.prog 64 #[.slice (some ⟨g, 0, none⟩) xs.length cap, .int .i64 at'] w fun e w' => e = .returned (.tuple #[.int .i64 (getN xs at').1, .int .i64 (getN xs at').2.1, .bool (getN xs at').2.2]) ∧ w' = w := by
  have R := hide hr
  clear hr
  by_cases p0 : at' < 0
  · have e : getN xs at' = (0, 0, false) := by unfold getN; rw [if_pos (.inl p0)]
    rw [e]
    clear e
    go_enter Try.func64, Try.ntmps64
    go_wp2
    go_ret3
    exact ⟨rfl, rfl⟩
  by_cases p1 : (xs.length : Int) ≤ at'
  · have e : getN xs at' = (0, 0, false) := by unfold getN; rw [if_pos (.inr p1)]
    rw [e]
    clear e
    go_enter Try.func64, Try.ntmps64
    go_wp2
    go_ret3
    exact ⟨rfl, rfl⟩
  obtain ⟨n, rfl⟩ : ∃ n : Nat, at' = n := ⟨at'.toNat, by omega⟩
  have E0 := hide (show getN xs n = getF xs n 9 0 from by unfold getN; rw [if_neg (by omega)]; simp)
  have p2 : n < xs.length := by omega
  generalize getN xs n = r at *
  obtain ⟨r0, r1, r2⟩ := r
  go_enter Try.func64, Try.ntmps64
  go_wp2
  clear p0 p1
  go_loopw [7, 8, 9, 10] (fun a u i _ wr => ∃ (k : Nat) (x v : Int), k ≤ 9 ∧ i = .int .i64 k ∧ a = .int .i64 x ∧ u = .int .i64 v ∧ Hid (x = val xs n k) ∧ Hid (k ≤ 8 → v = 128 ^ k) ∧ Hid ((r0, r1, r2) = getF xs n (9 - k) k) ∧ wr = w) (fun _ _ i _ _ => 9 - (intOf i).toNat)
  case atStart => exact ⟨0, 0, 1, by omega, rfl, rfl, rfl, rfl, hide (fun _ => rfl), E0, rfl⟩
  case round =>
    obtain ⟨k, x, v, hk, rfl, rfl, rfl, HX, HV, HE, rfl⟩ := hrel
    clear E0
    by_cases t : k = 9
    · subst t
      have F := unhide HE
      simp only [Nat.sub_self, getF] at F
      injection F with F0 F
      injection F with F1 F2
      subst F0 F1 F2
      clear HX HV HE
      go_wp2
      go_ret3
      exact ⟨rfl, rfl⟩
    by_cases t1 : n + k < xs.length
    case neg =>
      have F := unhide HE
      rw [show 9 - k = (9 - (k + 1)) + 1 by omega] at F
      simp only [getF] at F
      rw [if_neg t1] at F
      injection F with F0 F
      injection F with F1 F2
      subst F0 F1 F2
      have a0 : wrap64 ((n : Int) + (k : Int)) = n + k := by rw [wrap64]; omega
      have a1 : ¬ ((n : Int) + k < xs.length) := by omega
      have a2 : (k : Int) < 9 := by omega
      clear HX HV HE t1 t hk
      go_wp2
      go_ret3
      exact ⟨rfl, rfl⟩
    obtain ⟨d, d0, d1⟩ := (unhide R) (n + k) t1
    have hv := (unhide HV) (by omega)
    have V1 := hide (show x + xs.getD (n + k) 0 % 128 * v = val xs n (k + 1) from by rw [unhide HX, hv]; rfl)
    have V2 := hide (show k + 1 ≤ 8 → v * 128 = 128 ^ (k + 1) from fun _ => by rw [hv, pow_more])
    have XI := hide (show 0 ≤ x ∧ x < v from by have q := val_in xs n k; rw [← hv, ← unhide HX] at q; exact q)
    have ST := hide (show (r0, r1, r2) = if xs.getD (n + k) 0 < 128 then (if xs.getD (n + k) 0 = 0 ∧ 0 < k then (0, 0, false) else (val xs n (k + 1), ((n + k + 1 : Nat) : Int), true)) else getF xs n (9 - (k + 1)) (k + 1) from by
      rw [unhide HE, show 9 - k = (9 - (k + 1)) + 1 by omega]
      simp only [getF]
      rw [if_pos t1])
    rw [← unhide V1] at ST
    clear HX HV HE
    generalize xs.getD (n + k) 0 = y at *
    have Y := hide (show 0 ≤ y ∧ y ≤ 255 from ⟨d0, d1⟩)
    have a0 : wrap64 ((n : Int) + (k : Int)) = n + k := by rw [wrap64]; omega
    have a1 : (n : Int) + k < xs.length := by omega
    have a2 : (k : Int) < 9 := by omega
    have a3 : wrap64 y = y := by rw [wrap64]; omega
    have b1 : y.tmod 128 = y % 128 := Int.tmod_eq_emod_of_nonneg d0
    have b2 : wrap64 (y % 128) = y % 128 := by rw [wrap64]; omega
    have pv := pow_le k (by omega)
    rw [← hv] at pv
    have m0 := Int.mul_nonneg (show 0 ≤ y % 128 by omega) (show 0 ≤ v by omega)
    have m1 := Int.mul_le_mul_of_nonneg_right (show y % 128 ≤ 127 by omega) (show 0 ≤ v by omega)
    have xi := unhide XI
    have b3 : wrap64 (y % 128 * v) = y % 128 * v := by
      generalize y % 128 * v = m at *
      rw [wrap64]; omega
    have b4 : wrap64 (x + y % 128 * v) = x + y % 128 * v := by
      generalize y % 128 * v = m at *
      rw [wrap64]; omega
    have b5 : wrap64 ((n : Int) + k + 1) = n + k + 1 := by rw [wrap64]; omega
    have b6 := hide (show k + 1 ≤ 8 → wrap64 (v * 128) = v * 128 from fun _ => by
      have := pow_le (k + 1) (by omega)
      rw [pow_more, ← hv] at this
      rw [wrap64]; omega)
    have B := hide (And.intro b1 (And.intro b2 (And.intro b3 (And.intro b4 b5))))
    clear hv d0 d1 t t1 pv m0 m1 xi XI b1 b2 b3 b4 b5
    by_cases y1 : y < 128
    · by_cases y2 : y = 0
      · by_cases k0 : 0 < k
        · have F := unhide ST
          rw [if_pos y1, if_pos ⟨y2, k0⟩] at F
          injection F with F0 F
          injection F with F1 F2
          subst F0 F1 F2
          subst y2
          have k1 : (0 : Int) < k := by omega
          clear ST V1 V2 hk
          go_wp2
          go_ret3
          exact ⟨rfl, rfl⟩
        · have F := unhide ST
          rw [if_pos y1, if_neg (fun h => k0 h.2)] at F
          injection F with F0 F
          injection F with F1 F2
          subst F0 F1 F2
          subst y2
          have k1 : ¬ (0 : Int) < k := by omega
          clear ST V1 V2 hk
          go_wp2
          go_ret3
          obtain ⟨b1, b2, b3, b4, b5⟩ := unhide B
          simp at b4
          exact ⟨by simp [b4, b5], rfl⟩
      · have F := unhide ST
        rw [if_pos y1, if_neg (fun h => y2 h.1)] at F
        injection F with F0 F
        injection F with F1 F2
        subst F0 F1 F2
        have y3 : (y == 0) = false := by simp [y2]
        clear ST V1 V2 hk y2
        go_wp2
        go_ret3
        obtain ⟨b1, b2, b3, b4, b5⟩ := unhide B
        exact ⟨by simp [b1, b2, b3, b4, b5], rfl⟩
    · have F := unhide ST
      rw [if_neg y1] at F
      have HF := hide F
      clear ST F
      go_wp2
      go_roundw
      case rel =>
        obtain ⟨b1, b2, b3, b4, b5⟩ := unhide B
        exact ⟨k + 1, x + y % 128 * v, wrap64 (v * 128), by omega, by go_num, by simp [b1, b2, b3, b4], rfl, V1, hide (fun h => by rw [(unhide b6) h]; exact (unhide V2) h), HF, trivial⟩
      case measure => simp [intOf]; omega
end Go.Proofs.Yticofefdbjihiaa.SBytes
namespace Go.Proofs.Yticofefdbjihiaa.ByteH
open Go.ChangeShapes Go.WideShapes Go.ChangeAt Go.RowKit
theorem info8 : (Try.prog.info? 5).map (fun i => (i.zero, i.size, i.bytes)) = some (some (.int .u8 0), 1, 1) := by kernel_rfl
/-- The numbers of a list of the call's own: block g from its head on. -/
def At (w : World) (g : Nat) (xs : List Int) : Prop := ∀ i, i < xs.length → w.cell? ⟨g, i, none⟩ = some (.int .u8 (xs.getD i 0))
/-- A list that came in, or any other one: nothing is asked where it is empty. -/
def Reads (w : World) (a : Option Addr) (xs : List Int) : Prop :=
  xs.length = 0 ∨ ∃ b off, a = some ⟨b, off, none⟩ ∧ b < w.heap.size ∧ ∀ i, i < xs.length → w.cell? ⟨b, off + i, none⟩ = some (.int .u8 (xs.getD i 0))
/-- A list of the call's own, from block number base on. -/
def Own (w : World) (base g n cap : Nat) (xs : List Int) : Prop := w.ownsRow base 5 1 (.slice (some ⟨g, 0, none⟩) n cap) n (xs.map (Value.int .u8))
theorem Own.len {w : World} {base g n cap : Nat} {xs : List Int} (h : Own w base g n cap xs) : xs.length = n := by
  have := h.1
  simpa using this
theorem Own.lt {w : World} {base g n cap : Nat} {xs : List Int} (h : Own w base g n cap xs) : base ≤ g ∧ g < w.heap.size := World.ownsRow.lt h g rfl
theorem Own.at {w : World} {base g n cap : Nat} {xs : List Int} (h : Own w base g n cap xs) : At w g xs := by
  intro i hi
  have hl := h.len
  have := World.ownsRow.cellAt h i (by omega)
  rw [this]
  simp [List.getD, hi]
theorem Own.free {w : World} {base g n cap : Nat} {xs : List Int} (h : Own w base g n cap xs) (i : Nat) : w.frozen? ⟨g, i, none⟩ = false := World.ownsRow.frozenAt h i
theorem Own.mono {w : World} {base base' g n cap : Nat} {xs : List Int} (h : Own w base g n cap xs) (hb : base' ≤ base) : Own w base' g n cap xs := by
  refine ⟨h.1, ?_⟩
  rcases h.2 with ⟨h1, _⟩ | ⟨g', c, cur, h1, h2, h3⟩
  · simp at h1
  · exact Or.inr ⟨g', c, cur, h1, Nat.le_trans hb h2, h3⟩
/-- From another number on, where the block is not below it. -/
theorem Own.rebase {w : World} {base base' g n cap : Nat} {xs : List Int} (h : Own w base g n cap xs) (hb : base' ≤ g) : Own w base' g n cap xs := by
  refine ⟨h.1, ?_⟩
  rcases h.2 with ⟨h1, _⟩ | ⟨g', c, cur, h1, h2, h3⟩
  · simp at h1
  · obtain ⟨e, _⟩ : g = g' ∧ cap = c := by simpa using h1
    subst e
    exact Or.inr ⟨g, c, cur, h1, hb, h3⟩
theorem Own.kept {w w' : World} {base g n cap : Nat} {xs : List Int} {row : Option Nat} (h : Own w base g n cap xs) (k : w.grownBy w' row) (hne : some g ≠ row) : Own w' base g n cap xs :=
  World.ownsRow.kept h k (Or.inr hne)
theorem Own.below {w w' : World} {base g n cap B : Nat} {xs : List Int} (h : Own w base g n cap xs) (k : Below B w w') (hg : g < B) : Own w' base g n cap xs := by
  refine ⟨h.1, ?_⟩
  rcases h.2 with ⟨h1, _⟩ | ⟨g', c, cur, h1, h2, h3, h4⟩
  · simp at h1
  · obtain ⟨e, _⟩ : g = g' ∧ cap = c := by simpa using h1
    subst e
    exact Or.inr ⟨g, c, cur, h1, h2, by rw [k.block g hg]; exact h3, h4⟩
theorem At.below {w w' : World} {g B : Nat} {xs : List Int} (h : At w g xs) (k : Below B w w') (hg : g < B) : At w' g xs := fun i hi => (k.cell (p := ⟨g, i, none⟩) hg).trans (h i hi)
theorem Reads.below {w w' : World} {a : Option Addr} {xs : List Int} (h : Reads w a xs) (k : Below w.heap.size w w') : Reads w' a xs := by
  rcases h with h | ⟨b, off, rfl, hb, hc⟩
  · exact Or.inl h
  · exact Or.inr ⟨b, off, rfl, Nat.lt_of_lt_of_le hb k.size, fun i hi => (k.cell (p := ⟨b, off + i, none⟩) hb).trans (hc i hi)⟩
/-- A store into a list of the call's own. -/
theorem Own.set {w : World} {base g n cap : Nat} {xs : List Int} (h : Own w base g n cap xs) (i : Nat) (x : Int) :
    Own (w.setCell ⟨g, i, none⟩ (.int .u8 x)) base g n cap (xs.set i x) ∧ w.grownBy (w.setCell ⟨g, i, none⟩ (.int .u8 x)) (some g) := by
  have := World.ownsRow.stored h i (.int .u8 x)
  refine ⟨?_, this.2⟩
  unfold Own
  rw [List.map_set]
  exact this.1
end Go.Proofs.Yticofefdbjihiaa.ByteH
namespace Go.Proofs.Yticofefdbjihiaa.SPut11
open Go.ChangeShapes Go.WideShapes Go.ChangeAt Go.RowKit SBytes
open ByteH (Own At)
theorem own_of_row {w : World} {base n n' : Nat} {v : Value} {vs : List Value} {xs : List Int} (h : w.ownsRow base 5 1 v n vs) (hn : n = n') (e : vs = xs.map (Value.int .u8)) (hv : ¬ v = .slice none 0 0) :
    ∃ g c, v = .slice (some ⟨g, 0, none⟩) n' c ∧ Own w base g n' c xs := by
  subst hn e
  have h' := h
  rcases h.2 with ⟨h1, _⟩ | ⟨g, c, cur, rfl, _⟩
  · exact absurd h1 hv
  · exact ⟨g, c, rfl, h'⟩
theorem own_alloc {w : World} {base g n cap : Nat} {xs : List Int} (h : Own w base g n cap xs) (o : Obj) : Own (w.alloc o) base g n cap xs := World.ownsRow.alloc h o
theorem lit0 (w : World) (base : Nat) {g : Nat} (hb : base ≤ w.heap.size) (hg : g = w.heap.size) : Own (w.alloc (.cells #[] 5)) base g 0 0 [] := by
  subst hg
  exact World.ownsRow_lit w #[] 0 hb (by decide) rfl
/-- Bytes that lie from a place on. -/
def AtO (w : World) (g o : Nat) (xs : List Int) : Prop := ∀ i, i < xs.length → w.cell? ⟨g, o + i, none⟩ = some (.int .u8 (xs.getD i 0))
theorem AtO.of {w : World} {g : Nat} {xs : List Int} (h : At w g xs) : AtO w g 0 xs := fun i hi => by rw [Nat.zero_add]; exact h i hi
/-- Bytes appended to bytes of the call's own. -/
theorem wp_catB (u : World) {ops : Array Oper} {rest : List Oper} {o : Oper} {a : Act} {Q : Exit → Act → World → Prop} (hgd : o.guard = none) (s x : Operand)
    (ho : o.op = .call { callee := .builtin .append, args := #[s, x], argTypes := #[53, 53] }) (base g n cap m : Nat) (xs ys : List Int) (vb off c : Nat)
    (hs : a.eval s = .slice (some ⟨g, 0, none⟩) n cap) (hx : a.eval x = .slice (some ⟨vb, off, none⟩) m c) (hown : Own u base g n cap xs) (hl : ys.length = m) (hv : AtO u vb off ys) (hn : n + m ≤ 9223372036854) (hb : base ≤ u.heap.size)
    (h : ∀ g' c' w', Own w' base g' (n + m) c' (xs ++ ys) → u.grownBy w' (some g) → (g' = g ∨ g' = u.heap.size) → wpList Try.prog ops Q rest (a.put o.dst (.slice (some ⟨g', 0, none⟩) (n + m) c')) w') : wpList Try.prog ops Q (o :: rest) a u := by
  obtain ⟨i0, hi, hz0, hz1, hz2⟩ := info_parts ByteH.info8
  refine wpList_append_own_at u hgd s x 53 ho base 5 i0 (.int .u8 0) 1 1 Try.underlying53 hi hz0 hz1 hz2 rfl (by decide) _ n _ hs hown ⟨vb, off, none⟩ m c (ys.map (Value.int .u8)) hx (by simp [hl]) (fun j v hj => by
    have hj' : j < ys.length := by
      have := (List.getElem?_eq_some_iff.1 hj).1
      simpa using this
    have := hv j hj'
    rw [Addr.add_lit, this]
    rw [← hj]
    simp [List.getD, hj']) (by intro u hu; obtain ⟨y, _, rfl⟩ := List.mem_map.1 hu; simp [Value.oneCell']) (by unfold maxLen; omega) (by omega) hb ?_
  intro v' w' own' gr' nil' loc'
  obtain ⟨g', c', rfl, o'⟩ := own_of_row (n' := n + m) (xs := xs ++ ys) own' rfl (by simp) (by rw [nil']; simp)
  exact h g' c' w' o' gr' (by simpa [Value.ownBlock] using loc')
theorem lit_one (w : World) (y : Int) : AtO (w.alloc (.cells #[.int .u8 y] 5)) w.heap.size 0 [y] := by
  intro i hi
  have : i = 0 := by simpa using hi
  subst this
  simp
/-- The form of a number: seven bits a byte, the lowest first. -/
def numF (x : Nat) : List Int := if 127 < x then ((x % 128 + 128 : Nat) : Int) :: numF (x / 128) else [(x : Int)]
termination_by x
theorem numF_more {x : Nat} (h : 127 < x) : numF x = ((x % 128 + 128 : Nat) : Int) :: numF (x / 128) := by rw [numF, if_pos h]
theorem numF_last {x : Nat} (h : ¬ 127 < x) : numF x = [(x : Int)] := by rw [numF, if_neg h]
theorem numF_len (n : Nat) : ∀ x : Nat, x < 128 ^ (n + 1) → (numF x).length ≤ n + 1 := by
  induction n with
  | zero => intro x h; rw [numF_last (by omega)]; simp
  | succ n ih =>
    intro x h
    by_cases t : 127 < x
    · rw [numF_more t]
      have := ih (x / 128) (by rw [Nat.pow_succ] at h; omega)
      simp
      omega
    · rw [numF_last t]; simp
/-- What PutNum answers. -/
def numB (x : Int) : List Int := if x < 0 then [] else numF x.toNat
theorem numF_nine {x : Nat} (h : x ≤ 9223372036854775807) : (numF x).length ≤ 9 := numF_len 8 x (by omega)
theorem numB_nine {x : Int} (h : x ≤ 9223372036854775807) : (numB x).length ≤ 9 := by
  unfold numB
  split
  · simp
  · exact numF_nine (by omega)
theorem one_more (w : World) (o : Obj) : Below w.heap.size w (w.alloc o) := (Below.refl _ _).alloc (Nat.le_refl _) _
set_option maxRecDepth 100000 in
set_option maxHeartbeats 4000000 in
theorem sPutNum (w : World) (x0 : Int) (hx : x0 ≤ 9223372036854775807) :
    Calls Try.prog 77 #[.int .i64 x0] w fun e w' => ∃ g c, e = .returned (.slice (some ⟨g, 0, none⟩) (numB x0).length c) ∧ Own w' w.heap.size g (numB x0).length c (numB x0) ∧ Below w.heap.size w w' := by
  have O0 := hide (lit0 w w.heap.size (Nat.le_refl _) rfl)
  have B0 := hide (one_more w (.cells #[] 5))
  by_cases h0 : x0 < 0
  · have e : numB x0 = [] := if_pos h0
    rw [e]
    clear e hx
    go_enter Try.func77, Try.ntmps77
    go_wp2
    go_ret
    exact ⟨w.heap.size, 0, rfl, unhide O0, unhide B0⟩
  have e : numB x0 = numF x0.toNat := if_neg h0
  rw [e]
  have L := hide (numF_nine (x := x0.toNat) (by omega))
  clear e
  obtain ⟨r, hr⟩ : ∃ r, Hid (numF x0.toNat = r) := ⟨_, rfl⟩
  rw [unhide hr] at L ⊢
  have h1 : 0 ≤ x0 := by omega
  have S0 := hide (show ([] : List Int) ++ numF x0.toNat = r from unhide hr)
  clear hr h0
  go_enter Try.func77, Try.ntmps77
  go_wp2
  go_loopw [0, 3] (fun a l wr => ∃ (x : Int) (p : List Int) (g c : Nat), a = .int .i64 x ∧ l = .slice (some ⟨g, 0, none⟩) p.length c ∧ 0 ≤ x ∧ x ≤ 9223372036854775807 ∧ Hid (p ++ numF x.toNat = r) ∧ Hid (Own wr w.heap.size g p.length c p) ∧ Hid (Below w.heap.size w wr)) (fun a _ _ => (intOf a).toNat)
  case atStart => exact ⟨x0, [], w.heap.size, 0, rfl, rfl, h1, hx, S0, O0, B0⟩
  case round =>
    clear O0 B0 S0 hx h1
    obtain ⟨x, p, g, c, rfl, rfl, x1, x2, HR, HO, HB⟩ := hrel
    have bs := (unhide HB).size
    have pl : p.length ≤ 9 := by have a := unhide L; rw [← unhide HR] at a; simp at a; omega
    have og := (unhide HO).lt
    have HX := hide (And.intro x1 x2)
    by_cases t : 127 < x
    · have N := hide (show (p ++ [x % 128 + 128]) ++ numF (x / 128).toNat = r from by
        rw [← unhide HR, numF_more (x := x.toNat) (by omega), List.append_assoc]
        have e1 : ((x.toNat % 128 + 128 : Nat) : Int) = x % 128 + 128 := by omega
        have e2 : x.toNat / 128 = (x / 128).toNat := by omega
        rw [e1, e2]; rfl)
      have E := hide (show wrap64 (x.tdiv 128) = x / 128 from by rw [Int.tdiv_eq_ediv_of_nonneg x1, wrap64]; omega)
      clear HR x1 x2
      go_wp2_with (first | (at_builtin; refine wp_catB _ rfl _ _ rfl w.heap.size g p.length c 1 p [x % 128 + 128] wr.heap.size 0 1 rfl rfl (own_alloc (unhide HO) _) rfl (lit_one _ _) (by omega) (by simp; omega) ?_) | go_in)
      intro g5 c5 w5 o5 gr5 loc5
      have O5 := hide o5
      have B5 := hide (((unhide HB).alloc (by omega) (.cells #[.int .u8 (x % 128 + 128)] 5)).grown gr5 (by simp; omega) (fun j hj => by cases hj; exact og.1))
      clear o5 gr5 loc5
      go_wp2
      go_roundw
      case rel =>
        have xx := unhide HX
        exact ⟨x / 128, p ++ [x % 128 + 128], g5, c5, congrArg (Value.int .i64) (unhide E), by rw [show (p ++ [x % 128 + 128]).length = p.length + 1 by simp], by omega, by omega, N, hide (by rw [show (p ++ [x % 128 + 128]).length = p.length + 1 by simp]; exact unhide O5), B5⟩
      case measure =>
        have xx := unhide HX
        have e := unhide E
        simp [intOf, e]
        omega
    · have N := hide (show p ++ [x] = r from by
        rw [← unhide HR, numF_last (x := x.toNat) (by omega)]
        have e1 : ((x.toNat : Nat) : Int) = x := by omega
        rw [e1])
      clear HR
      go_wp2_with (first | (at_builtin; refine wp_catB _ rfl _ _ rfl w.heap.size g p.length c 1 p [x] wr.heap.size 0 1 rfl rfl (own_alloc (unhide HO) _) rfl (lit_one _ _) (by omega) (by simp; omega) ?_) | go_in)
      intro g5 c5 w5 o5 gr5 loc5
      have O5 := hide o5
      have B5 := hide (((unhide HB).alloc (by omega) (.cells #[.int .u8 x] 5)).grown gr5 (by simp; omega) (fun j hj => by cases hj; exact og.1))
      clear o5 gr5 loc5
      go_wp2
      go_ret
      have e := unhide N
      have e1 : r.length = p.length + 1 := by rw [← e]; simp
      exact ⟨g5, c5, by rw [e1]; rfl, by rw [e1, ← e]; exact unhide O5, unhide B5⟩
end Go.Proofs.Yticofefdbjihiaa.SPut11
namespace Go.Proofs.Yticofefdbjihiaa.SUnseal11
open Go.ChangeShapes Go.WideShapes Go.ChangeAt Go.RowKit SBytes SPut11
open ByteH (Own At)
theorem w64 (x : Int) (h0 : 0 ≤ x) (h1 : x ≤ 9223372036854775807) : IntKind.i64.wrap x = x := by
  rw [IntKind.wrap_i64]
  omega
/-- The bytes of a list from a place on. -/
def piece (xs : List Int) (f n : Nat) : List Int := (xs.drop f).take n
theorem piece_len {xs : List Int} {f n : Nat} (h : f + n ≤ xs.length) : (piece xs f n).length = n := by simp [piece]; omega
theorem piece_get {xs : List Int} {f n i : Nat} (h : i < n) : (piece xs f n).getD i 0 = xs.getD (f + i) 0 := by simp [piece, List.getD, h]
/-- Four bytes as a number, the lowest first. -/
def fourN (xs : List Int) (f : Nat) : Int := xs.getD f 0 + xs.getD (f + 1) 0 * 256 + xs.getD (f + 2) 0 * 65536 + xs.getD (f + 3) 0 * 16777216
/-- What Unseal answers. -/
def unsealN (xs : List Int) (p : Int) : List Int × Int × Int :=
  if (getN xs p).2.2 = false ∨ 9000 < (getN xs p).1 then ([], 0, 1)
  else if (xs.length : Int) - (getN xs p).2.1 < (getN xs p).1 + 4 then ([], 0, 2)
  else if chkB (piece xs (getN xs p).2.1.toNat (getN xs p).1.toNat) = fourN xs ((getN xs p).2.1.toNat + (getN xs p).1.toNat) then (piece xs (getN xs p).2.1.toNat (getN xs p).1.toNat, (getN xs p).2.1 + (getN xs p).1 + 4, 0)
  else ([], 0, 3)
theorem getF_in (xs : List Int) (q : Nat) : ∀ f k, (getF xs q f k).2.2 = true → 0 ≤ (getF xs q f k).1 ∧ 0 ≤ (getF xs q f k).2.1 ∧ (getF xs q f k).2.1 ≤ xs.length
  | 0, k => by simp [getF]
  | f + 1, k => by
    intro h
    simp only [getF] at h ⊢
    by_cases a : q + k < xs.length
    · rw [if_pos a] at h ⊢
      by_cases b : xs.getD (q + k) 0 < 128
      · rw [if_pos b] at h ⊢
        by_cases c : xs.getD (q + k) 0 = 0 ∧ 0 < k
        · rw [if_pos c] at h; simp at h
        · rw [if_neg c]
          exact ⟨(val_in xs q (k + 1)).1, by simp only; omega, by simp only; omega⟩
      · rw [if_neg b] at h ⊢
        exact getF_in xs q f (k + 1) h
    · rw [if_neg a] at h; simp at h
theorem getN_in (xs : List Int) (p : Int) (h : (getN xs p).2.2 = true) : 0 ≤ (getN xs p).1 ∧ 0 ≤ (getN xs p).2.1 ∧ (getN xs p).2.1 ≤ xs.length := by
  unfold getN at h ⊢
  by_cases a : p < 0 ∨ (xs.length : Int) ≤ p
  · rw [if_pos a] at h; simp at h
  · rw [if_neg a] at h ⊢
    exact getF_in xs _ 9 0 h
set_option maxRecDepth 100000 in
set_option maxHeartbeats 4000000 in
theorem sUnseal (w : World) (gl cl : Nat) (xs : List Int) (p0 : Int) (h20 : xs.length ≤ 1048576) (hc : xs.length ≤ cl) (hg : gl < w.heap.size) (hr : AtB w gl xs) :
    Calls Try.prog 36 #[.slice (some ⟨gl, 0, none⟩) xs.length cl, .int .i64 p0] w fun e w' => ∃ g c, e = .returned (.tuple #[.slice (some ⟨g, 0, none⟩) (unsealN xs p0).1.length c, .int .i64 (unsealN xs p0).2.1, .int .i64 (unsealN xs p0).2.2]) ∧ Own w' w.heap.size g (unsealN xs p0).1.length c (unsealN xs p0).1 ∧ Below w.heap.size w w' := by
  have O0 := hide (lit0 w w.heap.size (Nat.le_refl _) rfl)
  have B0 := hide (one_more w (.cells #[] 5))
  have R := hide hr
  have HG := hide hg
  have GI := hide (getN_in xs p0)
  have SG := hide (sGetNum w gl cl xs p0 h20 hr)
  obtain ⟨r, hq⟩ : ∃ r, Hid (unsealN xs p0 = r) := ⟨_, rfl⟩
  rw [unhide hq]
  unfold unsealN at hq
  clear hr hg
  generalize getN xs p0 = y at *
  obtain ⟨n, f, ok⟩ := y
  cases ok with
  | false =>
    have e := unhide hq
    rw [if_pos (.inl rfl)] at e
    subst e
    clear hq GI
    go_enter Try.func36, Try.ntmps36
    go_wp2_with fail
    refine (unhide SG).mono ?_
    rintro e u ⟨rfl, rfl⟩
    go_wp2
    go_ret3
    exact ⟨_, 0, rfl, unhide O0, unhide B0⟩
  | true =>
    obtain ⟨g0, g1, g2⟩ := (unhide GI) rfl
    simp only at g0 g1 g2
    clear GI
    by_cases n9 : 9000 < n
    · have e := unhide hq
      rw [if_pos (.inr n9)] at e
      subst e
      clear hq
      go_enter Try.func36, Try.ntmps36
      go_wp2_with fail
      refine (unhide SG).mono ?_
      rintro e u ⟨rfl, rfl⟩
      go_wp2
      go_ret3
      exact ⟨_, 0, rfl, unhide O0, unhide B0⟩
    have e := unhide hq
    rw [if_neg (by simp; omega)] at e
    simp only at e
    obtain ⟨n, rfl⟩ : ∃ m : Nat, n = m := ⟨n.toNat, by omega⟩
    obtain ⟨f, rfl⟩ : ∃ m : Nat, f = m := ⟨f.toNat, by omega⟩
    have a1 : wrap64 ((xs.length : Int) - f) = xs.length - f := by rw [wrap64]; omega
    have a2 : wrap64 ((n : Int) + 4) = n + 4 := by rw [wrap64]; omega
    clear hq
    by_cases s : (xs.length : Int) - f < n + 4
    · rw [if_pos s] at e
      subst e
      go_enter Try.func36, Try.ntmps36
      go_wp2_with fail
      refine (unhide SG).mono ?_
      rintro e u ⟨rfl, rfl⟩
      go_wp2
      go_ret3
      exact ⟨_, 0, rfl, unhide O0, unhide B0⟩
    rw [if_neg s, Int.toNat_natCast, Int.toNat_natCast] at e
    have E := hide e
    clear e
    have fn : f + n + 4 ≤ xs.length := by omega
    have a3 : wrap64 ((f : Int) + n) = f + n := by rw [wrap64]; omega
    have a4 : wrap64 ((f : Int) + n + 4) = f + n + 4 := by rw [wrap64]; omega
    have PL := hide (piece_len (xs := xs) (f := f) (n := n) (by omega))
    have PA := hide (show AtO (w.alloc (.cells #[] 5)) gl f (piece xs f n) from fun i hi => by
      rw [unhide PL] at hi
      rw [piece_get hi]
      exact ((AtB.below (unhide R) (unhide B0) (unhide HG)) (f + i) (by omega)).1)
    have b0 : (f : Int) ≤ f + n := by omega
    have b1 : (f : Int) + n ≤ cl := by omega
    have b2 : (f : Int) + n + 4 ≤ cl := by omega
    have b3 : (f : Int) + n ≤ f + n + 4 := by omega
    clear g0 g1 g2
    go_enter Try.func36, Try.ntmps36
    go_wp2_with fail
    refine (unhide SG).mono ?_
    rintro e u ⟨rfl, rfl⟩
    go_wp2_with (first | (at_builtin; refine wp_catB _ rfl _ _ rfl u.heap.size u.heap.size 0 0 n [] (piece xs f n) gl f (cl - f) rfl (by first | rfl | (simp [go_sem]; done) | (simp [Act.eval]; omega)) (unhide O0) (unhide PL) (unhide PA) (by omega) (by simp) ?_) | go_in)
    intro g5 c5 w5 o5 gr5 loc5
    have og := o5.lt
    have B5 := hide (show Below u.heap.size u w5 from (unhide B0).grown gr5 (by simp) (fun j hj => by cases hj; exact Nat.le_refl _))
    have O5 := hide o5
    have R5 := hide (AtB.below (unhide R) (unhide B5) (unhide HG))
    have D := hide (show ∀ i, i < 4 → w5.cell? ⟨gl, f + n + i, none⟩ = some (.int .u8 (xs.getD (f + n + i) 0)) ∧ 0 ≤ xs.getD (f + n + i) 0 ∧ xs.getD (f + n + i) 0 ≤ 255 from fun i hi => (unhide R5) (f + n + i) (by omega))
    clear o5 gr5 loc5 O0 B0
    obtain ⟨e0, e1⟩ := (unhide D) 0 (by omega)
    obtain ⟨f0, f1⟩ := (unhide D) 1 (by omega)
    obtain ⟨h0, h1⟩ := (unhide D) 2 (by omega)
    obtain ⟨k0, k1⟩ := (unhide D) 3 (by omega)
    rw [Nat.add_zero] at e0 e1
    have FO := hide (show fourN xs (f + n) = xs.getD (f + n) 0 + xs.getD (f + n + 1) 0 * 256 + xs.getD (f + n + 2) 0 * 65536 + xs.getD (f + n + 3) 0 * 16777216 from rfl)
    generalize xs.getD (f + n) 0 = v0 at *
    generalize xs.getD (f + n + 1) 0 = v1 at *
    generalize xs.getD (f + n + 2) 0 = v2 at *
    generalize xs.getD (f + n + 3) 0 = v3 at *
    rw [unhide FO] at E
    have PC := hide (sCheck w5.drew g5 c5 (piece xs f n) (by rw [unhide PL]; omega) (fun i hi => by
      have := (unhide O5).at i hi
      refine ⟨this, ?_⟩
      rw [unhide PL] at hi
      rw [piece_get hi]
      exact ((unhide R5) (f + i) (by omega)).2))
    rw [unhide PL] at PC
    obtain ⟨z, hz⟩ : ∃ z, Hid (chkB (piece xs f n) = z) := ⟨_, rfl⟩
    rw [unhide hz] at E
    have ez : chkB (piece xs f n) = 65536 * (chk (piece xs f n) n).2 + (chk (piece xs f n) n).1 := by unfold chkB; rw [unhide PL]
    rw [← ez, unhide hz] at PC
    have PC' : Hid (Calls Try.prog 65 #[.slice (some ⟨g5, 0, none⟩) n c5] w5.drew fun e w' => e = .returned (.int .i64 z) ∧ w' = w5.drew) := PC
    clear ez
    clear PC D FO
    have V := hide (And.intro e1 (And.intro f1 (And.intro h1 k1)))
    clear e1 f1 h1 k1
    by_cases q : z = v0 + v1 * 256 + v2 * 65536 + v3 * 16777216
    · have e := unhide E
      rw [if_pos q] at e
      subst e
      have Q := hide q
      clear E q
      go_wp2_with fail
      have K4 := And.intro e0 (And.intro f0 (And.intro h0 k0))
      go_region_held3 (fun w' => w'.cell? ⟨gl, f + n, none⟩ = some (.int .u8 v0) ∧ w'.cell? ⟨gl, f + n + 1, none⟩ = some (.int .u8 v1) ∧ w'.cell? ⟨gl, f + n + 2, none⟩ = some (.int .u8 v2) ∧ w'.cell? ⟨gl, f + n + 3, none⟩ = some (.int .u8 v3)) (first | exact K4)
        (first | (go_at_call 65; refine (unhide PC').mono ?_; rintro e u5 ⟨rfl, rfl⟩))
      obtain ⟨e1, f1, h1, k1⟩ := unhide V
      have x0 : IntKind.i64.wrap v0 = v0 := w64 _ (by omega) (by omega)
      have x1 : IntKind.i64.wrap v1 = v1 := w64 _ (by omega) (by omega)
      have x2 : IntKind.i64.wrap v2 = v2 := w64 _ (by omega) (by omega)
      have x3 : IntKind.i64.wrap v3 = v3 := w64 _ (by omega) (by omega)
      have y1 : IntKind.i64.wrap (v1 * 256) = v1 * 256 := w64 _ (by omega) (by omega)
      have y2 : IntKind.i64.wrap (v2 * 65536) = v2 * 65536 := w64 _ (by omega) (by omega)
      have y3 : IntKind.i64.wrap (v3 * 16777216) = v3 * 16777216 := w64 _ (by omega) (by omega)
      have z1 : IntKind.i64.wrap (v0 + v1 * 256) = v0 + v1 * 256 := w64 _ (by omega) (by omega)
      have z2 : IntKind.i64.wrap (v0 + v1 * 256 + v2 * 65536) = v0 + v1 * 256 + v2 * 65536 := w64 _ (by omega) (by omega)
      have z3 : IntKind.i64.wrap (v0 + v1 * 256 + v2 * 65536 + v3 * 16777216) = v0 + v1 * 256 + v2 * 65536 + v3 * 16777216 := w64 _ (by omega) (by omega)
      simp only [x0, x1, x2, x3, y1, y2, y3, z1, z2, z3]
      clear x0 x1 x2 x3 y1 y2 y3 z1 z2 z3 e1 f1 h1 k1
      rw [unhide Q]
      generalize v0 + v1 * 256 + v2 * 65536 + v3 * 16777216 = m at *
      have hm : (m != m) = false := by simp
      go_wp2
      go_ret3
      exact ⟨g5, c5, by rw [unhide PL]; rfl, by rw [unhide PL]; exact unhide O5, (unhide B5).drew⟩
    · have e := unhide E
      rw [if_neg q] at e
      subst e
      have Q := hide q
      clear E q
      go_wp2_with fail
      have K4 := And.intro e0 (And.intro f0 (And.intro h0 k0))
      go_region_held3 (fun w' => w'.cell? ⟨gl, f + n, none⟩ = some (.int .u8 v0) ∧ w'.cell? ⟨gl, f + n + 1, none⟩ = some (.int .u8 v1) ∧ w'.cell? ⟨gl, f + n + 2, none⟩ = some (.int .u8 v2) ∧ w'.cell? ⟨gl, f + n + 3, none⟩ = some (.int .u8 v3)) (first | exact K4)
        (first | (go_at_call 65; refine (unhide PC').mono ?_; rintro e u5 ⟨rfl, rfl⟩))
      obtain ⟨e1, f1, h1, k1⟩ := unhide V
      have x0 : IntKind.i64.wrap v0 = v0 := w64 _ (by omega) (by omega)
      have x1 : IntKind.i64.wrap v1 = v1 := w64 _ (by omega) (by omega)
      have x2 : IntKind.i64.wrap v2 = v2 := w64 _ (by omega) (by omega)
      have x3 : IntKind.i64.wrap v3 = v3 := w64 _ (by omega) (by omega)
      have y1 : IntKind.i64.wrap (v1 * 256) = v1 * 256 := w64 _ (by omega) (by omega)
      have y2 : IntKind.i64.wrap (v2 * 65536) = v2 * 65536 := w64 _ (by omega) (by omega)
      have y3 : IntKind.i64.wrap (v3 * 16777216) = v3 * 16777216 := w64 _ (by omega) (by omega)
      have z1 : IntKind.i64.wrap (v0 + v1 * 256) = v0 + v1 * 256 := w64 _ (by omega) (by omega)
      have z2 : IntKind.i64.wrap (v0 + v1 * 256 + v2 * 65536) = v0 + v1 * 256 + v2 * 65536 := w64 _ (by omega) (by omega)
      have z3 : IntKind.i64.wrap (v0 + v1 * 256 + v2 * 65536 + v3 * 16777216) = v0 + v1 * 256 + v2 * 65536 + v3 * 16777216 := w64 _ (by omega) (by omega)
      simp only [x0, x1, x2, x3, y1, y2, y3, z1, z2, z3]
      clear x0 x1 x2 x3 y1 y2 y3 z1 z2 z3 e1 f1 h1 k1
      have hm : (z != v0 + v1 * 256 + v2 * 65536 + v3 * 16777216) = true := by simpa using unhide Q
      generalize v0 + v1 * 256 + v2 * 65536 + v3 * 16777216 = m at *
      have O6 := hide (lit0 w5.drew u.heap.size (unhide B5).size rfl)
      have B6 := hide ((unhide B5).drew.alloc (unhide B5).size (.cells #[] 5))
      go_wp2
      go_ret3
      exact ⟨_, 0, rfl, unhide O6, unhide B6⟩
end Go.Proofs.Yticofefdbjihiaa.SUnseal11
namespace Go.Proofs.Yticofefdbjihiaa.Conv15
open Go.ChangeShapes Go.WideShapes Go.ChangeAt Go.RowKit SBytes
/-- The bytes of a text. -/
def nums (s : ByteArray) : List Int := s.data.toList.map fun b => (b.toNat : Int)
theorem nums_len (s : ByteArray) : (nums s).length = s.size := by
  unfold nums
  rw [List.length_map]
  rfl
theorem to_bytes (w : World) (s : ByteArray) : ∃ c W, (nums s).length ≤ c ∧ (convert 9 53 (.string s)).run Try.prog w = .ok (.slice (some ⟨w.heap.size, 0, none⟩) (nums s).length c) W ∧ AtB W w.heap.size (nums s) ∧ W.heap.size = w.heap.size + 1 ∧ Below w.heap.size w W := by
  rw [nums_len]
  refine ⟨_, _, grownCap_ge w s.size 0 5, Lib.run_convert_string_bytes w 9 53 5 s Try.underlying9 Try.underlying53 Try.underlying5, ?_, Lib.bytesWorld_size _ _ _, ?_⟩
  · intro i hi
    rw [nums_len] at hi
    have e : (nums s).getD i 0 = ((s.data.toList.getD i 0).toNat : Int) := by
      unfold nums
      have : i < s.data.toList.length := hi
      rw [List.getD, List.getD, List.getElem?_map, List.getElem?_eq_getElem this]
      rfl
    rw [Lib.bytesWorld_cell w _ s i hi, e]
    refine ⟨rfl, ?_⟩
    have := (s.data.toList.getD i 0).toNat_lt
    omega
  · refine ⟨rfl, rfl, rfl, by rw [Lib.bytesWorld_size]; omega, fun k hk => Lib.bytesWorld_at_old w _ s k hk⟩
theorem of_bytes (w : World) (g c : Nat) (xs : List Int) (h : ByteH.At w g xs) : (convert 53 9 (.slice (some ⟨g, 0, none⟩) xs.length c)).run Try.prog w = .ok (.string (strOfNums xs)) w :=
  run_convert_bytes_arg w 53 5 Try.underlying53 Try.underlying5 g 0 xs.length c xs rfl (fun i hi => by rw [Nat.zero_add]; exact h i hi) 9 Try.underlying9
end Go.Proofs.Yticofefdbjihiaa.Conv15
namespace Go.Proofs.Yticofefdbjihiaa.SegP15
open Fil14 DiskH14 SDk14 SOk14 SRd14 SUnseal11 Conv15
/-- A segment. -/
def okS (n : Int) : Bool := decide (0 ≤ n ∧ n ≤ 19)
/-- The first j records, how many bytes these take, and whether there may be more. -/
def segS (xs : List Int) : Nat → List ByteArray × Int × Bool
  | 0 => ([], 0, true)
  | j + 1 => if (segS xs j).2.2 = true ∧ (segS xs j).2.1 < xs.length ∧ (unsealN xs (segS xs j).2.1).2.2 = 0 then ((segS xs j).1 ++ [strOfNums (unsealN xs (segS xs j).2.1).1], (unsealN xs (segS xs j).2.1).2.1, true) else ((segS xs j).1, (segS xs j).2.1, false)
theorem segS_go {xs : List Int} {j : Nat} {l : List ByteArray} {p : Int} (h : segS xs j = (l, p, true)) (a : p < xs.length) (b : (unsealN xs p).2.2 = 0) : segS xs (j + 1) = (l ++ [strOfNums (unsealN xs p).1], (unsealN xs p).2.1, true) := by
  rw [segS, h, if_pos ⟨rfl, a, b⟩]
theorem segS_stop {xs : List Int} {j : Nat} {l : List ByteArray} {p : Int} (h : segS xs j = (l, p, true)) (a : ¬ (p < xs.length ∧ (unsealN xs p).2.2 = 0)) : segS xs (j + 1) = (l, p, false) := by
  rw [segS, h, if_neg (fun q => a q.2)]
theorem segS_off {xs : List Int} {j : Nat} {l : List ByteArray} {p : Int} (h : segS xs j = (l, p, false)) : ∀ k, segS xs (j + k) = (l, p, false)
  | 0 => h
  | k + 1 => by
    rw [← Nat.add_assoc, segS, segS_off h k, if_neg (fun q => by simpa using q.1)]
theorem segS_end {xs : List Int} {j : Nat} {l : List ByteArray} {p : Int} (hj : j < 6) (h : segS xs j = (l, p, true)) (a : ¬ (p < xs.length ∧ (unsealN xs p).2.2 = 0)) : segS xs 6 = (l, p, false) := by
  have := segS_off (segS_stop h a) (5 - j)
  rwa [show j + 1 + (5 - j) = 6 by omega] at this
theorem segS_len (xs : List Int) : ∀ j, (segS xs j).1.length ≤ j
  | 0 => by simp [segS]
  | j + 1 => by
    have := segS_len xs j
    rw [segS]
    split
    · simp; omega
    · simp; omega
theorem segS_all {xs : List Int} : ∀ {j : Nat} {l : List ByteArray} {p : Int}, segS xs j = (l, p, true) → l.length = j
  | 0, l, p => fun h => by simp [segS] at h; simp [h.1]
  | j + 1, l, p => fun h => by
    rw [segS] at h
    split at h
    · rename_i q
      obtain ⟨l0, p0, b0⟩ : ∃ l0 p0, segS xs j = (l0, p0, true) := ⟨(segS xs j).1, (segS xs j).2.1, by rw [← q.1]⟩
      have := segS_all b0
      rw [b0] at h
      simp at h
      rw [← h.1]
      simp [this]
    · simp at h
/-- What SegRead answers. -/
def segD (room : Int) (ps : List TF) (seg : Int) : List ByteArray × Int := if (readD room ps seg).2 = true ∧ okS seg = true then ((segS (nums (readD room ps seg).1) 6).1, (segS (nums (readD room ps seg).1) 6).2.1) else ([], 0)
end Go.Proofs.Yticofefdbjihiaa.SegP15
namespace Go.Proofs.Yticofefdbjihiaa.StrO15
open Go.ChangeShapes Go.WideShapes Go.ChangeAt Go.RowKit
open Fil14 (hide unhide)
/-- The texts of a list of the call's own: block g from its head on. -/
def At (w : World) (g : Nat) (xs : List ByteArray) : Prop := ∀ i, i < xs.length → w.cell? ⟨g, i, none⟩ = some (.string (xs.getD i ByteArray.empty))
/-- A list of the call's own, from block number base on. -/
def Own (w : World) (base g n cap : Nat) (xs : List ByteArray) : Prop := w.ownsRow base 9 1 (.slice (some ⟨g, 0, none⟩) n cap) n (xs.map (Value.string))
theorem Own.len {w : World} {base g n cap : Nat} {xs : List ByteArray} (h : Own w base g n cap xs) : xs.length = n := by
  have := h.1
  simpa using this
theorem Own.lt {w : World} {base g n cap : Nat} {xs : List ByteArray} (h : Own w base g n cap xs) : base ≤ g ∧ g < w.heap.size := World.ownsRow.lt h g rfl
theorem Own.at {w : World} {base g n cap : Nat} {xs : List ByteArray} (h : Own w base g n cap xs) : At w g xs := by
  intro i hi
  have hl := h.len
  have := World.ownsRow.cellAt h i (by omega)
  rw [this]
  simp [List.getD, hi]
theorem Own.free {w : World} {base g n cap : Nat} {xs : List ByteArray} (h : Own w base g n cap xs) (i : Nat) : w.frozen? ⟨g, i, none⟩ = false := World.ownsRow.frozenAt h i
theorem Own.mono {w : World} {base base' g n cap : Nat} {xs : List ByteArray} (h : Own w base g n cap xs) (hb : base' ≤ base) : Own w base' g n cap xs := by
  refine ⟨h.1, ?_⟩
  rcases h.2 with ⟨h1, _⟩ | ⟨g', c, cur, h1, h2, h3⟩
  · simp at h1
  · exact Or.inr ⟨g', c, cur, h1, Nat.le_trans hb h2, h3⟩
/-- From another number on, where the block is not below it. -/
theorem Own.rebase {w : World} {base base' g n cap : Nat} {xs : List ByteArray} (h : Own w base g n cap xs) (hb : base' ≤ g) : Own w base' g n cap xs := by
  refine ⟨h.1, ?_⟩
  rcases h.2 with ⟨h1, _⟩ | ⟨g', c, cur, h1, h2, h3⟩
  · simp at h1
  · obtain ⟨e, _⟩ : g = g' ∧ cap = c := by simpa using h1
    subst e
    exact Or.inr ⟨g, c, cur, h1, hb, h3⟩
theorem Own.kept {w w' : World} {base g n cap : Nat} {xs : List ByteArray} {row : Option Nat} (h : Own w base g n cap xs) (k : w.grownBy w' row) (hne : some g ≠ row) : Own w' base g n cap xs :=
  World.ownsRow.kept h k (Or.inr hne)
theorem Own.below {w w' : World} {base g n cap B : Nat} {xs : List ByteArray} (h : Own w base g n cap xs) (k : Below B w w') (hg : g < B) : Own w' base g n cap xs := by
  refine ⟨h.1, ?_⟩
  rcases h.2 with ⟨h1, _⟩ | ⟨g', c, cur, h1, h2, h3, h4⟩
  · simp at h1
  · obtain ⟨e, _⟩ : g = g' ∧ cap = c := by simpa using h1
    subst e
    exact Or.inr ⟨g, c, cur, h1, h2, by rw [k.block g hg]; exact h3, h4⟩
theorem At.below {w w' : World} {g B : Nat} {xs : List ByteArray} (h : At w g xs) (k : Below B w w') (hg : g < B) : At w' g xs := fun i hi => (k.cell (p := ⟨g, i, none⟩) hg).trans (h i hi)
/-- A store into a list of the call's own. -/
theorem Own.set {w : World} {base g n cap : Nat} {xs : List ByteArray} (h : Own w base g n cap xs) (i : Nat) (x : ByteArray) :
    Own (w.setCell ⟨g, i, none⟩ (.string x)) base g n cap (xs.set i x) ∧ w.grownBy (w.setCell ⟨g, i, none⟩ (.string x)) (some g) := by
  have := World.ownsRow.stored h i (.string x)
  refine ⟨?_, this.2⟩
  unfold Own
  rw [List.map_set]
  exact this.1
/-- A list of the call's own, from block number base on; nil where it is empty, perhaps. -/
def Ob (w : World) (base : Nat) (a : Option Addr) (n cap : Nat) (xs : List ByteArray) : Prop := w.ownsRow base 9 1 (.slice a n cap) n (xs.map (Value.string))
theorem Ob.of {w : World} {base g n cap : Nat} {xs : List ByteArray} (h : Own w base g n cap xs) : Ob w base (some ⟨g, 0, none⟩) n cap xs := h
theorem Ob.nil (w : World) (base : Nat) : Ob w base none 0 0 [] := World.ownsRow_nil w base _ _
section
variable {w w' : World} {base n cap : Nat} {a : Option Addr} {xs : List ByteArray}
theorem Ob.len (h : Ob w base a n cap xs) : xs.length = n := by have := h.1; simpa using this
theorem Ob.either (h : Ob w base a n cap xs) : (a = none ∧ n = 0 ∧ xs = []) ∨ ∃ g, a = some ⟨g, 0, none⟩ ∧ Own w base g n cap xs := by
  have hl := h.len
  rcases h.2 with ⟨h1, _⟩ | ⟨g, c, cur, h1, _⟩
  · have : a = none ∧ n = 0 ∧ cap = 0 := by simpa using h1
    obtain ⟨rfl, rfl, rfl⟩ := this
    exact .inl ⟨rfl, rfl, List.eq_nil_of_length_eq_zero hl⟩
  · have : a = some ⟨g, 0, none⟩ ∧ cap = c := by simpa using h1
    obtain ⟨rfl, rfl⟩ := this
    exact .inr ⟨g, rfl, h⟩
/-- Its block lies between two numbers. -/
def Btw (lo hi : Nat) (a : Option Addr) : Prop := ∀ x, a = some x → lo ≤ x.block ∧ x.block < hi
theorem Ob.btw (h : Ob w base a n cap xs) : Btw base w.heap.size a := by
  intro x hx
  rcases h.either with ⟨rfl, _⟩ | ⟨g, rfl, o⟩
  · cases hx
  · cases hx; exact o.lt
theorem Btw.mono {lo hi lo' hi' : Nat} (h : Btw lo hi a) (h1 : lo' ≤ lo) (h2 : hi ≤ hi') : Btw lo' hi' a := fun x hx => ⟨Nat.le_trans h1 (h x hx).1, Nat.lt_of_lt_of_le (h x hx).2 h2⟩
theorem Ob.mono {base' : Nat} (h : Ob w base a n cap xs) (hb : base' ≤ base) : Ob w base' a n cap xs := by
  rcases h.either with ⟨rfl, rfl, rfl⟩ | ⟨g, rfl, o⟩
  · refine ⟨h.1, ?_⟩
    rcases h.2 with h | ⟨g, c, cur, h1, _⟩
    · exact .inl h
    · simp at h1
  · exact o.mono hb
theorem Ob.below {B : Nat} (h : Ob w base a n cap xs) (k : Below B w w') (hb : Btw 0 B a) : Ob w' base a n cap xs := by
  rcases h.either with ⟨rfl, rfl, rfl⟩ | ⟨g, rfl, o⟩
  · refine ⟨h.1, ?_⟩
    rcases h.2 with h | ⟨g, c, cur, h1, _⟩
    · exact .inl h
    · simp at h1
  · exact o.below k (hb _ rfl).2
theorem Ob.step (h : Ob w base a n cap xs) (k : Below w.heap.size w w') : Ob w' base a n cap xs := h.below k (h.btw.mono (Nat.zero_le _) (Nat.le_refl _))
theorem Ob.kept {row : Option Nat} (h : Ob w base a n cap xs) (k : w.grownBy w' row) (hr : ∀ x, a = some x → some x.block ≠ row) : Ob w' base a n cap xs := by
  rcases h.either with ⟨rfl, rfl, rfl⟩ | ⟨g, rfl, o⟩
  · refine ⟨h.1, ?_⟩
    rcases h.2 with h | ⟨g, c, cur, h1, _⟩
    · exact .inl h
    · simp at h1
  · exact o.kept k (hr _ rfl)
end
/-- What is read of it. -/
def Rd (w : World) (a : Option Addr) (xs : List ByteArray) : Prop := xs = [] ∨ ∃ g, a = some ⟨g, 0, none⟩ ∧ g < w.heap.size ∧ At w g xs
theorem Ob.rd {w : World} {base n cap : Nat} {a : Option Addr} {xs : List ByteArray} (h : Ob w base a n cap xs) : Rd w a xs := by
  rcases h.either with ⟨rfl, rfl, rfl⟩ | ⟨g, rfl, o⟩
  · exact .inl rfl
  · exact .inr ⟨g, rfl, o.lt.2, o.at⟩
theorem Rd.below {w w' : World} {a : Option Addr} {xs : List ByteArray} (h : Rd w a xs) (k : Below w.heap.size w w') : Rd w' a xs := by
  rcases h with h | ⟨g, e, hl, hc⟩
  · exact .inl h
  · exact .inr ⟨g, e, Nat.lt_of_lt_of_le hl k.size, hc.below k hl⟩
/-- The block of a list, if it has one. -/
def blk (a : Option Addr) : Option Nat := a.map (·.block)
theorem infoT : (Try.prog.info? 9).map (fun i => (i.zero, i.size, i.bytes)) = some (some (.string ⟨#[]⟩), 1, 16) := by kernel_rfl
/-- A text appended to a list that may be nil. -/
theorem wp_app (u : World) {ops : Array Oper} {rest : List Oper} {o : Oper} {a : Act} {Q : Exit → Act → World → Prop} (hgd : o.guard = none) (s x : Operand)
    (ho : o.op = .call { callee := .builtin .append, args := #[s, x], argTypes := #[26, 26] }) (base : Nat) (v : Value) (n : Nat) (ts : List ByteArray) (vb : Nat) (t : ByteArray) (hs : a.eval s = v) (hx : a.eval x = .slice (some ⟨vb, 0, none⟩) 1 1) (hown : u.ownsRow base 9 1 v n (ts.map Value.string)) (hc : u.cell? ⟨vb, 0, none⟩ = some (.string t)) (hn : n ≤ 1048576) (hb : base ≤ u.heap.size)
    (h : ∀ g' c' w', Own w' base g' (n + 1) c' (ts ++ [t]) → u.grownBy w' v.ownBlock → (some g' = v.ownBlock ∨ g' = u.heap.size) → wpList Try.prog ops Q rest (a.put o.dst (.slice (some ⟨g', 0, none⟩) (n + 1) c')) w') : wpList Try.prog ops Q (o :: rest) a u := by
  obtain ⟨i0, hi, hz0, hz1, hz2⟩ := info_parts infoT
  refine wpList_append_own_at u hgd s x 26 ho base 9 i0 (.string ⟨#[]⟩) 1 16 Try.underlying26 hi hz0 hz1 hz2 rfl (by decide) v n (ts.map Value.string) hs hown ⟨vb, 0, none⟩ 1 1 [.string t] hx (by simp) (fun j w hj => by
    rw [Addr.add_lit, Nat.zero_add]
    cases j with
    | zero => simp at hj; rw [← hj]; exact hc
    | succ j => simp at hj) (fun w hw => by rw [List.mem_singleton.1 hw]; rfl) (by unfold maxLen; omega) (by omega) hb ?_
  intro v' w' own' gr' nil' loc'
  rcases own'.2 with ⟨e1, _⟩ | ⟨g', c', cur, rfl, _⟩
  · rw [e1] at nil'; simp at nil'
  · exact h g' c' w' (by unfold Own; rw [List.map_append]; exact own') gr' (loc'.elim .inl (fun q => .inr (Option.some.inj (show some g' = some u.heap.size from q))))
theorem lit0 (w : World) (base : Nat) (hb : base ≤ w.heap.size) : Own (w.alloc (.cells #[] 9)) base w.heap.size 0 0 [] := World.ownsRow_lit w #[] 0 hb (by decide) rfl
end Go.Proofs.Yticofefdbjihiaa.StrO15
namespace Go.Proofs.Yticofefdbjihiaa.SSeg15
open Go.ChangeShapes Go.WideShapes Go.ChangeAt Go.RowKit Fil14 OpensF14 DiskH14 DkH14 SDk14 SOk14 SRd14 Conv15 SegP15
open SBytes (AtB)
open SUnseal11 (unsealN sUnseal)
open StrO15 (Own wp_app lit0)
open App14 (kcell)
open SLess14 (grow_low)
theorem sSegOk (w : World) (n : Int) (b : Bool) (h : okS n = b) : Calls Try.prog 35 #[.int .i64 n] w fun e w' => e = .returned (.bool b) ∧ w' = w := by
  have S := hide (fun u => sInB u n 0 19 (okS n) rfl)
  rw [h] at S
  go_enter Try.func35, Try.ntmps35
  go_wp2_with fail
  refine (unhide S _).mono ?_
  rintro e u ⟨rfl, rfl⟩
  go_wp2
  go_ret
  exact ⟨rfl, rfl⟩
/-- A text that is read is not too long. -/
theorem read_size {room : Int} {ps : List TF} {nm : Int} (hz : sumZ ps ≤ 1048576) : (readD room ps nm).1.size ≤ 1048576 := by
  unfold readD
  split
  · rename_i h
    obtain ⟨k, e, l, _⟩ := findF_in h.2
    have := sumZ_next l
    have := sumZ_le ps (k + 1)
    show (bytesAt ps (findF ps nm).toNat).size ≤ 1048576
    rw [e, Int.toNat_natCast]
    unfold bytesAt
    rw [ByteArray.size_append]
    omega
  · show ByteArray.empty.size ≤ 1048576
    simp
set_option maxRecDepth 100000 in
set_option maxHeartbeats 4000000 in
theorem sSegRead (w : World) (x : Dx) (seg : Int) (hr : RdD w x) (hz : sumZ x.ps ≤ 1048576) :
    Calls Try.prog 10 #[.agg #[.int .i64 x.room, .slice x.a x.ps.length x.c], .int .i64 seg] w fun e w' => ∃ g c, e = .returned (.tuple #[.slice (some ⟨g, 0, none⟩) (segD x.room x.ps seg).1.length c, .int .i64 (segD x.room x.ps seg).2]) ∧ Own w' w.heap.size g (segD x.room x.ps seg).1.length c (segD x.room x.ps seg).1 ∧ Below w.heap.size w w' := by
  have F : ∀ W1, W1 = w.alloc (.cells #[.int .i64 x.room, .slice x.a x.ps.length x.c] 31) → ∀ W2, W2 = W1.alloc (.cells #[] 9) → Wd w W2 x ∧ Own W2 w.heap.size (w.heap.size + 1) 0 0 [] ∧ W2.heap.size = w.heap.size + 2 := by
    intro W1 h1 W2 h2
    have s1 : W1.heap.size = w.heap.size + 1 := by rw [h1]; simp
    have s2 : W2.heap.size = w.heap.size + 2 := by rw [h2]; simp [s1]
    have d1 : Wd w W1 x := by rw [h1]; exact Wd.made hr _
    have b2 : Below W1.heap.size W1 W2 := by rw [h2]; exact one_more _ _
    have o := lit0 W1 w.heap.size (by omega)
    rw [s1, ← h2] at o
    exact ⟨d1.step b2, o, s2⟩
  have G0 := hide (F _ rfl _ rfl)
  have RD := hide (fun u (h : RdD u x) => sDiskRead u x seg h hz)
  have TS := hide (read_size (room := x.room) (nm := seg) hz)
  have RE := hide (show segD x.room x.ps seg = if (readD x.room x.ps seg).2 = true ∧ okS seg = true then ((segS (nums (readD x.room x.ps seg).1) 6).1, (segS (nums (readD x.room x.ps seg).1) 6).2.1) else ([], 0) from rfl)
  generalize segD x.room x.ps seg = rr at *
  generalize readD x.room x.ps seg = rd at *
  obtain ⟨tx, th⟩ := rd
  clear F hr
  go_enter Try.func10, Try.ntmps10
  go_wp2_with fail
  generalize (w.alloc (.cells #[.int .i64 x.room, .slice x.a x.ps.length x.c] 31)).alloc (.cells #[] 9) = W at *
  refine (unhide RD _ (unhide G0).1.r).mono ?_
  rintro e u ⟨rfl, b1⟩
  have OU := hide ((unhide G0).2.1.below b1 (by have := (unhide G0).2.2; omega))
  have BU := hide ((unhide G0).1.step b1).b
  have us := b1.size
  rw [(unhide G0).2.2] at us
  clear b1 G0 RD
  cases th with
  | false =>
    obtain rfl : rr = ([], 0) := by rw [unhide RE, if_neg (by simp)]
    clear RE
    go_wp2
    go_ret2
    exact ⟨w.heap.size + 1, 0, rfl, unhide OU, unhide BU⟩
  | true =>
    cases sk : okS seg with
    | false =>
      obtain rfl : rr = ([], 0) := by rw [unhide RE, if_neg (by rw [sk]; simp)]
      have SK := hide sk
      clear RE sk
      go_wp2_with fail
      refine (sSegOk _ seg false (unhide SK)).mono ?_
      rintro e u ⟨rfl, rfl⟩
      go_wp2
      go_ret2
      exact ⟨w.heap.size + 1, 0, rfl, unhide OU, unhide BU⟩
    | true =>
      have SK := hide sk
      have RR := hide (show rr = ((segS (nums tx) 6).1, (segS (nums tx) 6).2.1) by rw [unhide RE, if_pos ⟨rfl, sk⟩])
      clear RE sk
      go_wp2_with fail
      refine (sSegOk _ seg true (unhide SK)).mono ?_
      rintro e u ⟨rfl, rfl⟩
      have XL := hide (show (nums tx).length ≤ 1048576 by rw [nums_len]; exact unhide TS)
      obtain ⟨cb, W3, hcb, CV, AB, s3, b3⟩ := to_bytes u tx
      generalize nums tx = xs at *
      have O3 := hide ((unhide OU).below b3 (unhide OU).lt.2)
      have B3 := hide ((unhide BU).trans (b3.mono (unhide BU).size))
      have AB3 := hide AB
      have S0 := hide (show segS xs 0 = ([], 0, true) from rfl)
      clear AB b3 OU BU TS
      have h20 := unhide XL
      have lt3 : u.heap.size < W3.heap.size := by omega
      go_wp2
      clear CV
      go_loopw [6, 10] (fun o a wr => ∃ (j g c : Nat) (l : List ByteArray) (p : Int), o = .slice (some ⟨g, 0, none⟩) j c ∧ a = .int .i64 p ∧ j ≤ 6 ∧ Hid (segS xs j = (l, p, true)) ∧ Hid (Own wr w.heap.size g j c l) ∧ Hid (AtB wr u.heap.size xs) ∧ u.heap.size < wr.heap.size ∧ g ≠ u.heap.size ∧ Hid (Below w.heap.size w wr)) (fun o _ _ => 6 - (match o with | .slice _ n _ => n | _ => 0))
      case atStart => exact ⟨0, w.heap.size + 1, 0, [], 0, rfl, rfl, by omega, S0, O3, AB3, lt3, by omega, B3⟩
      case round =>
        clear S0 O3 AB3 lt3 B3
        obtain ⟨j, g, c, l, p, rfl, rfl, hj, HS, HO, HA, hl, gn, HB⟩ := hrel
        by_cases t : p < xs.length
        case neg =>
          have tb : decide (p < (xs.length : Int)) = false := decide_eq_false t
          have E := hide (show rr = (l, p) ∧ l.length = j by
            refine ⟨?_, segS_all (unhide HS)⟩
            rw [unhide RR]
            by_cases q : j = 6
            · subst q; rw [unhide HS]
            · rw [segS_end (by omega) (unhide HS) (fun h => t h.1)])
          clear t
          go_wp2
          go_ret2
          rw [(unhide E).1]
          exact ⟨g, c, by rw [(unhide E).2]; rfl, by rw [(unhide E).2]; exact unhide HO, unhide HB⟩
        by_cases j6 : j < 6
        case neg =>
          have jb : decide ((j : Int) < 6) = false := decide_eq_false (by omega)
          have E := hide (show rr = (l, p) ∧ l.length = j by
            refine ⟨?_, segS_all (unhide HS)⟩
            obtain rfl : j = 6 := by omega
            rw [unhide RR, unhide HS])
          clear j6
          go_wp2
          go_ret2
          rw [(unhide E).1]
          exact ⟨g, c, by rw [(unhide E).2]; rfl, by rw [(unhide E).2]; exact unhide HO, unhide HB⟩
        have jb : (j : Int) < 6 := by omega
        have UN := hide (sUnseal wr u.heap.size cb xs p h20 hcb hl (unhide HA))
        have GO := hide (fun b => segS_go (unhide HS) t b)
        have ST := hide (fun (b : ¬ (unsealN xs p).2.2 = 0) => segS_end j6 (unhide HS) (fun h => b h.2))
        generalize unsealN xs p = un at *
        obtain ⟨ur, uq, uc⟩ := un
        go_wp2_with fail
        refine (unhide UN).mono ?_
        rintro e w4 ⟨g4, c4, rfl, o4, b4⟩
        have O4 := hide ((unhide HO).below b4 (unhide HO).lt.2)
        have A4 := hide (show AtB w4 u.heap.size xs from fun i hi => ⟨(b4.cell (p := ⟨u.heap.size, i, none⟩) hl).trans ((unhide HA) i hi).1, ((unhide HA) i hi).2⟩)
        have B4 := hide ((unhide HB).trans (b4.mono (unhide HB).size))
        have R4 := hide o4
        have z4 := b4.size
        clear b4 o4 UN HO HA HB
        by_cases cz : uc = 0
        case neg =>
          have cb' : (uc != 0) = true := by simpa using cz
          have E := hide (show rr = (l, p) ∧ l.length = j from ⟨by rw [unhide RR, (unhide ST) cz], segS_all (unhide HS)⟩)
          clear cz GO ST
          go_wp2
          go_ret2
          rw [(unhide E).1]
          exact ⟨g, c, by rw [(unhide E).2]; rfl, by rw [(unhide E).2]; exact unhide O4, unhide B4⟩
        subst cz
        have NS := hide ((unhide GO) rfl)
        clear GO ST
        have CB := of_bytes w4 g4 c4 ur (unhide R4).at
        try simp only at NS CB
        generalize strOfNums ur = rs at *
        have LB := one_more w4 (.cells #[.string rs] 9)
        have OL := hide ((unhide O4).below LB (unhide O4).lt.2)
        have AL := hide (show AtB (w4.alloc (.cells #[.string rs] 9)) u.heap.size xs from fun i hi => ⟨(LB.cell (p := ⟨u.heap.size, i, none⟩) (by show u.heap.size < w4.heap.size; omega)).trans ((unhide A4) i hi).1, ((unhide A4) i hi).2⟩)
        have BL := hide ((unhide B4).trans (LB.mono (unhide B4).size))
        have CL := hide (show (w4.alloc (.cells #[.string rs] 9)).cell? ⟨w4.heap.size, 0, none⟩ = some (.string rs) by simp [go_sem])
        have gl := hide (unhide O4).lt
        clear LB
        go_wp2_with (first | (at_builtin; refine wp_app _ rfl _ _ rfl w.heap.size (.slice (some ⟨g, 0, none⟩) j c) j l w4.heap.size rs rfl rfl (unhide OL) (unhide CL) (by omega) (unhide BL).size ?_; intro g9 c9 w9 o9 gr9 loc; have LC := hide loc; clear loc; have O9 := hide o9; have G9 := hide gr9; clear o9 gr9) | go_in)
        go_roundw
        case rel =>
          have gl1 := (unhide gl).1
          have sz9 := (unhide G9).size
          simp at sz9
          have gn9 : g9 ≠ u.heap.size := by
            rcases unhide LC with q | q
            · have q' : g9 = g := Option.some.inj (show some g9 = some g from q)
              omega
            · simp at q
              omega
          refine ⟨j + 1, g9, c9, l ++ [rs], uq, rfl, rfl, by omega, NS, O9, hide (fun i hi => ⟨(kcell (unhide G9) i (by simp; omega) (show u.heap.size ≠ g from fun e => gn e.symm)).trans ((unhide AL) i hi).1, ((unhide AL) i hi).2⟩), by omega, gn9, hide (grow_low (unhide BL) (unhide G9) ⟨gl1, (unhide BL).size⟩)⟩
        case measure => simp; omega
end Go.Proofs.Yticofefdbjihiaa.SSeg15
namespace Go.Proofs.Yticofefdbjihiaa.Ints
open Go.ChangeShapes Go.WideShapes Go.ChangeAt Go.RowKit
theorem hide {p : Prop} (h : p) : Hid p := h
theorem unhide {p : Prop} (h : Hid p) : p := h
theorem info3 : (Try.prog.info? 3).map (fun i => (i.zero, i.size, i.bytes)) = some (some (.int .i64 0), 1, 8) := by kernel_rfl
/-- The numbers of a list of the call's own: block g from its head on. -/
def At (w : World) (g : Nat) (xs : List Int) : Prop := ∀ i, i < xs.length → w.cell? ⟨g, i, none⟩ = some (.int .i64 (xs.getD i 0))
/-- A list that came in, or any other one: nothing is asked where it is empty. -/
def Reads (w : World) (a : Option Addr) (xs : List Int) : Prop :=
  xs.length = 0 ∨ ∃ b off, a = some ⟨b, off, none⟩ ∧ b < w.heap.size ∧ ∀ i, i < xs.length → w.cell? ⟨b, off + i, none⟩ = some (.int .i64 (xs.getD i 0))
/-- A list of the call's own, from block number base on. -/
def Own (w : World) (base g n cap : Nat) (xs : List Int) : Prop := w.ownsRow base 3 1 (.slice (some ⟨g, 0, none⟩) n cap) n (xs.map (Value.int .i64))
theorem Own.len {w : World} {base g n cap : Nat} {xs : List Int} (h : Own w base g n cap xs) : xs.length = n := by
  have := h.1
  simpa using this
theorem Own.lt {w : World} {base g n cap : Nat} {xs : List Int} (h : Own w base g n cap xs) : base ≤ g ∧ g < w.heap.size := World.ownsRow.lt h g rfl
theorem Own.at {w : World} {base g n cap : Nat} {xs : List Int} (h : Own w base g n cap xs) : At w g xs := by
  intro i hi
  have hl := h.len
  have := World.ownsRow.cellAt h i (by omega)
  rw [this]
  simp [List.getD, hi]
theorem Own.free {w : World} {base g n cap : Nat} {xs : List Int} (h : Own w base g n cap xs) (i : Nat) : w.frozen? ⟨g, i, none⟩ = false := World.ownsRow.frozenAt h i
theorem Own.mono {w : World} {base base' g n cap : Nat} {xs : List Int} (h : Own w base g n cap xs) (hb : base' ≤ base) : Own w base' g n cap xs := by
  refine ⟨h.1, ?_⟩
  rcases h.2 with ⟨h1, _⟩ | ⟨g', c, cur, h1, h2, h3⟩
  · simp at h1
  · exact Or.inr ⟨g', c, cur, h1, Nat.le_trans hb h2, h3⟩
/-- From another number on, where the block is not below it. -/
theorem Own.rebase {w : World} {base base' g n cap : Nat} {xs : List Int} (h : Own w base g n cap xs) (hb : base' ≤ g) : Own w base' g n cap xs := by
  refine ⟨h.1, ?_⟩
  rcases h.2 with ⟨h1, _⟩ | ⟨g', c, cur, h1, h2, h3⟩
  · simp at h1
  · obtain ⟨e, _⟩ : g = g' ∧ cap = c := by simpa using h1
    subst e
    exact Or.inr ⟨g, c, cur, h1, hb, h3⟩
theorem Own.kept {w w' : World} {base g n cap : Nat} {xs : List Int} {row : Option Nat} (h : Own w base g n cap xs) (k : w.grownBy w' row) (hne : some g ≠ row) : Own w' base g n cap xs :=
  World.ownsRow.kept h k (Or.inr hne)
theorem Own.below {w w' : World} {base g n cap B : Nat} {xs : List Int} (h : Own w base g n cap xs) (k : Below B w w') (hg : g < B) : Own w' base g n cap xs := by
  refine ⟨h.1, ?_⟩
  rcases h.2 with ⟨h1, _⟩ | ⟨g', c, cur, h1, h2, h3, h4⟩
  · simp at h1
  · obtain ⟨e, _⟩ : g = g' ∧ cap = c := by simpa using h1
    subst e
    exact Or.inr ⟨g, c, cur, h1, h2, by rw [k.block g hg]; exact h3, h4⟩
theorem At.below {w w' : World} {g B : Nat} {xs : List Int} (h : At w g xs) (k : Below B w w') (hg : g < B) : At w' g xs := fun i hi => (k.cell (p := ⟨g, i, none⟩) hg).trans (h i hi)
theorem Reads.below {w w' : World} {a : Option Addr} {xs : List Int} (h : Reads w a xs) (k : Below w.heap.size w w') : Reads w' a xs := by
  rcases h with h | ⟨b, off, rfl, hb, hc⟩
  · exact Or.inl h
  · exact Or.inr ⟨b, off, rfl, Nat.lt_of_lt_of_le hb k.size, fun i hi => (k.cell (p := ⟨b, off + i, none⟩) hb).trans (hc i hi)⟩
theorem grownBy_below {w w' : World} (h : w.grownBy w' none) : Below w.heap.size w w' := ⟨h.os, h.tape, h.output, h.size, fun k hk => h.block k hk (by simp)⟩
/-- A store into a list of the call's own. -/
theorem Own.set {w : World} {base g n cap : Nat} {xs : List Int} (h : Own w base g n cap xs) (i : Nat) (x : Int) :
    Own (w.setCell ⟨g, i, none⟩ (.int .i64 x)) base g n cap (xs.set i x) ∧ w.grownBy (w.setCell ⟨g, i, none⟩ (.int .i64 x)) (some g) := by
  have := World.ownsRow.stored h i (.int .i64 x)
  refine ⟨?_, this.2⟩
  unfold Own
  rw [List.map_set]
  exact this.1
theorem getD_take (xs : List Int) (k i : Nat) (h : i < k) : (xs.take k).getD i 0 = xs.getD i 0 := by
  simp [List.getD, h]
/-- The numbers so far, and zeros behind. -/
def part (xs : List Int) (n k : Nat) : List Int := xs.take k ++ List.replicate (n - k) 0
theorem part_zero (xs : List Int) (n : Nat) : part xs n 0 = List.replicate n 0 := by simp [part]
theorem part_all (xs : List Int) (n : Nat) (h : xs.length = n) : part xs n n = xs := by
  unfold part
  rw [← h]; simp
theorem part_step (xs : List Int) (n k : Nat) (h : xs.length = n) (hk : k < n) : (part xs n k).set k (xs.getD k 0) = part xs n (k + 1) := by
  subst h
  unfold part
  apply List.ext_getElem?
  intro j
  have l1 : (xs.take k).length = k := by simp; omega
  have l2 : (xs.take (k + 1)).length = k + 1 := by simp; omega
  rw [List.getElem?_set]
  by_cases e : k = j
  · subst e
    rw [if_pos rfl, if_pos (by simp; omega), List.getElem?_append_left (by omega), List.getElem?_take, if_pos (by omega)]
    simp [List.getD, hk]
  · rw [if_neg e]
    by_cases l : j < k
    · rw [List.getElem?_append_left (by omega), List.getElem?_append_left (by omega), List.getElem?_take, List.getElem?_take, if_pos l, if_pos (by omega)]
    · rw [List.getElem?_append_right (by omega), List.getElem?_append_right (by omega), l1, l2]
      simp only [List.getElem?_replicate]
      congr 1
      · simp; omega
theorem made_zeros (n : Nat) : (madeCells (Value.int .i64 0).cells (n * 1)).toList = (List.replicate n (0 : Int)).map (Value.int .i64) := by
  have : (Value.int .i64 0).cells = #[Value.int .i64 0] := rfl
  rw [this, toList_madeCells_one, List.map_replicate, Nat.mul_one]
set_option maxRecDepth 100000 in
theorem toIntS (w : World) (a : Option Addr) (len cap : Nat) (xs : List Int) (hl : xs.length = len) (h20 : len ≤ 1048576) (hr : Reads w a xs) :
    Calls Try.prog 31 #[.slice a len cap] w fun e w' => e = .returned (.slice (some ⟨w.heap.size, 0, none⟩) len len) ∧ Own w' w.heap.size w.heap.size len len xs ∧ Below w.heap.size w w' := by
  obtain ⟨i0, hi, hz0, hz1, hz2⟩ := info_parts info3
  go_enter Try.func31, Try.ntmps31
  go_wp2_with (at_make; refine wpList_make_full _ rfl _ _ 42 rfl w.heap.size 3 i0 (.int .i64 0) 1 Try.underlying42 hi hz0 hz1 .i64 .i64 _ _ len rfl rfl rfl rfl (by rw [hz2]; omega) (by unfold maxLen; omega) (Nat.le_refl _) ?_; intro w1 hown hgrow)
  rw [made_zeros, ← part_zero xs] at hown
  have hb := grownBy_below hgrow
  clear hgrow
  go_loopw [4] (fun i wr => ∃ (k : Nat), k ≤ len ∧ i = .int .i64 k ∧ Own wr w.heap.size w.heap.size len len (part xs len k) ∧ Below w.heap.size w wr) (fun i _ => len - (intOf i).toNat)
  case atStart => exact ⟨0, by omega, rfl, hown, hb⟩
  case round =>
    clear hown hb
    obtain ⟨k, hk, rfl, hown, hb⟩ := hrel
    by_cases t : k < len
    · rcases hr with hz | ⟨b, off, rfl, hlt, hcell⟩
      · omega
      have hc := (hb.cell (p := ⟨b, off + k, none⟩) hlt).trans (hcell k (by omega))
      clear hcell
      have hs := hide (Own.set hown k (xs.getD k 0))
      have hc2 := Own.at hown k (by rw [Own.len hown]; exact t)
      have hf := Own.free hown k
      have HO := hide hown
      have HB := hide hb
      clear hown hb
      generalize hz : xs.getD k 0 = z at *
      go_wp2
      go_roundw
      case rel =>
        obtain ⟨o, g⟩ := unhide hs
        rw [← hz, part_step xs len k hl t] at o
        exact ⟨k + 1, by omega, by go_num, by rw [← hz]; exact o, (unhide HB).setCell (Nat.le_refl _) _⟩
      case measure => simp [intOf]; omega
    · obtain rfl : k = len := by omega
      rw [part_all xs k hl] at hown
      have HO := hide hown
      have HB := hide hb
      clear hown hb hr
      go_wp2
      go_ret
      exact ⟨rfl, unhide HO, unhide HB⟩
set_option maxRecDepth 100000 in
theorem eqIntS (w : World) (g1 g2 n c1 c2 : Nat) (xs : List Int) (hl : xs.length = n) (h20 : n ≤ 1048576) (h1 : At w g1 xs) (h2 : At w g2 xs) :
    Calls Try.prog 27 #[.slice (some ⟨g1, 0, none⟩) n c1, .slice (some ⟨g2, 0, none⟩) n c2] w fun e w' => e = .returned (.bool true) ∧ Below w.heap.size w w' := by
  go_enter Try.func27, Try.ntmps27
  go_wp2
  go_loopw [5] (fun i wr => ∃ (k : Nat), k ≤ n ∧ i = .int .i64 k ∧ At wr g1 xs ∧ At wr g2 xs ∧ Below w.heap.size w wr) (fun i _ => n - (intOf i).toNat)
  case atStart => exact ⟨0, by omega, rfl, h1, h2, Below.refl _ _⟩
  case round =>
    clear h1 h2
    obtain ⟨k, hk, rfl, h1, h2, hb⟩ := hrel
    by_cases t : k < n
    · have e1 := h1 k (by omega)
      have e2 := h2 k (by omega)
      have H1 := hide h1
      have H2 := hide h2
      have HB := hide hb
      clear h1 h2 hb
      generalize xs.getD k 0 = z at *
      go_wp2
      go_region
      go_wp2
      go_roundw
      case rel => exact ⟨k + 1, by omega, by go_num, unhide H1, unhide H2, (unhide HB).drew⟩
      case measure => simp [intOf]; omega
    · have HB := hide hb
      clear h1 h2 hb
      go_wp2
      go_ret
      exact ⟨rfl, unhide HB⟩
/-- The marks: numbers from k on. -/
def marks (k : Int) (n : Nat) : List Int := (List.range n).map fun (i : Nat) => k + i
theorem marks_len (k : Int) (n : Nat) : (marks k n).length = n := by simp [marks]
theorem marks_getD (k : Int) (n i : Nat) (h : i < n) : (marks k n).getD i 0 = k + i := by simp [marks, List.getD, h]
/-- The marks so far, and what stood behind. -/
def marked (xs : List Int) (k : Int) (n j : Nat) : List Int := (marks k n).take j ++ xs.drop j
theorem marked_zero (xs : List Int) (k : Int) (n : Nat) : marked xs k n 0 = xs := by simp [marked]
theorem marked_all (xs : List Int) (k : Int) (n : Nat) (h : xs.length = n) : marked xs k n n = marks k n := by
  unfold marked
  rw [List.take_of_length_le (by rw [marks_len]; exact Nat.le_refl _), List.drop_of_length_le (by omega), List.append_nil]
theorem marked_step (xs : List Int) (k : Int) (n j : Nat) (h : xs.length = n) (hj : j < n) : (marked xs k n j).set j (k + j) = marked xs k n (j + 1) := by
  unfold marked
  have l := marks_len k n
  have g := marks_getD k n j hj
  have l1 : ((marks k n).take j).length = j := by simp; omega
  have l2 : ((marks k n).take (j + 1)).length = j + 1 := by simp; omega
  apply List.ext_getElem?
  intro i
  rw [List.getElem?_set]
  by_cases e : j = i
  · subst e
    rw [if_pos rfl, if_pos (by simp; omega), List.getElem?_append_left (by omega), List.getElem?_take, if_pos (by omega), ← g]
    simp [List.getD, l, hj]
  · rw [if_neg e]
    by_cases s : i < j
    · rw [List.getElem?_append_left (by omega), List.getElem?_append_left (by omega), List.getElem?_take, List.getElem?_take, if_pos s, if_pos (by omega)]
    · rw [List.getElem?_append_right (by omega), List.getElem?_append_right (by omega), l1, l2]
      simp only [List.getElem?_drop]
      congr 1
      omega
set_option maxRecDepth 100000 in
theorem markIntS (w : World) (base g n cap : Nat) (s : Int) (xs : List Int) (h20 : n ≤ 1048576) (s0 : 0 ≤ s) (s1 : s ≤ 100000000) (ho : Own w base g n cap xs) :
    Calls Try.prog 28 #[.slice (some ⟨g, 0, none⟩) n cap, .int .i64 s] w fun e w' => e = .returned (.int .i64 (s + (n : Int))) ∧ Own w' base g n cap (marks s n) ∧ w.grownBy w' (some g) := by
  have hl := ho.len
  have ho' : Own w base g n cap (marked xs s n 0) := by rw [marked_zero]; exact ho
  clear ho
  go_enter Try.func28, Try.ntmps28
  go_wp2
  go_loopw [1, 5] (fun m i wr => ∃ (k : Nat), k ≤ n ∧ i = .int .i64 k ∧ m = .int .i64 (s + (k : Int)) ∧ Own wr base g n cap (marked xs s n k) ∧ w.grownBy wr (some g)) (fun _ i _ => n - (intOf i).toNat)
  case atStart => exact ⟨0, by omega, rfl, by go_num, ho', World.grownBy.refl _ _⟩
  case round =>
    clear ho'
    obtain ⟨k, hk, rfl, rfl, hown, hg⟩ := hrel
    by_cases t : k < n
    · have hs := hide (Own.set hown k (s + k))
      have hc2 := Own.at hown k (by rw [Own.len hown]; exact t)
      have hf := Own.free hown k
      have HG := hide hg
      clear hown hg
      generalize (marked xs s n k).getD k 0 = z at hc2
      go_wp2
      go_roundw
      case rel =>
        obtain ⟨o, q⟩ := unhide hs
        rw [marked_step xs s n k hl t] at o
        have G := unhide HG
        exact ⟨k + 1, by omega, by go_num, by go_num, o, q.os.trans G.os, q.tape.trans G.tape, q.output.trans G.output, Nat.le_trans G.size q.size, fun j hj hne => (q.block j (Nat.lt_of_lt_of_le hj G.size) hne).trans (G.block j hj hne)⟩
      case measure => simp [intOf]; omega
    · obtain rfl : k = n := by omega
      rw [marked_all xs s k hl] at hown
      have HO := hide hown
      have HG := hide hg
      clear hown hg
      go_wp2
      go_ret
      exact ⟨rfl, unhide HO, unhide HG⟩
/-- A slice of integers that came in, with its cells. -/
def IsRow (k : IntKind) (w : World) (a : Option Addr) (len cap : Nat) (zs : List Int) : Prop :=
  (a = none ∧ len = 0 ∧ cap = 0 ∧ zs = []) ∨
  ∃ x, a = some x ∧ len ≤ cap ∧ cap ≤ maxLen ∧ zs.length = cap ∧ (∀ i, i < zs.length → w.cell? (x.add i) = some (.int k (zs.getD i 0))) ∧ ∀ n ∈ zs, (Lit.int k n).wf = true
/-- The numbers that came in, as the helpers want them. -/
theorem row_reads {w : World} {a : Option Addr} {len cap : Nat} {zs : List Int} (h : IsRow .i64 w a len cap zs) : (zs.take len).length = len ∧ Reads w a (zs.take len) := by
  rcases h with ⟨rfl, rfl, rfl, rfl⟩ | ⟨x, rfl, hl, hm, hz, hcell, hwz⟩
  · exact ⟨rfl, .inl rfl⟩
  · have hlen : (zs.take len).length = len := by simp; omega
    refine ⟨hlen, ?_⟩
    by_cases z : len = 0
    · exact .inl (by omega)
    · obtain ⟨b, off, spot⟩ := x
      have hc := hcell 0 (by omega)
      have hspot : spot = none := by simpa [Addr.add] using World.cell?_spot hc
      subst hspot
      have hc0 : w.cell? ⟨b, off, none⟩ = some (.int .i64 (zs.getD 0 0)) := by simpa [Addr.add] using hc
      refine .inr ⟨b, off, rfl, World.block_lt_of_cell? w _ hc0, fun i hi => ?_⟩
      have k := hcell i (by omega)
      rw [getD_take zs len i (by omega)]
      by_cases z : i = 0
      · subst z; simpa [Addr.add] using k
      · simpa [Addr.add, z] using k
theorem row_max {w : World} {a : Option Addr} {len cap : Nat} {zs : List Int} (h : IsRow .i64 w a len cap zs) : len ≤ 9223372036854775807 := by
  rcases h with ⟨rfl, rfl, rfl, rfl⟩ | ⟨x, rfl, hl, hm, _⟩
  · omega
  · unfold maxLen at hm
    omega
end Go.Proofs.Yticofefdbjihiaa.Ints
namespace Go.Proofs.Yticofefdbjihiaa.SPuts11
open Go.ChangeShapes Go.WideShapes Go.ChangeAt Go.RowKit SBytes SPut11
open ByteH (Own At)
/-- What PutNums answers. -/
def numsB (xs : List Int) : List Int := if ∀ i, i < xs.length → 0 ≤ xs.getD i 0 then xs.flatMap numB else []
theorem flat_next {xs : List Int} {k : Nat} (h : k < xs.length) : (xs.take (k + 1)).flatMap numB = (xs.take k).flatMap numB ++ numB (xs.getD k 0) := by
  rw [List.take_succ_eq_append_getElem h, List.flatMap_append]
  simp [List.getD, h]
theorem numB_pos {x : Int} (h : 0 ≤ x) : numB x = numF x.toNat := if_neg (by omega)
end Go.Proofs.Yticofefdbjihiaa.SPuts11
namespace Go.Proofs.Yticofefdbjihiaa.SSeal11
open Go.ChangeShapes Go.WideShapes Go.ChangeAt Go.RowKit SBytes SPut11 SPuts11
open ByteH (Own At)
theorem chkB_in (xs : List Int) : 0 ≤ chkB xs ∧ chkB xs ≤ 4294967295 := by
  have := chk_in xs xs.length
  unfold chkB
  omega
/-- A sum as four bytes, the lowest first. -/
def four (n : Int) : List Int := [n % 256, n / 256 % 256, n / 65536 % 256, n / 16777216 % 256]
/-- Sealed bytes. -/
def sealB (xs : List Int) : List Int := if xs.length ≤ 9000 then numB xs.length ++ xs ++ four (chkB xs) else []
theorem lit_four (w : World) (a b c d : Int) : AtO (w.alloc (.cells #[.int .u8 a, .int .u8 b, .int .u8 c, .int .u8 d] 5)) w.heap.size 0 [a, b, c, d] := by
  intro i hi
  have : i = 0 ∨ i = 1 ∨ i = 2 ∨ i = 3 := by simp at hi; omega
  rcases this with rfl | rfl | rfl | rfl <;> simp
set_option maxRecDepth 100000 in
set_option maxHeartbeats 4000000 in
theorem sSeal (w : World) (gl cl : Nat) (xs : List Int) (h20 : xs.length ≤ 1048576) (hg : gl < w.heap.size) (hr : AtB w gl xs) :
    Calls Try.prog 47 #[.slice (some ⟨gl, 0, none⟩) xs.length cl] w fun e w' => ∃ g c, e = .returned (.tuple #[.slice (some ⟨g, 0, none⟩) (sealB xs).length c, .bool (decide (xs.length ≤ 9000))]) ∧ Own w' w.heap.size g (sealB xs).length c (sealB xs) ∧ Below w.heap.size w w' := by
  by_cases h0 : xs.length ≤ 9000
  case neg =>
    have e : sealB xs = [] := if_neg h0
    rw [e]
    have O0 := hide (lit0 w w.heap.size (Nat.le_refl _) rfl)
    have B0 := hide (one_more w (.cells #[] 5))
    have h1 : (9000 : Int) < xs.length := by omega
    have D := hide (show decide (xs.length ≤ 9000) = false from by simp; omega)
    rw [unhide D]
    clear e h0 hr
    go_enter Try.func47, Try.ntmps47
    go_wp2
    go_ret2
    exact ⟨_, 0, rfl, unhide O0, unhide B0⟩
  have S := hide (show numB xs.length ++ xs ++ four (chkB xs) = sealB xs from (if_pos h0).symm)
  have D := hide (show decide (xs.length ≤ 9000) = true from by simp; omega)
  rw [unhide D]
  have CI := hide (show 0 ≤ 65536 * (chk xs xs.length).2 + (chk xs xs.length).1 ∧ 65536 * (chk xs xs.length).2 + (chk xs xs.length).1 ≤ 4294967295 from chkB_in xs)
  have R := hide hr
  have HG := hide hg
  have nine := numB_nine (x := xs.length) (by omega)
  have h1 : ¬ (9000 : Int) < xs.length := by omega
  clear hr hg D
  go_enter Try.func47, Try.ntmps47
  go_wp2_with fail
  refine (sCheck _ gl cl xs h20 (unhide R)).mono ?_
  rintro e u ⟨rfl, rfl⟩
  have S1 := hide (show numB xs.length ++ xs ++ four (65536 * (chk xs xs.length).2 + (chk xs xs.length).1) = sealB xs from unhide S)
  clear S
  generalize 65536 * (chk xs xs.length).2 + (chk xs xs.length).1 = n at *
  clear h1
  go_wp2_with fail
  refine (sPutNum _ xs.length (by omega)).mono ?_
  rintro e u1 ⟨g1, c1, rfl, o1, b1⟩
  have O1 := hide o1
  have B1 := hide b1
  have us := b1.size
  have og := o1.lt
  clear o1 b1
  go_wp2_with (first | (at_builtin; refine wp_catB _ rfl _ _ rfl u.heap.size g1 (numB xs.length).length c1 xs.length (numB xs.length) xs gl 0 cl rfl rfl (unhide O1) rfl (AtO.of (fun i hi => ((AtB.below (unhide R) (unhide B1) (unhide HG)) i hi).1)) (by omega) (by omega) ?_) | go_in)
  intro g2 c2 w2 o2 gr2 loc2
  have O2 := hide o2
  have B2 := hide ((unhide B1).grown gr2 (by omega) (fun j hj => by cases hj; exact og.1))
  have og2 := o2.lt
  have us2 := gr2.size
  clear o2 gr2 loc2
  obtain ⟨n0, n1⟩ := unhide CI
  have N := hide (And.intro n0 n1)
  have m9 : (numB xs.length).length + xs.length ≤ 9009 := by omega
  generalize hm : (numB xs.length).length + xs.length = m at *
  have HM := hide hm
  clear hm n0 n1
  go_wp2_with (first | (at_builtin; refine wp_catB _ rfl _ _ rfl u.heap.size g2 m c2 4 (numB xs.length ++ xs) _ w2.heap.size 0 4 rfl rfl (own_alloc (unhide O2) _) (by rfl) (lit_four _ _ _ _ _) (by omega) (by simp; omega) ?_) | go_in)
  intro g3 c3 w3 o3 gr3 loc3
  have O3 := hide o3
  have B3 := hide (((unhide B2).alloc (by omega) (.cells #[.int .u8 (n % 256), .int .u8 (n / 256 % 256), .int .u8 (n / 65536 % 256), .int .u8 (n / 16777216 % 256)] 5)).grown gr3 (by simp; omega) (fun j hj => by cases hj; exact og2.1))
  clear o3 gr3 loc3
  go_wp2
  go_ret2
  have e := unhide S1
  have l : (sealB xs).length = m + 4 := by rw [← e, ← unhide HM]; simp [four]; omega
  refine ⟨g3, c3, by rw [l]; rfl, ?_, unhide B3⟩
  rw [l, ← e]
  have := unhide O3
  simpa [four, List.append_assoc] using this
end Go.Proofs.Yticofefdbjihiaa.SSeal11
namespace Go.Proofs.Yticofefdbjihiaa.RTG15
open SUnseal11 Conv15 SegP15
open SBytes (getN getF val val_in chkB)
open SSeal11 (sealB)
/-- Two lists begin alike. -/
def Agr (m : Nat) (xs ys : List Int) : Prop := m ≤ xs.length ∧ m ≤ ys.length ∧ ∀ i, i < m → xs.getD i 0 = ys.getD i 0
theorem Agr.symm {m : Nat} {xs ys : List Int} (h : Agr m xs ys) : Agr m ys xs := ⟨h.2.1, h.1, fun i hi => (h.2.2 i hi).symm⟩
theorem Agr.mono {m n : Nat} {xs ys : List Int} (h : Agr m xs ys) (hn : n ≤ m) : Agr n xs ys := ⟨Nat.le_trans hn h.1, Nat.le_trans hn h.2.1, fun i hi => h.2.2 i (by omega)⟩
theorem getF_low (xs : List Int) (q : Nat) : ∀ f k, (getF xs q f k).2.2 = true → ((q + k + 1 : Nat) : Int) ≤ (getF xs q f k).2.1
  | 0, k => by simp [getF]
  | f + 1, k => by
    intro h
    simp only [getF] at h ⊢
    by_cases a : q + k < xs.length
    · rw [if_pos a] at h ⊢
      by_cases b : xs.getD (q + k) 0 < 128
      · rw [if_pos b] at h ⊢
        by_cases c : xs.getD (q + k) 0 = 0 ∧ 0 < k
        · rw [if_pos c] at h; simp at h
        · rw [if_neg c]; exact Int.le_refl _
      · rw [if_neg b] at h ⊢
        have := getF_low xs q f (k + 1) h
        omega
    · rw [if_neg a] at h; simp at h
theorem getN_low {xs : List Int} {p : Int} (h : (getN xs p).2.2 = true) : 0 ≤ p ∧ p < (getN xs p).2.1 := by
  unfold getN at h ⊢
  by_cases a : p < 0 ∨ (xs.length : Int) ≤ p
  · rw [if_pos a] at h; simp at h
  · rw [if_neg a] at h ⊢
    have := getF_low xs p.toNat 9 0 h
    omega
/-- What a seal that is read well tells of its place. -/
theorem unseal_parts {xs : List Int} {p : Int} (h : (unsealN xs p).2.2 = 0) : (getN xs p).2.2 = true ∧ (getN xs p).1 ≤ 9000 ∧ (unsealN xs p).2.1 = (getN xs p).2.1 + (getN xs p).1 + 4 ∧ (unsealN xs p).2.1 ≤ xs.length ∧ (unsealN xs p).1 = piece xs (getN xs p).2.1.toNat (getN xs p).1.toNat ∧ chkB (piece xs (getN xs p).2.1.toNat (getN xs p).1.toNat) = fourN xs ((getN xs p).2.1.toNat + (getN xs p).1.toNat) := by
  unfold unsealN at h ⊢
  by_cases a : (getN xs p).2.2 = false ∨ 9000 < (getN xs p).1
  · rw [if_pos a] at h; simp at h
  · rw [if_neg a] at h ⊢
    have a1 : (getN xs p).2.2 = true := by
      cases e : (getN xs p).2.2 with
      | true => rfl
      | false => exact absurd (.inl e) a
    by_cases b : (xs.length : Int) - (getN xs p).2.1 < (getN xs p).1 + 4
    · rw [if_pos b] at h; simp at h
    · rw [if_neg b] at h ⊢
      by_cases c : chkB (piece xs (getN xs p).2.1.toNat (getN xs p).1.toNat) = fourN xs ((getN xs p).2.1.toNat + (getN xs p).1.toNat)
      · rw [if_pos c]
        exact ⟨a1, Int.not_lt.1 (fun q => a (.inr q)), rfl, by simp only; omega, rfl, c⟩
      · rw [if_neg c] at h; simp at h
theorem unseal_low {xs : List Int} {p : Int} (h : (unsealN xs p).2.2 = 0) : 0 ≤ p ∧ p < (unsealN xs p).2.1 ∧ (unsealN xs p).2.1 ≤ xs.length := by
  obtain ⟨a, _, e, l, _⟩ := unseal_parts h
  have := getN_low a
  have := (getN_in xs p a).1
  omega
theorem segS_in {xs : List Int} : ∀ {j : Nat} {l : List ByteArray} {p : Int}, segS xs j = (l, p, true) → 0 ≤ p ∧ p ≤ xs.length
  | 0, l, p => fun h => by simp [segS] at h; omega
  | j + 1, l, p => fun h => by
    rw [segS] at h
    split at h
    · rename_i q
      have := unseal_low q.2.2
      simp at h
      omega
    · simp at h
end Go.Proofs.Yticofefdbjihiaa.RTG15
namespace Go.Proofs.Yticofefdbjihiaa.IFile14
open Go.ChangeShapes Go.WideShapes Go.ChangeAt Go.RowKit Fil14 OpensF14 DiskH14 DkH14 SDk14 SOk14
set_option maxRecDepth 100000 in
theorem iName (w : World) (n : Int) : Calls Try.prog 75 #[.int .i64 n] w fun e w' => e = .returned (.bool (okN n)) ∧ w' = w := by
  unfold okN
  by_cases h0 : 0 ≤ n
  · by_cases h1 : n ≤ 21
    · rw [decide_eq_true ⟨h0, h1⟩]
      have a : n ≥ 0 := h0
      have b : n < 22 := by omega
      clear h1
      go_enter Try.func75, Try.ntmps75
      go_wp2
      go_ret
      exact ⟨rfl, rfl⟩
    · rw [decide_eq_false (fun q => h1 q.2)]
      have a : n ≥ 0 := h0
      have b : ¬ n < 22 := by omega
      clear h1
      go_enter Try.func75, Try.ntmps75
      go_wp2
      go_ret
      exact ⟨rfl, rfl⟩
  · rw [decide_eq_false (fun q => h0 q.1)]
    have a : ¬ n ≥ 0 := h0
    go_enter Try.func75, Try.ntmps75
    go_wp2
    go_ret
    exact ⟨rfl, rfl⟩
theorem iNameB (w : World) (n : Int) (b : Bool) (h : okN n = b) : Calls Try.prog 75 #[.int .i64 n] w fun e w' => e = .returned (.bool b) ∧ w' = w := by
  rw [← h]
  exact iName w n
set_option maxRecDepth 100000 in
/-- How many bytes a file has. -/
theorem iSizeF (w : World) (p0 : Int) (p1 p2 : ByteArray) (h : p1.size + p2.size ≤ 1048576) : Calls Try.prog 84 #[.agg #[.int .i64 p0, .string p1, .string p2]] w fun e w' => e = .returned (.int .i64 ((p1.size : Int) + p2.size)) ∧ Below w.heap.size w w' := by
  have B := hide (one_more w (.cells #[.int .i64 p0, .string p1, .string p2] 69))
  have a1 : wrap64 ((p1.size : Int) + p2.size) = p1.size + p2.size := by rw [wrap64]; omega
  go_enter Try.func84, Try.ntmps84
  go_wp2
  go_ret
  exact ⟨rfl, unhide B⟩
set_option maxRecDepth 100000 in
/-- The bytes of a file. -/
theorem iText (w : World) (p0 : Int) (p1 p2 : ByteArray) (h : p1.size + p2.size ≤ 1048576) : Calls Try.prog 67 #[.agg #[.int .i64 p0, .string p1, .string p2]] w fun e w' => e = .returned (.string (p1 ++ p2)) ∧ Below w.heap.size w w' := by
  have B := hide (one_more w (.cells #[.int .i64 p0, .string p1, .string p2] 69))
  go_enter Try.func67, Try.ntmps67
  go_wp2
  go_ret
  exact ⟨rfl, unhide B⟩
end Go.Proofs.Yticofefdbjihiaa.IFile14
namespace Go.Proofs.Yticofefdbjihiaa.ISg15
open Go.ChangeShapes Go.WideShapes Go.ChangeAt Go.RowKit Fil14 OpensF14 DiskH14 DkH14 SDk14 SOk14 SegP15
set_option maxRecDepth 100000 in
theorem iSeg (w : World) (n : Int) : Calls Try.prog 38 #[.int .i64 n] w fun e w' => e = .returned (.bool (okS n)) ∧ w' = w := by
  unfold okS
  by_cases h0 : 0 ≤ n
  · by_cases h1 : n ≤ 19
    · rw [decide_eq_true ⟨h0, h1⟩]
      have a : n ≥ 0 := h0
      have b : n < 20 := by omega
      clear h1
      go_enter Try.func38, Try.ntmps38
      go_wp2
      go_ret
      exact ⟨rfl, rfl⟩
    · rw [decide_eq_false (fun q => h1 q.2)]
      have a : n ≥ 0 := h0
      have b : ¬ n < 20 := by omega
      clear h1
      go_enter Try.func38, Try.ntmps38
      go_wp2
      go_ret
      exact ⟨rfl, rfl⟩
  · rw [decide_eq_false (fun q => h0 q.1)]
    have a : ¬ n ≥ 0 := h0
    go_enter Try.func38, Try.ntmps38
    go_wp2
    go_ret
    exact ⟨rfl, rfl⟩
theorem iSegOk (w : World) (n : Int) (b : Bool) (h : okS n = b) : Calls Try.prog 38 #[.int .i64 n] w fun e w' => e = .returned (.bool b) ∧ w' = w := by
  rw [← h]
  exact iSeg w n
end Go.Proofs.Yticofefdbjihiaa.ISg15
namespace Go.Proofs.Yticofefdbjihiaa.IOk14
open Go.ChangeShapes Go.WideShapes Go.ChangeAt Go.RowKit Fil14 OpensF14 DiskH14 DkH14 SDk14 SOk14 IFile14
/-- Where the program's walk along the files stands. -/
def Okk (ps : List TF) (room : Int) (k : Nat) (lf y : Int) : Prop := lf = room - sumZ (ps.take k) ∧ (k = 0 → y = -1) ∧ (0 < k → y = (elF ps (k - 1)).1) ∧ ∀ i, i < k → okAt ps i
theorem okk_0 (ps : List TF) (room : Int) : Okk ps room 0 room (-1) := ⟨by simp [sumZ], fun _ => rfl, fun h => absurd h (by omega), fun i h => absurd h (by omega)⟩
theorem okk_next {ps : List TF} {room : Int} {k : Nat} {lf y : Int} (h : Okk ps room k lf y) (hk : k < ps.length) (a : okN (elF ps k).1 = true) (b : ¬ (elF ps k).1 ≤ y) : Okk ps room (k + 1) (lf - ((elF ps k).2.1.size + (elF ps k).2.2.size)) (elF ps k).1 := by
  obtain ⟨h1, h2, h3, h4⟩ := h
  have n := sumZ_next hk
  refine ⟨by omega, fun e => absurd e (by omega), fun _ => by simp, fun i hi => ?_⟩
  by_cases e : i = k
  · subst e
    refine ⟨a, fun p => ?_⟩
    have := h3 p
    omega
  · exact h4 i (by omega)
theorem okk_bad1 {ps : List TF} {room : Int} {k : Nat} (hk : k < ps.length) (a : okN (elF ps k).1 = false) : ¬ OkD room ps := fun h => by
  have := (h.2.2.2 k hk).1
  rw [a] at this
  cases this
theorem okk_bad2 {ps : List TF} {room : Int} {k : Nat} {lf y : Int} (g : Okk ps room k lf y) (hk : k < ps.length) (a : okN (elF ps k).1 = true) (b : (elF ps k).1 ≤ y) : ¬ OkD room ps := fun h => by
  have n := (h.2.2.2 k hk).2
  have l : 0 ≤ (elF ps k).1 := (of_decide_eq_true a).1
  by_cases e : k = 0
  · have := g.2.1 e
    omega
  · have := g.2.2.1 (by omega)
    have := n (by omega)
    omega
theorem okk_bad3 {ps : List TF} {room : Int} {k : Nat} {lf y : Int} (g : Okk ps room k lf y) (hk : k < ps.length) (b : lf - ((elF ps k).2.1.size + (elF ps k).2.2.size) < 0) : ¬ OkD room ps := fun h => by
  have n := sumZ_next hk
  have l := sumZ_le ps (k + 1)
  have := h.2.2.1
  have := g.1
  omega
theorem names_up {ps : List TF} (h : ∀ i, i < ps.length → okAt ps i) : ∀ i : Nat, i < ps.length → (i : Int) ≤ (elF ps i).1
  | 0 => fun q => by
    have := (h 0 q).1
    exact (of_decide_eq_true this).1
  | i + 1 => fun q => by
    have := names_up h i (by omega)
    have := (h (i + 1) q).2 (by omega)
    simp only [Nat.add_sub_cancel] at this
    omega
theorem okk_all {ps : List TF} {room : Int} {lf y : Int} (g : Okk ps room ps.length lf y) (h0 : 0 ≤ room ∧ room ≤ 60000) (hl : 0 ≤ lf) : OkD room ps := by
  obtain ⟨h1, _, _, h4⟩ := g
  rw [List.take_length] at h1
  refine ⟨h0, ?_, by omega, h4⟩
  by_cases e : ps.length = 0
  · omega
  · have a := names_up h4 (ps.length - 1) (by omega)
    have b := (h4 (ps.length - 1) (by omega)).1
    have b := (of_decide_eq_true b).2
    omega
set_option maxRecDepth 100000 in
set_option maxHeartbeats 4000000 in
theorem iDiskOk (w : World) (x : Dx) (hr : RdD w x) (hz : sumZ x.ps ≤ 1048576) :
    Calls Try.prog 56 #[.agg #[.int .i64 x.room, .slice x.a x.ps.length x.c]] w fun e w' => e = .returned (.bool (decide (OkD x.room x.ps))) ∧ Below w.heap.size w w' := by
  have W0 := hide (Wd.made hr 31)
  have h20 := hr.n
  clear hr
  generalize hR : decide (OkD x.room x.ps) = R
  have HR := hide hR
  clear hR
  by_cases q0 : x.room < 0
  · obtain rfl : R = false := by rw [← unhide HR]; exact decide_eq_false (fun h => by have := h.1; omega)
    clear HR
    go_enter Try.func56, Try.ntmps56
    go_wp2
    go_ret
    exact ⟨rfl, (unhide W0).b⟩
  have d0 : decide (x.room < 0) = false := decide_eq_false q0
  by_cases q1 : x.room > 60000
  · obtain rfl : R = false := by rw [← unhide HR]; exact decide_eq_false (fun h => by have := h.1; omega)
    clear HR q0
    go_enter Try.func56, Try.ntmps56
    go_wp2
    go_ret
    exact ⟨rfl, (unhide W0).b⟩
  have d1 : decide (x.room > 60000) = false := decide_eq_false q1
  have RM := hide (show 0 ≤ x.room ∧ x.room ≤ 60000 by omega)
  have OK0 := hide (okk_0 x.ps x.room)
  clear q0 q1
  go_enter Try.func56, Try.ntmps56
  go_wp2
  go_loopw [3, 4, 20] (fun l b i wr => ∃ (k : Nat) (lf y : Int), k ≤ x.ps.length ∧ i = .int .i64 k ∧ l = .int .i64 lf ∧ b = .int .i64 y ∧ 0 ≤ lf ∧ lf ≤ 60000 ∧ Hid (Okk x.ps x.room k lf y) ∧ Hid (Wd w wr x)) (fun _ _ i _ => x.ps.length - (intOf i).toNat)
  case atStart => exact ⟨0, x.room, -1, by omega, rfl, rfl, rfl, (unhide RM).1, (unhide RM).2, OK0, W0⟩
  case round =>
    clear W0 OK0 d0 d1
    obtain ⟨k, lf, y, hk, rfl, rfl, rfl, y0, y1, HY, HW⟩ := hrel
    by_cases t : k < x.ps.length
    · have kt : (k : Int) < x.ps.length := by omega
      have NX := sumZ_next t
      have LE := sumZ_le x.ps (k + 1)
      have BAD1 := hide (fun a => okk_bad1 (room := x.room) t a)
      have BAD2 := hide (fun a b => okk_bad2 (unhide HY) t a b)
      have BAD3 := hide (fun a => okk_bad3 (unhide HY) t a)
      have GO := hide (fun a b => okk_next (unhide HY) t a b)
      obtain ⟨g, ea, lg, e0, e1, e2⟩ := cells_of (unhide HW).r t
      have c1 := (unhide HW).c1
      have lt := (unhide HW).lt
      generalize (elF x.ps k).1 = z0 at *
      generalize (elF x.ps k).2.1 = z1 at *
      generalize (elF x.ps k).2.2 = z2 at *
      have b1 : z1.size + z2.size ≤ 1048576 := by omega
      obtain ⟨lg2, hl⟩ : ∃ q, q = lf - ((z1.size : Int) + z2.size) := ⟨_, rfl⟩
      have a2 : wrap64 (lf - ((z1.size : Int) + z2.size)) = lg2 := by rw [wrap64]; omega
      have S3 := hide (fun h : ¬ lg2 < 0 => show 0 ≤ lg2 ∧ lg2 ≤ 60000 by omega)
      have BAD4 := hide (fun h : lg2 < 0 => (unhide BAD3) (by rw [← hl]; exact h))
      rw [← hl] at GO
      clear hl BAD3
      clear NX LE HY
      have IX := SCom14.ixF x.c ea t
      clear ea c1
      have OB := hide (one_more wr (.cells #[.int .i64 z0, .string z1, .string z2] 69))
      have F0 : (wr.alloc (.cells #[.int .i64 z0, .string z1, .string z2] 69)).cell? ⟨wr.heap.size, 0, none⟩ = some (.int .i64 z0) := by simp [go_sem]
      have FS : wr.heap.size < (wr.alloc (.cells #[.int .i64 z0, .string z1, .string z2] 69)).heap.size := by simp
      have F := hide (And.intro F0 FS)
      clear F0 FS
      go_wp2_with fail
      refine (iSizeF _ z0 z1 z2 b1).mono ?_
      rintro e w2 ⟨rfl, bb⟩
      have f0 := (bb.cell (p := ⟨wr.heap.size, 0, none⟩) (unhide F).2).trans (unhide F).1
      have HW2 := hide (((unhide HW).step (unhide OB)).step bb)
      clear bb OB F HW e0 e1 e2 IX
      have D := hide (fun u b h => iNameB u z0 b h)
      clear b1
      by_cases n1 : okN z0 = true
      · have N1 := hide n1
        clear n1
        by_cases n2 : z0 ≤ y
        · obtain rfl : R = false := by rw [← unhide HR]; exact decide_eq_false ((unhide BAD2) (unhide N1) n2)
          clear BAD1 BAD2 BAD4 GO HR
          go_wp2_with fail
          refine (unhide D _ true (unhide N1)).mono ?_
          rintro e u ⟨rfl, rfl⟩
          go_wp2
          go_ret
          exact ⟨rfl, (unhide HW2).b⟩
        · have n2' : decide (z0 ≤ y) = false := decide_eq_false n2
          have GO' := hide ((unhide GO) (unhide N1) (by omega))
          clear n2 GO BAD1 BAD2
          by_cases n3 : lg2 < 0
          · obtain rfl : R = false := by rw [← unhide HR]; exact decide_eq_false ((unhide BAD4) n3)
            clear BAD4 GO' HR
            go_wp2_with fail
            refine (unhide D _ true (unhide N1)).mono ?_
            rintro e u ⟨rfl, rfl⟩
            go_wp2
            go_ret
            exact ⟨rfl, (unhide HW2).b⟩
          · have n3' : decide (lg2 < 0) = false := decide_eq_false n3
            have S := hide ((unhide S3) (by omega))
            clear n3 BAD4
            go_wp2_with fail
            refine (unhide D _ true (unhide N1)).mono ?_
            rintro e u ⟨rfl, rfl⟩
            go_wp2
            go_roundw
            case rel => exact ⟨k + 1, lg2, z0, by omega, by go_num, rfl, rfl, (unhide S).1, (unhide S).2, GO', HW2⟩
            case measure => simp [intOf]; omega
      · have n1' : okN z0 = false := by simpa using n1
        obtain rfl : R = false := by rw [← unhide HR]; exact decide_eq_false ((unhide BAD1) n1')
        have N1 := hide n1'
        clear BAD1 BAD2 BAD4 GO HR n1 n1'
        go_wp2_with fail
        refine (unhide D _ false (unhide N1)).mono ?_
        rintro e u ⟨rfl, rfl⟩
        go_wp2
        go_ret
        exact ⟨rfl, (unhide HW2).b⟩
    · have e : k = x.ps.length := by omega
      have kt : ¬ (k : Int) < x.ps.length := by omega
      obtain rfl : R = true := by rw [← unhide HR]; exact decide_eq_true (okk_all (by rw [← e]; exact unhide HY) (unhide RM) y0)
      clear HY HR
      subst e
      go_wp2
      go_ret
      exact ⟨rfl, (unhide HW).b⟩
end Go.Proofs.Yticofefdbjihiaa.IOk14
namespace Go.Proofs.Yticofefdbjihiaa.TabF14
open Go.ChangeShapes Go.WideShapes Go.ChangeAt Go.RowKit Fil14 OpensF14 DiskH14 DkH14 SDk14 SOk14
open Go.Maps (Keyed)
theorem law : Keyed Try.prog 3 := Maps.int_keyed Try.underlying3
/-- A number of 64 bits. -/
def Wf (n : Int) : Prop := (Lit.int .i64 n).wf = true
theorem wf_ok {n : Int} (h : okN n = true) : Wf n := by
  unfold okN at h
  exact WalkArith.wf_i64 (by simp at h; omega)
theorem wf_low {n : Int} (h : 0 ≤ n ∧ n ≤ 21) : Wf n := wf_ok (by unfold okN; simpa using h)
/-- No file. -/
abbrev z0 : TF := (0, ByteArray.empty, ByteArray.empty)
/-- A file as a value. -/
abbrev fV (p : TF) : Value := .agg #[.int .i64 p.1, .string p.2.1, .string p.2.2]
theorem fV_inj {p q : TF} (h : fV p = fV q) : p = q := by
  obtain ⟨a, b, c⟩ := p
  obtain ⟨d, e, f⟩ := q
  simp [fV] at h
  simp [h]
theorem zero (w : World) : (zeroValue 69).run Try.prog w = .ok (fV z0) w := by kernel_rfl
open Classical in
/-- How a file reads in a table. -/
noncomputable def rF (v : Value) : Option (DataW TF × List MemPlace) := if h : ∃ p, v = fV p then some (.held h.choose, []) else none
theorem rF_mk (p : TF) : rF (fV p) = some (.held p, []) := by
  unfold rF
  have h : ∃ q, fV p = fV q := ⟨p, rfl⟩
  rw [dif_pos h, ← fV_inj h.choose_spec]
theorem rF_inv {v : Value} {d : DataW TF} {ps : List MemPlace} (h : rF v = some (d, ps)) : ∃ p, v = fV p ∧ d = .held p := by
  unfold rF at h
  split at h
  · rename_i q
    have e : DataW.held q.choose = d := by simpa using congrArg (fun o => o.map (·.1)) h
    exact ⟨q.choose, q.choose_spec, e.symm⟩
  · cases h
theorem key_of {n : Int} (h : Wf n) : keyOf Try.prog 3 (.int .i64 n) = some (.int .i64 n) := Maps.keyOf_int_mk Try.underlying3 h
/-- A table with one entry turned. -/
def upd (f : Int → Option TF) (k : Int) (p : Option TF) : Int → Option TF := fun j => if j = k then p else f j
/-- Block B is a table of at most n entries that tells f. -/
def Tf (w : World) (B n : Nat) (f : Int → Option TF) : Prop := ∃ D : DataW TF, w.ownsMap Try.prog 3 rF B n D ∧ ∀ k, Wf k → D.atKey (.int .i64 k) (.held z0) = .held ((f k).getD z0) ∧ Maps.has D (.int .i64 k) = (f k).isSome
theorem tf_made (w : World) : Tf (w.alloc (.map #[] 0)) w.heap.size 0 (fun _ => none) :=
  ⟨.map [], World.ownsMap_made _ _ _ _, fun k h => ⟨rfl, rfl⟩⟩
theorem Tf.lt {w : World} {B n : Nat} {f : Int → Option TF} (h : Tf w B n f) : B < w.heap.size := by
  obtain ⟨D, h1, _⟩ := h
  exact h1.lt
theorem Tf.kept {w w' : World} {B n : Nat} {f : Int → Option TF} {row : Option Nat} (h : Tf w B n f) (hg : w.grownBy w' row) (hne : some B ≠ row) : Tf w' B n f := by
  obtain ⟨D, h1, h2⟩ := h
  exact ⟨D, h1.kept hg hne, h2⟩
theorem below_grown {w w' : World} (h : Below w.heap.size w w') : w.grownBy w' none := ⟨h.os, h.tape, h.output, h.size, fun k hk _ => h.block k hk⟩
theorem Tf.below {w w' : World} {B n : Nat} {f : Int → Option TF} (h : Tf w B n f) (k : Below w.heap.size w w') : Tf w' B n f := h.kept (below_grown k) (by simp)
theorem Tf.drew {w : World} {B n : Nat} {f : Int → Option TF} (h : Tf w B n f) : Tf w.drew B n f := h.below (Below.refl _ _).drew
theorem isMap_of {w : World} {B n : Nat} {D : DataW TF} (h : w.ownsMap Try.prog 3 rF B n D) : Maps.IsMap D := by
  obtain ⟨es, clock, _, _, _, rfl⟩ := h
  exact ⟨_, rfl⟩
theorem key_ne {j k : Int} (h : j ≠ k) : Lit.int .i64 j ≠ Lit.int .i64 k := fun e => h (by simpa using e)
/-- A look-up that asks whether there is one. -/
theorem wp_have (w : World) {ops : Array Oper} {rest : List Oper} {o : Oper} {s : Act} {Q : Exit → Act → World → Prop}
    (hg : o.guard = none) (m x : Operand) (hop : o.op = Op.lookup 66 m x true) (B n : Nat) (f : Int → Option TF) (hm : s.eval m = .map (some B)) (hown : Tf w B n f) (k : Int) (hx : s.eval x = .int .i64 k) (hw : Wf k)
    (p : TF) (b : Bool) (hp : (f k).getD z0 = p) (hb : (f k).isSome = b)
    (hK : wpList Try.prog ops Q rest (s.put o.dst (.tuple #[.agg #[.int .i64 p.1, .string p.2.1, .string p.2.2], .bool b])) w) : wpList Try.prog ops Q (o :: rest) s w := by
  obtain ⟨D, h1, h2⟩ := hown
  subst hp hb
  refine wpList_lookup_own_ok w hg m x 66 hop 3 69 law Try.underlying66 rF (zero w) (.held z0) [] (rF_mk z0) B n D hm h1 _ (.int .i64 k) hx (key_of hw) ?_
  intro v ps hv
  obtain ⟨p, rfl, e⟩ := rF_inv hv
  rw [(h2 k hw).1] at e
  have e' : (f k).getD z0 = p := by simpa using e
  rw [(h2 k hw).2, ← e']
  exact hK
/-- A look-up. -/
theorem wp_look (w : World) {ops : Array Oper} {rest : List Oper} {o : Oper} {s : Act} {Q : Exit → Act → World → Prop}
    (hg : o.guard = none) (m x : Operand) (hop : o.op = Op.lookup 66 m x false) (B n : Nat) (f : Int → Option TF) (hm : s.eval m = .map (some B)) (hown : Tf w B n f) (k : Int) (hx : s.eval x = .int .i64 k) (hw : Wf k)
    (p : TF) (hp : (f k).getD z0 = p)
    (hK : wpList Try.prog ops Q rest (s.put o.dst (.agg #[.int .i64 p.1, .string p.2.1, .string p.2.2])) w) : wpList Try.prog ops Q (o :: rest) s w := by
  obtain ⟨D, h1, h2⟩ := hown
  subst hp
  refine wpList_plain hg fun K' hK' => ?_
  obtain ⟨v, ps, hrun, hv⟩ := h1.lookup law Try.underlying66 (zero w) (rF_mk z0) (key_of hw)
  obtain ⟨p, rfl, e⟩ := rF_inv hv
  rw [(h2 k hw).1] at e
  have e' : (f k).getD z0 = p := by simpa using e
  rw [← e'] at hrun
  unfold Oper.wp
  simp [execOp, hop, hm, hx, hrun, Result.andThen]
  exact hK' _ _ hK
/-- A store. -/
theorem wp_put (w : World) {ops : Array Oper} {rest : List Oper} {o : Oper} {s : Act} {Q : Exit → Act → World → Prop}
    (hg : o.guard = none) (m x y : Operand) (hop : o.op = Op.mapUpdate 66 m x y) (B n : Nat) (f : Int → Option TF) (hm : s.eval m = .map (some B)) (hown : Tf w B n f) (hn : n ≤ 1048576) (k : Int) (p : TF) (hx : s.eval x = .int .i64 k) (hy : s.eval y = .agg #[.int .i64 p.1, .string p.2.1, .string p.2.2]) (hw : Wf k)
    (hK : ∀ w', Tf w' B (n + 1) (upd f k (some p)) → w.grownBy w' (some B) → wpList Try.prog ops Q rest (s.put o.dst undef) w') : wpList Try.prog ops Q (o :: rest) s w := by
  obtain ⟨D, h1, h2⟩ := hown
  refine wpList_mapUpdate_own w hg m x y 66 hop 3 69 law Try.underlying66 rF B n D hm h1 (by unfold maxLen; omega) _ _ (.int .i64 k) hx hy (key_of hw) (.held p) [] (rF_mk p) ?_
  intro w' h3 h4
  refine hK w' ⟨_, h3, fun j hj => ?_⟩ h4
  unfold upd
  by_cases e : j = k
  · subst e
    rw [if_pos rfl, Maps.atKey_put_same (isMap_of h1) (law.key (key_of hw)), Maps.has_put_same (isMap_of h1) (law.key (key_of hw))]
    exact ⟨rfl, rfl⟩
  · rw [if_neg e, Maps.atKey_put_other (key_ne e), Maps.has_put_other (key_ne e)]
    exact h2 j hj
/-- A name struck out. -/
theorem wp_del (w : World) {ops : Array Oper} {rest : List Oper} {o : Oper} {s : Act} {Q : Exit → Act → World → Prop}
    (hg : o.guard = none) (m x : Operand) (hop : o.op = Op.call { callee := Callee.builtin Builtin.delete, args := #[m, x], argTypes := #[66, 3] }) (B n : Nat) (f : Int → Option TF) (hm : s.eval m = .map (some B)) (hown : Tf w B n f) (k : Int) (hx : s.eval x = .int .i64 k) (hw : Wf k)
    (hK : ∀ w', Tf w' B n (upd f k none) → w.grownBy w' (some B) → wpList Try.prog ops Q rest (s.put o.dst (.tuple #[])) w') : wpList Try.prog ops Q (o :: rest) s w := by
  obtain ⟨D, h1, h2⟩ := hown
  refine wpList_delete_own w hg m x 66 3 hop 69 law Try.underlying66 rF B n D hm h1 _ (.int .i64 k) hx (key_of hw) ?_
  intro w' h3 h4
  refine hK w' ⟨_, h3, fun j hj => ?_⟩ h4.grown
  unfold upd
  by_cases e : j = k
  · subst e
    rw [if_pos rfl, Maps.atKey_del_same, Maps.has_del_same]
    exact ⟨rfl, rfl⟩
  · rw [if_neg e, Maps.atKey_del_other (key_ne e), Maps.has_del_other (key_ne e)]
    exact h2 j hj
/-- The table of the first k files. -/
def tabN (ps : List TF) : Nat → Int → Option TF
  | 0 => fun _ => none
  | k + 1 => upd (tabN ps k) (elF ps k).1 (some (elF ps k))
/-- The table of files. -/
def tabOf (ps : List TF) : Int → Option TF := tabN ps ps.length
/-- The files of the names below k. -/
def rowN (f : Int → Option TF) : Nat → List TF
  | 0 => []
  | k + 1 => rowN f k ++ (f k).toList
/-- All files. -/
def rowF (f : Int → Option TF) : List TF := rowN f 22
end Go.Proofs.Yticofefdbjihiaa.TabF14
namespace Go.Proofs.Yticofefdbjihiaa.ITb14
open Go.ChangeShapes Go.WideShapes Go.ChangeAt Go.RowKit Fil14 OpensF14 DiskH14 DkH14 SDk14 SOk14 SLess14 TabF14
theorem wd_grown {w wr wz : World} {x : Dx} {B : Nat} (h : Wd w wr x) (k : wr.grownBy wz (some B)) (hB : w.heap.size < B) (hx : ∀ g, x.a = some ⟨g, 0, none⟩ → g ≠ B) : Wd w wz x := by
  refine ⟨(App14.kcell k 0 h.lt (by omega)).trans h.c0, (App14.kcell k 1 h.lt (by omega)).trans h.c1, Nat.lt_of_lt_of_le h.lt k.size, grow_low h.b k ⟨by omega, Nat.le_of_lt h.lt⟩, ⟨h.r.e, fun g e => ?_, h.r.n⟩⟩
  obtain ⟨l, a⟩ := h.r.r g e
  have c := fun o => App14.kcell k o l (hx g e)
  refine ⟨Nat.lt_of_lt_of_le l k.size, fun i hi => ?_⟩
  obtain ⟨a0, a1, a2⟩ := a i hi
  exact ⟨(c _).trans a0, (c _).trans a1, (c _).trans a2⟩
set_option maxRecDepth 100000 in
set_option maxHeartbeats 4000000 in
theorem iTable (w : World) (x : Dx) (hr : RdD w x) (hn : ∀ i, i < x.ps.length → Wf (elF x.ps i).1) :
    Calls Try.prog 57 #[.agg #[.int .i64 x.room, .slice x.a x.ps.length x.c]] w fun e w' => e = .returned (.map (some (w.heap.size + 1))) ∧ Tf w' (w.heap.size + 1) x.ps.length (tabOf x.ps) ∧ Below w.heap.size w w' := by
  have W1 := Wd.made hr 31
  have XA := hide (fun g e => (hr.r g e).1)
  have h20 := hr.n
  have HN := hide hn
  clear hr hn
  have S1 : (w.alloc (.cells #[.int .i64 x.room, .slice x.a x.ps.length x.c] 31)).heap.size = w.heap.size + 1 := by simp
  have T0 := tf_made (w.alloc (.cells #[.int .i64 x.room, .slice x.a x.ps.length x.c] 31))
  rw [S1] at T0
  have G0 := hide (And.intro (W1.step (one_more _ (.map #[] 0))) T0)
  have hmm := @run_makeMap Try.prog
  clear W1 S1 T0
  go_enter Try.func57, Try.ntmps57
  go_wp2
  go_loopw [10] (fun i wr => ∃ (k : Nat), k ≤ x.ps.length ∧ i = .int .i64 k ∧ Hid (Wd w wr x) ∧ Hid (Tf wr (w.heap.size + 1) k (tabN x.ps k))) (fun i _ => x.ps.length - (intOf i).toNat)
  case atStart => exact ⟨0, by omega, rfl, hide (unhide G0).1, hide (unhide G0).2⟩
  case round =>
    clear G0
    obtain ⟨k, hk, rfl, HW, HT⟩ := hrel
    by_cases t : k < x.ps.length
    · have kt : (k : Int) < x.ps.length := by omega
      obtain ⟨g, ea, lg, e0, e1, e2⟩ := cells_of (unhide HW).r t
      have lt := (unhide HW).lt
      have IX := SCom14.ixF x.c ea t
      have WF := (unhide HN) k t
      have PR : elF x.ps k = ((elF x.ps k).1, (elF x.ps k).2.1, (elF x.ps k).2.2) := rfl
      have TE := hide (show tabN x.ps (k + 1) = upd (tabN x.ps k) (elF x.ps k).1 (some ((elF x.ps k).1, (elF x.ps k).2.1, (elF x.ps k).2.2)) from rfl)
      generalize tabN x.ps k = f at *
      clear PR
      generalize (elF x.ps k).1 = z0 at *
      generalize (elF x.ps k).2.1 = z1 at *
      generalize (elF x.ps k).2.2 = z2 at *
      clear ea
      have OB := one_more wr (.cells #[.int .i64 z0, .string z1, .string z2] 69)
      have HW2 := hide ((unhide HW).step OB)
      have HT2 := hide ((unhide HT).below OB)
      clear OB HW HT
      go_wp2_with (first | (at_mapUpdate; refine wp_put _ rfl _ _ _ rfl (w.heap.size + 1) k _ rfl (unhide HT2) (by omega) z0 (z0, z1, z2) rfl rfl WF ?_; intro w1 t1 g1) | go_in)
      go_roundw
      case rel => exact ⟨k + 1, by omega, by go_num, hide (wd_grown (unhide HW2) g1 (by omega) (fun g e => by have := (unhide XA) g e; omega)), hide (by rw [unhide TE]; exact t1)⟩
      case measure => simp [intOf]; omega
    · have e : k = x.ps.length := by omega
      have kt : ¬ (k : Int) < x.ps.length := by omega
      subst e
      go_wp2
      go_ret
      exact ⟨rfl, unhide HT, (unhide HW).b⟩
end Go.Proofs.Yticofefdbjihiaa.ITb14
