/- Texts of one proof, one behind the other: ByteH, VOB, Ints, SBytes, Law11, Fil14, DiskH14, HelpF14, MarkF14, MarkFS14, DkH14, SDk14. -/
import Derived.Test.YtcajdiopgaoicaaRows
import Derived.WalkKit
import Derived.ProofKit
import Derived.OpenShut
import Derived.Below
import Derived.BigQuiet
import Derived.Deep.RegionHeld3
import Derived.Laws.BytesArg
import Derived.Laws.Concat
set_option linter.unusedVariables false
set_option linter.unusedSimpArgs false
namespace Go.Proofs.Ytcajdiopgaoicaa.ByteH
open Go.ChangeShapes Go.WideShapes Go.ChangeAt Go.RowKit
theorem info8 : (Try.prog.info? 5).map (fun i => (i.zero, i.size, i.bytes)) = some (some (.int .u8 0), 1, 1) := by kernel_rfl
/-- The numbers of a list of the call's own: block g from its head on. -/
def At (w : World) (g : Nat) (xs : List Int) : Prop := ∀ i, i < xs.length → w.cell? ⟨g, i, none⟩ = some (.int .u8 (xs.getD i 0))
/-- A list that came in, or any other one: nothing is asked where it is empty. -/
def Reads (w : World) (a : Option Addr) (xs : List Int) : Prop :=
  xs.length = 0 ∨ ∃ b off, a = some ⟨b, off, none⟩ ∧ b < w.heap.size ∧ ∀ i, i < xs.length → w.cell? ⟨b, off + i, none⟩ = some (.int .u8 (xs.getD i 0))
/-- A list of the call's own, from block number base on. -/
def Own (w : World) (base g n cap : Nat) (xs : List Int) : Prop := w.ownsRow base 5 1 (.slice (some ⟨g, 0, none⟩) n cap) n (xs.map (Value.int .u8))
theorem Own.len {w : World} {base g n cap : Nat} {xs : List Int} (h : Own w base g n cap xs) : xs.length = n := by
  have := h.1
  simpa using this
theorem Own.lt {w : World} {base g n cap : Nat} {xs : List Int} (h : Own w base g n cap xs) : base ≤ g ∧ g < w.heap.size := World.ownsRow.lt h g rfl
theorem Own.at {w : World} {base g n cap : Nat} {xs : List Int} (h : Own w base g n cap xs) : At w g xs := by
  intro i hi
  have hl := h.len
  have := World.ownsRow.cellAt h i (by omega)
  rw [this]
  simp [List.getD, hi]
theorem Own.free {w : World} {base g n cap : Nat} {xs : List Int} (h : Own w base g n cap xs) (i : Nat) : w.frozen? ⟨g, i, none⟩ = false := World.ownsRow.frozenAt h i
theorem Own.mono {w : World} {base base' g n cap : Nat} {xs : List Int} (h : Own w base g n cap xs) (hb : base' ≤ base) : Own w base' g n cap xs := by
  refine ⟨h.1, ?_⟩
  rcases h.2 with ⟨h1, _⟩ | ⟨g', c, cur, h1, h2, h3⟩
  · simp at h1
  · exact Or.inr ⟨g', c, cur, h1, Nat.le_trans hb h2, h3⟩
theorem Own.kept {w w' : World} {base g n cap : Nat} {xs : List Int} {row : Option Nat} (h : Own w base g n cap xs) (k : w.grownBy w' row) (hne : some g ≠ row) : Own w' base g n cap xs :=
  World.ownsRow.kept h k (Or.inr hne)
theorem Own.below {w w' : World} {base g n cap B : Nat} {xs : List Int} (h : Own w base g n cap xs) (k : Below B w w') (hg : g < B) : Own w' base g n cap xs := by
  refine ⟨h.1, ?_⟩
  rcases h.2 with ⟨h1, _⟩ | ⟨g', c, cur, h1, h2, h3, h4⟩
  · simp at h1
  · obtain ⟨e, _⟩ : g = g' ∧ cap = c := by simpa using h1
    subst e
    exact Or.inr ⟨g, c, cur, h1, h2, by rw [k.block g hg]; exact h3, h4⟩
theorem At.below {w w' : World} {g B : Nat} {xs : List Int} (h : At w g xs) (k : Below B w w') (hg : g < B) : At w' g xs := fun i hi => (k.cell (p := ⟨g, i, none⟩) hg).trans (h i hi)
theorem Reads.below {w w' : World} {a : Option Addr} {xs : List Int} (h : Reads w a xs) (k : Below w.heap.size w w') : Reads w' a xs := by
  rcases h with h | ⟨b, off, rfl, hb, hc⟩
  · exact Or.inl h
  · exact Or.inr ⟨b, off, rfl, Nat.lt_of_lt_of_le hb k.size, fun i hi => (k.cell (p := ⟨b, off + i, none⟩) hb).trans (hc i hi)⟩
/-- A store into a list of the call's own. -/
theorem Own.set {w : World} {base g n cap : Nat} {xs : List Int} (h : Own w base g n cap xs) (i : Nat) (x : Int) :
    Own (w.setCell ⟨g, i, none⟩ (.int .u8 x)) base g n cap (xs.set i x) ∧ w.grownBy (w.setCell ⟨g, i, none⟩ (.int .u8 x)) (some g) := by
  have := World.ownsRow.stored h i (.int .u8 x)
  refine ⟨?_, this.2⟩
  unfold Own
  rw [List.map_set]
  exact this.1
theorem getD_take (xs : List Int) (k i : Nat) (h : i < k) : (xs.take k).getD i 0 = xs.getD i 0 := by
  simp [List.getD, h]
theorem made_zeros (n : Nat) : (madeCells (Value.int .u8 0).cells (n * 1)).toList = (List.replicate n (0 : Int)).map (Value.int .u8) := by
  have : (Value.int .u8 0).cells = #[Value.int .u8 0] := rfl
  rw [this, toList_madeCells_one, List.map_replicate, Nat.mul_one]
/-- The bytes of a list that came in are bytes. -/
def In (xs : List Int) : Prop := ∀ i, i < xs.length → 0 ≤ xs.getD i 0 ∧ xs.getD i 0 ≤ 255
end Go.Proofs.Ytcajdiopgaoicaa.ByteH
namespace Go.Proofs.Ytcajdiopgaoicaa.VOB
open Go.ChangeShapes Go.WideShapes Go.ChangeAt Go.RowKit
open ByteH (Own At)
/-- A list of the call's own, from block number base on; nil where it is empty, perhaps. -/
def Ob (w : World) (base : Nat) (a : Option Addr) (n cap : Nat) (xs : List Int) : Prop := w.ownsRow base 5 1 (.slice a n cap) n (xs.map (Value.int .u8))
theorem Ob.of {w : World} {base g n cap : Nat} {xs : List Int} (h : Own w base g n cap xs) : Ob w base (some ⟨g, 0, none⟩) n cap xs := h
theorem Ob.nil (w : World) (base : Nat) : Ob w base none 0 0 [] := World.ownsRow_nil w base _ _
section
variable {w w' : World} {base n cap : Nat} {a : Option Addr} {xs : List Int}
theorem Ob.len (h : Ob w base a n cap xs) : xs.length = n := by have := h.1; simpa using this
theorem Ob.either (h : Ob w base a n cap xs) : (a = none ∧ n = 0 ∧ xs = []) ∨ ∃ g, a = some ⟨g, 0, none⟩ ∧ Own w base g n cap xs := by
  have hl := h.len
  rcases h.2 with ⟨h1, _⟩ | ⟨g, c, cur, h1, _⟩
  · have : a = none ∧ n = 0 ∧ cap = 0 := by simpa using h1
    obtain ⟨rfl, rfl, rfl⟩ := this
    exact .inl ⟨rfl, rfl, List.eq_nil_of_length_eq_zero hl⟩
  · have : a = some ⟨g, 0, none⟩ ∧ cap = c := by simpa using h1
    obtain ⟨rfl, rfl⟩ := this
    exact .inr ⟨g, rfl, h⟩
/-- Its block lies between two numbers. -/
def Btw (lo hi : Nat) (a : Option Addr) : Prop := ∀ x, a = some x → lo ≤ x.block ∧ x.block < hi
theorem Ob.btw (h : Ob w base a n cap xs) : Btw base w.heap.size a := by
  intro x hx
  rcases h.either with ⟨rfl, _⟩ | ⟨g, rfl, o⟩
  · cases hx
  · cases hx; exact o.lt
theorem Btw.mono {lo hi lo' hi' : Nat} (h : Btw lo hi a) (h1 : lo' ≤ lo) (h2 : hi ≤ hi') : Btw lo' hi' a := fun x hx => ⟨Nat.le_trans h1 (h x hx).1, Nat.lt_of_lt_of_le (h x hx).2 h2⟩
theorem Ob.mono {base' : Nat} (h : Ob w base a n cap xs) (hb : base' ≤ base) : Ob w base' a n cap xs := by
  rcases h.either with ⟨rfl, rfl, rfl⟩ | ⟨g, rfl, o⟩
  · refine ⟨h.1, ?_⟩
    rcases h.2 with h | ⟨g, c, cur, h1, _⟩
    · exact .inl h
    · simp at h1
  · exact o.mono hb
theorem Ob.below {B : Nat} (h : Ob w base a n cap xs) (k : Below B w w') (hb : Btw 0 B a) : Ob w' base a n cap xs := by
  rcases h.either with ⟨rfl, rfl, rfl⟩ | ⟨g, rfl, o⟩
  · refine ⟨h.1, ?_⟩
    rcases h.2 with h | ⟨g, c, cur, h1, _⟩
    · exact .inl h
    · simp at h1
  · exact o.below k (hb _ rfl).2
theorem Ob.step (h : Ob w base a n cap xs) (k : Below w.heap.size w w') : Ob w' base a n cap xs := h.below k (h.btw.mono (Nat.zero_le _) (Nat.le_refl _))
theorem Ob.kept {row : Option Nat} (h : Ob w base a n cap xs) (k : w.grownBy w' row) (hr : ∀ x, a = some x → some x.block ≠ row) : Ob w' base a n cap xs := by
  rcases h.either with ⟨rfl, rfl, rfl⟩ | ⟨g, rfl, o⟩
  · refine ⟨h.1, ?_⟩
    rcases h.2 with h | ⟨g, c, cur, h1, _⟩
    · exact .inl h
    · simp at h1
  · exact o.kept k (hr _ rfl)
end
/-- What is read of it. -/
def Rd (w : World) (a : Option Addr) (xs : List Int) : Prop := xs = [] ∨ ∃ g, a = some ⟨g, 0, none⟩ ∧ g < w.heap.size ∧ At w g xs
theorem Ob.rd {w : World} {base n cap : Nat} {a : Option Addr} {xs : List Int} (h : Ob w base a n cap xs) : Rd w a xs := by
  rcases h.either with ⟨rfl, rfl, rfl⟩ | ⟨g, rfl, o⟩
  · exact .inl rfl
  · exact .inr ⟨g, rfl, o.lt.2, o.at⟩
theorem Rd.below {w w' : World} {a : Option Addr} {xs : List Int} (h : Rd w a xs) (k : Below w.heap.size w w') : Rd w' a xs := by
  rcases h with h | ⟨g, e, hl, hc⟩
  · exact .inl h
  · exact .inr ⟨g, e, Nat.lt_of_lt_of_le hl k.size, hc.below k hl⟩
end Go.Proofs.Ytcajdiopgaoicaa.VOB
namespace Go.Proofs.Ytcajdiopgaoicaa.Ints
open Go.ChangeShapes Go.WideShapes Go.ChangeAt Go.RowKit
/-- The numbers of a list of the call's own: block g from its head on. -/
def At (w : World) (g : Nat) (xs : List Int) : Prop := ∀ i, i < xs.length → w.cell? ⟨g, i, none⟩ = some (.int .i64 (xs.getD i 0))
/-- A list that came in, or any other one: nothing is asked where it is empty. -/
def Reads (w : World) (a : Option Addr) (xs : List Int) : Prop :=
  xs.length = 0 ∨ ∃ b off, a = some ⟨b, off, none⟩ ∧ b < w.heap.size ∧ ∀ i, i < xs.length → w.cell? ⟨b, off + i, none⟩ = some (.int .i64 (xs.getD i 0))
/-- A list of the call's own, from block number base on. -/
def Own (w : World) (base g n cap : Nat) (xs : List Int) : Prop := w.ownsRow base 3 1 (.slice (some ⟨g, 0, none⟩) n cap) n (xs.map (Value.int .i64))
theorem Own.len {w : World} {base g n cap : Nat} {xs : List Int} (h : Own w base g n cap xs) : xs.length = n := by
  have := h.1
  simpa using this
theorem Own.lt {w : World} {base g n cap : Nat} {xs : List Int} (h : Own w base g n cap xs) : base ≤ g ∧ g < w.heap.size := World.ownsRow.lt h g rfl
theorem Own.at {w : World} {base g n cap : Nat} {xs : List Int} (h : Own w base g n cap xs) : At w g xs := by
  intro i hi
  have hl := h.len
  have := World.ownsRow.cellAt h i (by omega)
  rw [this]
  simp [List.getD, hi]
theorem Own.free {w : World} {base g n cap : Nat} {xs : List Int} (h : Own w base g n cap xs) (i : Nat) : w.frozen? ⟨g, i, none⟩ = false := World.ownsRow.frozenAt h i
theorem Own.mono {w : World} {base base' g n cap : Nat} {xs : List Int} (h : Own w base g n cap xs) (hb : base' ≤ base) : Own w base' g n cap xs := by
  refine ⟨h.1, ?_⟩
  rcases h.2 with ⟨h1, _⟩ | ⟨g', c, cur, h1, h2, h3⟩
  · simp at h1
  · exact Or.inr ⟨g', c, cur, h1, Nat.le_trans hb h2, h3⟩
theorem Own.kept {w w' : World} {base g n cap : Nat} {xs : List Int} {row : Option Nat} (h : Own w base g n cap xs) (k : w.grownBy w' row) (hne : some g ≠ row) : Own w' base g n cap xs :=
  World.ownsRow.kept h k (Or.inr hne)
theorem Own.below {w w' : World} {base g n cap B : Nat} {xs : List Int} (h : Own w base g n cap xs) (k : Below B w w') (hg : g < B) : Own w' base g n cap xs := by
  refine ⟨h.1, ?_⟩
  rcases h.2 with ⟨h1, _⟩ | ⟨g', c, cur, h1, h2, h3, h4⟩
  · simp at h1
  · obtain ⟨e, _⟩ : g = g' ∧ cap = c := by simpa using h1
    subst e
    exact Or.inr ⟨g, c, cur, h1, h2, by rw [k.block g hg]; exact h3, h4⟩
theorem At.below {w w' : World} {g B : Nat} {xs : List Int} (h : At w g xs) (k : Below B w w') (hg : g < B) : At w' g xs := fun i hi => (k.cell (p := ⟨g, i, none⟩) hg).trans (h i hi)
theorem Reads.below {w w' : World} {a : Option Addr} {xs : List Int} (h : Reads w a xs) (k : Below w.heap.size w w') : Reads w' a xs := by
  rcases h with h | ⟨b, off, rfl, hb, hc⟩
  · exact Or.inl h
  · exact Or.inr ⟨b, off, rfl, Nat.lt_of_lt_of_le hb k.size, fun i hi => (k.cell (p := ⟨b, off + i, none⟩) hb).trans (hc i hi)⟩
theorem grownBy_below {w w' : World} (h : w.grownBy w' none) : Below w.heap.size w w' := ⟨h.os, h.tape, h.output, h.size, fun k hk => h.block k hk (by simp)⟩
/-- A store into a list of the call's own. -/
theorem Own.set {w : World} {base g n cap : Nat} {xs : List Int} (h : Own w base g n cap xs) (i : Nat) (x : Int) :
    Own (w.setCell ⟨g, i, none⟩ (.int .i64 x)) base g n cap (xs.set i x) ∧ w.grownBy (w.setCell ⟨g, i, none⟩ (.int .i64 x)) (some g) := by
  have := World.ownsRow.stored h i (.int .i64 x)
  refine ⟨?_, this.2⟩
  unfold Own
  rw [List.map_set]
  exact this.1
/-- A slice of integers that came in, with its cells. -/
def IsRow (k : IntKind) (w : World) (a : Option Addr) (len cap : Nat) (zs : List Int) : Prop :=
  (a = none ∧ len = 0 ∧ cap = 0 ∧ zs = []) ∨
  ∃ x, a = some x ∧ len ≤ cap ∧ cap ≤ maxLen ∧ zs.length = cap ∧ (∀ i, i < zs.length → w.cell? (x.add i) = some (.int k (zs.getD i 0))) ∧ ∀ n ∈ zs, (Lit.int k n).wf = true
end Go.Proofs.Ytcajdiopgaoicaa.Ints
namespace Go.Proofs.Ytcajdiopgaoicaa.SBytes
open Go.ChangeShapes Go.WideShapes Go.ChangeAt Go.RowKit
theorem hide {p : Prop} (h : p) : Hid p := h
theorem unhide {p : Prop} (h : Hid p) : p := h
/-- The bytes of a list: block g from its head on. -/
def AtB (w : World) (g : Nat) (xs : List Int) : Prop := ∀ i, i < xs.length → w.cell? ⟨g, i, none⟩ = some (.int .u8 (xs.getD i 0)) ∧ 0 ≤ xs.getD i 0 ∧ xs.getD i 0 ≤ 255
/-- One byte more in the sum. -/
def stepC (p : Int × Int) (d : Int) : Int × Int := ((p.1 + d + 1) % 65535, (p.2 + (p.1 + d + 1) % 65535) % 65535)
/-- The sum of the first k bytes. -/
def chk (xs : List Int) : Nat → Int × Int
  | 0 => (0, 0)
  | k + 1 => stepC (chk xs k) (xs.getD k 0)
theorem chk_in (xs : List Int) (k : Nat) : 0 ≤ (chk xs k).1 ∧ (chk xs k).1 < 65535 ∧ 0 ≤ (chk xs k).2 ∧ (chk xs k).2 < 65535 := by
  cases k with
  | zero => simp [chk]
  | succ k => simp only [chk, stepC]; omega
theorem AtB.below {w w' : World} {g B : Nat} {xs : List Int} (h : AtB w g xs) (k : Below B w w') (hg : g < B) : AtB w' g xs := fun i hi => ⟨(k.cell (p := ⟨g, i, none⟩) hg).trans (h i hi).1, (h i hi).2⟩
/-- Check of bytes. -/
def chkB (xs : List Int) : Int := 65536 * (chk xs xs.length).2 + (chk xs xs.length).1
theorem tmod_pos (a : Int) (h : 0 ≤ a) : a.tmod 65535 = a % 65535 := Int.tmod_eq_emod_of_nonneg h
set_option maxRecDepth 100000 in
set_option maxHeartbeats 4000000 in
theorem sCheck (w : World) (g cap : Nat) (xs : List Int) (h20 : xs.length ≤ 1048576) (hr : AtB w g xs) :
    Calls Try.prog 73 #[.slice (some ⟨g, 0, none⟩) xs.length cap] w fun e w' => e = .returned (.int .i64 (65536 * (chk xs xs.length).2 + (chk xs xs.length).1)) ∧ w' = w := by
  have R := hide hr
  clear hr
  go_enter Try.func73, Try.ntmps73
  go_wp2
  go_loopw [3, 4, 5] (fun a b i wr => ∃ (k : Nat) (x y : Int), k ≤ xs.length ∧ i = .int .i64 k ∧ a = .int .i64 x ∧ b = .int .i64 y ∧ Hid ((x, y) = chk xs k) ∧ wr = w) (fun _ _ i _ => xs.length - (intOf i).toNat)
  case atStart => exact ⟨0, 0, 0, by omega, rfl, rfl, rfl, rfl, rfl⟩
  case round =>
    obtain ⟨k, x, y, hk, rfl, rfl, rfl, HC, rfl⟩ := hrel
    have q := chk_in xs k
    rw [← unhide HC] at q
    obtain ⟨q0, q1, q2, q3⟩ := q
    simp only at q0 q1 q2 q3
    by_cases t : k < xs.length
    · obtain ⟨d, d0, d1⟩ := (unhide R) k t
      have N := hide (show ((x + xs.getD k 0 + 1) % 65535, (y + (x + xs.getD k 0 + 1) % 65535) % 65535) = chk xs (k + 1) from by simp only [chk]; rw [← unhide HC]; rfl)
      clear HC
      generalize xs.getD k 0 = v at *
      have a1 : wrap64 (x + v) = x + v := by rw [wrap64]; omega
      have a2 : wrap64 (x + v + 1) = x + v + 1 := by rw [wrap64]; omega
      have a3 : (x + v + 1).tmod 65535 = (x + v + 1) % 65535 := tmod_pos _ (by omega)
      have m1 : 0 ≤ (x + v + 1) % 65535 ∧ (x + v + 1) % 65535 < 65535 := by omega
      generalize (x + v + 1) % 65535 = m at *
      have a4 : wrap64 m = m := by rw [wrap64]; omega
      have a5 : wrap64 (y + m) = y + m := by rw [wrap64]; omega
      have a6 : (y + m).tmod 65535 = (y + m) % 65535 := tmod_pos _ (by omega)
      have m2 : 0 ≤ (y + m) % 65535 ∧ (y + m) % 65535 < 65535 := by omega
      generalize (y + m) % 65535 = n at *
      have a7 : wrap64 n = n := by rw [wrap64]; omega
      have a8 : wrap64 v = v := by rw [wrap64]; omega
      go_wp2
      go_roundw
      case rel => exact ⟨k + 1, m, n, by omega, by go_num, by simp [a1, a2, a3, a4], by simp [a1, a2, a3, a4, a5, a6, a7], N, trivial⟩
      case measure => simp [intOf]; omega
    · have e : k = xs.length := by omega
      subst e
      have a1 : wrap64 (65536 * y) = 65536 * y := by rw [wrap64]; omega
      have a2 : wrap64 (65536 * y + x) = 65536 * y + x := by rw [wrap64]; omega
      have c1 : x = (chk xs xs.length).1 := congrArg Prod.fst (unhide HC)
      have c2 : y = (chk xs xs.length).2 := congrArg Prod.snd (unhide HC)
      have C1 := hide c1
      have C2 := hide c2
      clear c1 c2
      go_wp2
      go_ret
      exact ⟨by rw [← unhide C1, ← unhide C2]; simp [a1, a2], rfl⟩
/-- What the first k bytes from at on are worth. -/
def val (xs : List Int) (at' : Nat) : Nat → Int
  | 0 => 0
  | k + 1 => val xs at' k + xs.getD (at' + k) 0 % 128 * 128 ^ k
/-- The number that is read from at on, k bytes being read and f left. -/
def getF (xs : List Int) (at' : Nat) : Nat → Nat → Int × Int × Bool
  | 0, _ => (0, 0, false)
  | f + 1, k => if at' + k < xs.length then (if xs.getD (at' + k) 0 < 128 then (if xs.getD (at' + k) 0 = 0 ∧ 0 < k then (0, 0, false) else (val xs at' (k + 1), ((at' + k + 1 : Nat) : Int), true)) else getF xs at' f (k + 1)) else (0, 0, false)
/-- The number that is read from at on. -/
def getN (xs : List Int) (at' : Int) : Int × Int × Bool := if at' < 0 ∨ (xs.length : Int) ≤ at' then (0, 0, false) else getF xs at'.toNat 9 0
theorem pow_le (k : Nat) (h : k ≤ 8) : 1 ≤ (128 : Int) ^ k ∧ (128 : Int) ^ k ≤ 72057594037927936 := by
  have : k = 0 ∨ k = 1 ∨ k = 2 ∨ k = 3 ∨ k = 4 ∨ k = 5 ∨ k = 6 ∨ k = 7 ∨ k = 8 := by omega
  rcases this with rfl | rfl | rfl | rfl | rfl | rfl | rfl | rfl | rfl <;> decide
theorem pow_more (k : Nat) : (128 : Int) ^ (k + 1) = 128 ^ k * 128 := Int.pow_succ 128 k
theorem val_in (xs : List Int) (at' k : Nat) : 0 ≤ val xs at' k ∧ val xs at' k < 128 ^ k := by
  induction k with
  | zero => simp [val]
  | succ k ih =>
    have p : (0 : Int) ≤ 128 ^ k := by omega
    have d0 : 0 ≤ xs.getD (at' + k) 0 % 128 := by omega
    have d1 : xs.getD (at' + k) 0 % 128 ≤ 127 := by omega
    have m0 := Int.mul_nonneg d0 p
    have m1 := Int.mul_le_mul_of_nonneg_right d1 p
    rw [pow_more]
    simp only [val]
    omega
set_option maxRecDepth 100000 in
set_option maxHeartbeats 8000000 in
theorem sGetNum (w : World) (g cap : Nat) (xs : List Int) (at' : Int) (h20 : xs.length ≤ 1048576) (hr : AtB w g xs) :
    Calls Try.prog 72 #[.slice (some ⟨g, 0, none⟩) xs.length cap, .int .i64 at'] w fun e w' => e = .returned (.tuple #[.int .i64 (getN xs at').1, .int .i64 (getN xs at').2.1, .bool (getN xs at').2.2]) ∧ w' = w := by
  have R := hide hr
  clear hr
  by_cases p0 : at' < 0
  · have e : getN xs at' = (0, 0, false) := by unfold getN; rw [if_pos (.inl p0)]
    rw [e]
    clear e
    go_enter Try.func72, Try.ntmps72
    go_wp2
    go_ret3
    exact ⟨rfl, rfl⟩
  by_cases p1 : (xs.length : Int) ≤ at'
  · have e : getN xs at' = (0, 0, false) := by unfold getN; rw [if_pos (.inr p1)]
    rw [e]
    clear e
    go_enter Try.func72, Try.ntmps72
    go_wp2
    go_ret3
    exact ⟨rfl, rfl⟩
  obtain ⟨n, rfl⟩ : ∃ n : Nat, at' = n := ⟨at'.toNat, by omega⟩
  have E0 := hide (show getN xs n = getF xs n 9 0 from by unfold getN; rw [if_neg (by omega)]; simp)
  have p2 : n < xs.length := by omega
  generalize getN xs n = r at *
  obtain ⟨r0, r1, r2⟩ := r
  go_enter Try.func72, Try.ntmps72
  go_wp2
  clear p0 p1
  go_loopw [7, 8, 9, 10] (fun a u i _ wr => ∃ (k : Nat) (x v : Int), k ≤ 9 ∧ i = .int .i64 k ∧ a = .int .i64 x ∧ u = .int .i64 v ∧ Hid (x = val xs n k) ∧ Hid (k ≤ 8 → v = 128 ^ k) ∧ Hid ((r0, r1, r2) = getF xs n (9 - k) k) ∧ wr = w) (fun _ _ i _ _ => 9 - (intOf i).toNat)
  case atStart => exact ⟨0, 0, 1, by omega, rfl, rfl, rfl, rfl, hide (fun _ => rfl), E0, rfl⟩
  case round =>
    obtain ⟨k, x, v, hk, rfl, rfl, rfl, HX, HV, HE, rfl⟩ := hrel
    clear E0
    by_cases t : k = 9
    · subst t
      have F := unhide HE
      simp only [Nat.sub_self, getF] at F
      injection F with F0 F
      injection F with F1 F2
      subst F0 F1 F2
      clear HX HV HE
      go_wp2
      go_ret3
      exact ⟨rfl, rfl⟩
    by_cases t1 : n + k < xs.length
    case neg =>
      have F := unhide HE
      rw [show 9 - k = (9 - (k + 1)) + 1 by omega] at F
      simp only [getF] at F
      rw [if_neg t1] at F
      injection F with F0 F
      injection F with F1 F2
      subst F0 F1 F2
      have a0 : wrap64 ((n : Int) + (k : Int)) = n + k := by rw [wrap64]; omega
      have a1 : ¬ ((n : Int) + k < xs.length) := by omega
      have a2 : (k : Int) < 9 := by omega
      clear HX HV HE t1 t hk
      go_wp2
      go_ret3
      exact ⟨rfl, rfl⟩
    obtain ⟨d, d0, d1⟩ := (unhide R) (n + k) t1
    have hv := (unhide HV) (by omega)
    have V1 := hide (show x + xs.getD (n + k) 0 % 128 * v = val xs n (k + 1) from by rw [unhide HX, hv]; rfl)
    have V2 := hide (show k + 1 ≤ 8 → v * 128 = 128 ^ (k + 1) from fun _ => by rw [hv, pow_more])
    have XI := hide (show 0 ≤ x ∧ x < v from by have q := val_in xs n k; rw [← hv, ← unhide HX] at q; exact q)
    have ST := hide (show (r0, r1, r2) = if xs.getD (n + k) 0 < 128 then (if xs.getD (n + k) 0 = 0 ∧ 0 < k then (0, 0, false) else (val xs n (k + 1), ((n + k + 1 : Nat) : Int), true)) else getF xs n (9 - (k + 1)) (k + 1) from by
      rw [unhide HE, show 9 - k = (9 - (k + 1)) + 1 by omega]
      simp only [getF]
      rw [if_pos t1])
    rw [← unhide V1] at ST
    clear HX HV HE
    generalize xs.getD (n + k) 0 = y at *
    have Y := hide (show 0 ≤ y ∧ y ≤ 255 from ⟨d0, d1⟩)
    have a0 : wrap64 ((n : Int) + (k : Int)) = n + k := by rw [wrap64]; omega
    have a1 : (n : Int) + k < xs.length := by omega
    have a2 : (k : Int) < 9 := by omega
    have a3 : wrap64 y = y := by rw [wrap64]; omega
    have b1 : y.tmod 128 = y % 128 := Int.tmod_eq_emod_of_nonneg d0
    have b2 : wrap64 (y % 128) = y % 128 := by rw [wrap64]; omega
    have pv := pow_le k (by omega)
    rw [← hv] at pv
    have m0 := Int.mul_nonneg (show 0 ≤ y % 128 by omega) (show 0 ≤ v by omega)
    have m1 := Int.mul_le_mul_of_nonneg_right (show y % 128 ≤ 127 by omega) (show 0 ≤ v by omega)
    have xi := unhide XI
    have b3 : wrap64 (y % 128 * v) = y % 128 * v := by
      generalize y % 128 * v = m at *
      rw [wrap64]; omega
    have b4 : wrap64 (x + y % 128 * v) = x + y % 128 * v := by
      generalize y % 128 * v = m at *
      rw [wrap64]; omega
    have b5 : wrap64 ((n : Int) + k + 1) = n + k + 1 := by rw [wrap64]; omega
    have b6 := hide (show k + 1 ≤ 8 → wrap64 (v * 128) = v * 128 from fun _ => by
      have := pow_le (k + 1) (by omega)
      rw [pow_more, ← hv] at this
      rw [wrap64]; omega)
    have B := hide (And.intro b1 (And.intro b2 (And.intro b3 (And.intro b4 b5))))
    clear hv d0 d1 t t1 pv m0 m1 xi XI b1 b2 b3 b4 b5
    by_cases y1 : y < 128
    · by_cases y2 : y = 0
      · by_cases k0 : 0 < k
        · have F := unhide ST
          rw [if_pos y1, if_pos ⟨y2, k0⟩] at F
          injection F with F0 F
          injection F with F1 F2
          subst F0 F1 F2
          subst y2
          have k1 : (0 : Int) < k := by omega
          clear ST V1 V2 hk
          go_wp2
          go_ret3
          exact ⟨rfl, rfl⟩
        · have F := unhide ST
          rw [if_pos y1, if_neg (fun h => k0 h.2)] at F
          injection F with F0 F
          injection F with F1 F2
          subst F0 F1 F2
          subst y2
          have k1 : ¬ (0 : Int) < k := by omega
          clear ST V1 V2 hk
          go_wp2
          go_ret3
          obtain ⟨b1, b2, b3, b4, b5⟩ := unhide B
          simp at b4
          exact ⟨by simp [b4, b5], rfl⟩
      · have F := unhide ST
        rw [if_pos y1, if_neg (fun h => y2 h.1)] at F
        injection F with F0 F
        injection F with F1 F2
        subst F0 F1 F2
        have y3 : (y == 0) = false := by simp [y2]
        clear ST V1 V2 hk y2
        go_wp2
        go_ret3
        obtain ⟨b1, b2, b3, b4, b5⟩ := unhide B
        exact ⟨by simp [b1, b2, b3, b4, b5], rfl⟩
    · have F := unhide ST
      rw [if_neg y1] at F
      have HF := hide F
      clear ST F
      go_wp2
      go_roundw
      case rel =>
        obtain ⟨b1, b2, b3, b4, b5⟩ := unhide B
        exact ⟨k + 1, x + y % 128 * v, wrap64 (v * 128), by omega, by go_num, by simp [b1, b2, b3, b4], rfl, V1, hide (fun h => by rw [(unhide b6) h]; exact (unhide V2) h), HF, trivial⟩
      case measure => simp [intOf]; omega
end Go.Proofs.Ytcajdiopgaoicaa.SBytes
namespace Go.Proofs.Ytcajdiopgaoicaa.Law11
open Go.ChangeShapes Go.WideShapes Go.ChangeAt Go.RowKit
/-- Bytes that came in, as the helpers want them. -/
theorem row_bytes {w : World} {a : Option Addr} {len cap : Nat} {zs : List Int} (h : Ints.IsRow .u8 w a len cap zs) : (zs.take len).length = len ∧ ByteH.Reads w a (zs.take len) ∧ ByteH.In (zs.take len) ∧ len ≤ 9223372036854775807 := by
  rcases h with ⟨rfl, rfl, rfl, rfl⟩ | ⟨x, rfl, hl, hm, hz, hcell, hwz⟩
  · exact ⟨rfl, .inl rfl, fun i hi => absurd hi (by simp), by omega⟩
  · have hlen : (zs.take len).length = len := by simp; omega
    have hin : ByteH.In (zs.take len) := fun i hi => by
      rw [hlen] at hi
      rw [ByteH.getD_take zs len i hi]
      have hj : i < zs.length := by omega
      have := hwz (zs.getD i 0) (by simp [List.getD, hj])
      have e0 : IntKind.u8.min = 0 := rfl
      have e1 : IntKind.u8.max = 255 := rfl
      simp only [Lit.wf, e0, e1, Bool.and_eq_true, decide_eq_true_eq] at this
      exact this
    refine ⟨hlen, ?_, hin, by unfold maxLen at hm; omega⟩
    by_cases z : len = 0
    · exact .inl (by omega)
    · obtain ⟨b, off, spot⟩ := x
      have hc := hcell 0 (by omega)
      have hspot : spot = none := by simpa [Addr.add] using World.cell?_spot hc
      subst hspot
      have hc0 : w.cell? ⟨b, off, none⟩ = some (.int .u8 (zs.getD 0 0)) := by simpa [Addr.add] using hc
      refine .inr ⟨b, off, rfl, World.block_lt_of_cell? w _ hc0, fun i hi => ?_⟩
      have k := hcell i (by omega)
      rw [ByteH.getD_take zs len i (by omega)]
      by_cases z : i = 0
      · subst z; simpa [Addr.add] using k
      · simpa [Addr.add, z] using k
end Go.Proofs.Ytcajdiopgaoicaa.Law11
namespace Go.Proofs.Ytcajdiopgaoicaa.Fil14
open Go.ChangeShapes Go.WideShapes Go.ChangeAt Go.RowKit
/-- A file: its name, what is safe, and what is late. -/
abbrev TF : Type := Int × ByteArray × ByteArray
abbrev elF (ps : List TF) (i : Nat) : TF := ps.getD i (0, ByteArray.empty, ByteArray.empty)
theorem hide {p : Prop} (h : p) : Hid p := h
theorem unhide {p : Prop} (h : Hid p) : p := h
/-- The cells of a list of triples. -/
def flatF (ps : List TF) : List Value := ps.flatMap fun p => [.int .i64 p.1, .string p.2.1, .string p.2.2]
theorem flatF_cons (p : TF) (ps : List TF) : flatF (p :: ps) = .int .i64 p.1 :: .string p.2.1 :: .string p.2.2 :: flatF ps := rfl
theorem flatF_append (ps qs : List TF) : flatF (ps ++ qs) = flatF ps ++ flatF qs := by simp [flatF, List.flatMap_append]
theorem flatF_len (ps : List TF) : (flatF ps).length = ps.length * 3 := by
  induction ps with
  | nil => rfl
  | cons p ps ih => rw [flatF_cons]; simp [ih]; omega
theorem flatF_get (ps : List TF) : ∀ i, i < ps.length → (flatF ps)[i * 3]? = some (.int .i64 (elF ps i).1) ∧ (flatF ps)[i * 3 + 1]? = some (.string (elF ps i).2.1) ∧ (flatF ps)[i * 3 + 2]? = some (.string (elF ps i).2.2) := by
  induction ps with
  | nil => intro i h; simp at h
  | cons p ps ih =>
    intro i h
    cases i with
    | zero => rw [flatF_cons]; simp
    | succ i =>
      have := ih i (by simpa using h)
      rw [flatF_cons, show (i + 1) * 3 = i * 3 + 3 by omega, show i * 3 + 3 + 1 = (i * 3 + 1) + 3 by omega, show i * 3 + 3 + 2 = (i * 3 + 2) + 3 by omega]
      simpa using this
theorem flatF_one (u : Value) (ps : List TF) (h : u ∈ flatF ps) : u.oneCell' = true := by
  induction ps with
  | nil => simp [flatF] at h
  | cons p ps ih =>
    rw [flatF_cons] at h
    simp only [List.mem_cons] at h
    rcases h with rfl | rfl | rfl | h
    · rfl
    · rfl
    · rfl
    · exact ih h
theorem flatF_set0 (ps : List TF) : ∀ (i : Nat) (x : Int), (flatF ps).set (i * 3) (.int .i64 x) = flatF (ps.modify i fun p => (x, p.2)) := by
  induction ps with
  | nil => intro i x; simp [flatF]
  | cons p ps ih =>
    intro i x
    cases i with
    | zero => simp [flatF_cons]
    | succ i => rw [flatF_cons, show (i + 1) * 3 = i * 3 + 1 + 1 + 1 by omega, List.set_cons_succ, List.set_cons_succ, List.set_cons_succ, ih i x, List.modify_succ_cons, flatF_cons]
theorem flatF_set (ps : List TF) : ∀ (i : Nat) (x : ByteArray), (flatF ps).set (i * 3 + 1) (.string x) = flatF (ps.modify i fun p => (p.1, x, p.2.2)) ∧ (flatF ps).set (i * 3 + 2) (.string x) = flatF (ps.modify i fun p => (p.1, p.2.1, x)) := by
  induction ps with
  | nil => intro i x; simp [flatF]
  | cons p ps ih =>
    intro i x
    cases i with
    | zero => simp [flatF_cons]
    | succ i =>
      obtain ⟨b, c⟩ := ih i x
      refine ⟨?_, ?_⟩
      · rw [flatF_cons, show (i + 1) * 3 + 1 = i * 3 + 1 + 1 + 1 + 1 by omega, List.set_cons_succ, List.set_cons_succ, List.set_cons_succ, b, List.modify_succ_cons, flatF_cons]
      · rw [flatF_cons, show (i + 1) * 3 + 2 = i * 3 + 2 + 1 + 1 + 1 by omega, List.set_cons_succ, List.set_cons_succ, List.set_cons_succ, c, List.modify_succ_cons, flatF_cons]
/-- The three cells of element i, from cell o on in block g. -/
def HoldsF (w : World) (g o : Nat) (p : TF) : Prop := w.cell? ⟨g, o, none⟩ = some (.int .i64 p.1) ∧ w.cell? ⟨g, o + 1, none⟩ = some (.string p.2.1) ∧ w.cell? ⟨g, o + 2, none⟩ = some (.string p.2.2)
/-- The triples of a list of the call's own: block g from its head on. -/
def AtF (w : World) (g : Nat) (ps : List TF) : Prop := ∀ i, i < ps.length → HoldsF w g (i * 3) (elF ps i)
/-- A list that came in, or any other one: nothing is asked where it is empty. -/
def ReadsF (w : World) (a : Option Addr) (ps : List TF) : Prop := ps.length = 0 ∨ ∃ b off, a = some ⟨b, off, none⟩ ∧ b < w.heap.size ∧ ∀ i, i < ps.length → HoldsF w b (off + i * 3) (elF ps i)
/-- A list of the call's own of elements of type e, from block number base on. -/
def OwnF (e : TypeId) (w : World) (base g n cap : Nat) (ps : List TF) : Prop := w.ownsRow base e 3 (.slice (some ⟨g, 0, none⟩) n cap) n (flatF ps)
section
variable {e : TypeId} {w w' : World} {base base' g n cap : Nat} {ps : List TF}
theorem HoldsF.below {B o : Nat} {p : TF} (h : HoldsF w g o p) (k : Below B w w') (hg : g < B) : HoldsF w' g o p :=
  ⟨(k.cell (p := ⟨g, o, none⟩) hg).trans h.1, (k.cell (p := ⟨g, o + 1, none⟩) hg).trans h.2.1, (k.cell (p := ⟨g, o + 2, none⟩) hg).trans h.2.2⟩
theorem OwnF.len (h : OwnF e w base g n cap ps) : ps.length = n := by
  have := h.1
  rw [flatF_len] at this
  omega
theorem OwnF.lt (h : OwnF e w base g n cap ps) : base ≤ g ∧ g < w.heap.size := World.ownsRow.lt h g rfl
theorem OwnF.at (h : OwnF e w base g n cap ps) : AtF w g ps := by
  intro i hi
  have hl := h.len
  obtain ⟨f0, f1, f2⟩ := flatF_get ps i hi
  exact ⟨(World.ownsRow.cellAt h (i * 3) (by omega)).trans f0, (World.ownsRow.cellAt h (i * 3 + 1) (by omega)).trans f1, (World.ownsRow.cellAt h (i * 3 + 2) (by omega)).trans f2⟩
theorem OwnF.free (h : OwnF e w base g n cap ps) (i : Nat) : w.frozen? ⟨g, i, none⟩ = false := World.ownsRow.frozenAt h i
theorem OwnF.kept {row : Option Nat} (h : OwnF e w base g n cap ps) (k : w.grownBy w' row) (hne : some g ≠ row) : OwnF e w' base g n cap ps :=
  World.ownsRow.kept h k (Or.inr hne)
theorem OwnF.below {B : Nat} (h : OwnF e w base g n cap ps) (k : Below B w w') (hg : g < B) : OwnF e w' base g n cap ps := by
  refine ⟨h.1, ?_⟩
  rcases h.2 with ⟨h1, _⟩ | ⟨g', c, cur, h1, h2, h3, h4⟩
  · simp at h1
  · obtain ⟨e, _⟩ : g = g' ∧ cap = c := by simpa using h1
    subst e
    exact Or.inr ⟨g, c, cur, h1, h2, by rw [k.block g hg]; exact h3, h4⟩
theorem OwnF.alloc (h : OwnF e w base g n cap ps) (o : Obj) : OwnF e (w.alloc o) base g n cap ps := World.ownsRow.alloc h o
theorem OwnF.drew (h : OwnF e w base g n cap ps) : OwnF e w.drew base g n cap ps := h
theorem AtF.below {B : Nat} (h : AtF w g ps) (k : Below B w w') (hg : g < B) : AtF w' g ps := fun i hi => (h i hi).below k hg
theorem ReadsF.below {a : Option Addr} (h : ReadsF w a ps) (k : Below w.heap.size w w') : ReadsF w' a ps := by
  rcases h with h | ⟨b, off, rfl, hb, hc⟩
  · exact Or.inl h
  · exact Or.inr ⟨b, off, rfl, Nat.lt_of_lt_of_le hb k.size, fun i hi => (hc i hi).below k hb⟩
/-- A store into one of the three cells of an element. -/
theorem OwnF.set0 (h : OwnF e w base g n cap ps) (i : Nat) (x : Int) :
    OwnF e (w.setCell ⟨g, i * 3, none⟩ (.int .i64 x)) base g n cap (ps.modify i fun p => (x, p.2)) ∧ w.grownBy (w.setCell ⟨g, i * 3, none⟩ (.int .i64 x)) (some g) := by
  have := World.ownsRow.stored h (i * 3) (.int .i64 x)
  refine ⟨?_, this.2⟩
  unfold OwnF
  rw [← flatF_set0 ps i x]
  exact this.1
theorem OwnF.set1 (h : OwnF e w base g n cap ps) (i : Nat) (x : ByteArray) :
    OwnF e (w.setCell ⟨g, i * 3 + 1, none⟩ (.string x)) base g n cap (ps.modify i fun p => (p.1, x, p.2.2)) ∧ w.grownBy (w.setCell ⟨g, i * 3 + 1, none⟩ (.string x)) (some g) := by
  have := World.ownsRow.stored h (i * 3 + 1) (.string x)
  refine ⟨?_, this.2⟩
  unfold OwnF
  rw [← (flatF_set ps i x).1]
  exact this.1
theorem OwnF.set2 (h : OwnF e w base g n cap ps) (i : Nat) (x : ByteArray) :
    OwnF e (w.setCell ⟨g, i * 3 + 2, none⟩ (.string x)) base g n cap (ps.modify i fun p => (p.1, p.2.1, x)) ∧ w.grownBy (w.setCell ⟨g, i * 3 + 2, none⟩ (.string x)) (some g) := by
  have := World.ownsRow.stored h (i * 3 + 2) (.string x)
  refine ⟨?_, this.2⟩
  unfold OwnF
  rw [← (flatF_set ps i x).2]
  exact this.1
end
theorem grownBy_below {w w' : World} (h : w.grownBy w' none) : Below w.heap.size w w' := ⟨h.os, h.tape, h.output, h.size, fun k hk => h.block k hk (by simp)⟩
theorem litF0 (e : TypeId) (w : World) (base : Nat) (hb : base ≤ w.heap.size) : OwnF e (w.alloc (.cells #[] e)) base w.heap.size 0 0 [] := World.ownsRow_lit w #[] 0 hb (by decide) rfl
theorem litF1 (e : TypeId) (w : World) (base : Nat) (x : Int) (y z : ByteArray) (hb : base ≤ w.heap.size) : OwnF e (w.alloc (.cells #[.int .i64 x, .string y, .string z] e)) base w.heap.size 1 1 [(x, y, z)] := World.ownsRow_lit w #[.int .i64 x, .string y, .string z] 1 hb (by decide) rfl
/-- The cells of a list, as an append takes them. -/
theorem AtF.cells {w : World} {g : Nat} {ps : List TF} (h : AtF w g ps) : ∀ (j : Nat) (u : Value), (flatF ps)[j]? = some u → w.cell? ((⟨g, 0, none⟩ : Addr).add j) = some u := by
  intro j u hj
  have hl : j < ps.length * 3 := by
    have := (List.getElem?_eq_some_iff.1 hj).1
    rw [flatF_len] at this
    exact this
  rw [Addr.add_lit, Nat.zero_add]
  obtain ⟨c0, c1, c2⟩ := h (j / 3) (by omega)
  obtain ⟨f0, f1, f2⟩ := flatF_get ps (j / 3) (by omega)
  rcases (show j % 3 = 0 ∨ j % 3 = 1 ∨ j % 3 = 2 by omega) with e | e | e
  · rw [show j / 3 * 3 = j by omega] at c0 f0
    rw [c0, ← hj, f0]
  · rw [show j / 3 * 3 + 1 = j by omega] at c1 f1
    rw [c1, ← hj, f1]
  · rw [show j / 3 * 3 + 2 = j by omega] at c2 f2
    rw [c2, ← hj, f2]
end Go.Proofs.Ytcajdiopgaoicaa.Fil14
namespace Go.Proofs.Ytcajdiopgaoicaa.DiskH14
open Go.ChangeShapes Go.WideShapes Go.ChangeAt Go.RowKit Fil14
theorem one_more (w : World) (o : Obj) : Below w.heap.size w (w.alloc o) := (Below.refl _ _).alloc (Nat.le_refl _) _
/-- How many bytes files hold together. -/
def sumZ : List TF → Nat
  | [] => 0
  | p :: r => p.2.1.size + p.2.2.size + sumZ r
theorem sumZ_append (ps qs : List TF) : sumZ (ps ++ qs) = sumZ ps + sumZ qs := by
  induction ps with
  | nil => simp [sumZ]
  | cons p r ih => simp only [List.cons_append, sumZ, ih]; omega
theorem sumZ_next {ps : List TF} {k : Nat} (h : k < ps.length) : sumZ (ps.take (k + 1)) = sumZ (ps.take k) + ((elF ps k).2.1.size + (elF ps k).2.2.size) := by
  rw [List.take_succ_eq_append_getElem h, sumZ_append]
  simp [sumZ, List.getD, h]
end Go.Proofs.Ytcajdiopgaoicaa.DiskH14
namespace Go.Proofs.Ytcajdiopgaoicaa.HelpF14
open Go.ChangeShapes Go.WideShapes Go.ChangeAt Go.RowKit Fil14
theorem info2 : (Try.prog.info? 54).map (fun i => (i.zero, i.size, i.bytes)) = some (some (.agg #[.int .i64 0, .string ByteArray.empty, .string ByteArray.empty]), 3, 40) := by kernel_rfl
end Go.Proofs.Ytcajdiopgaoicaa.HelpF14
namespace Go.Proofs.Ytcajdiopgaoicaa.MarkF14
open Go.ChangeShapes Go.WideShapes Go.ChangeAt Go.RowKit Fil14
/-- The digits of a number ahead of a text. -/
def dg (k : Nat) (s : ByteArray) : ByteArray := if 0 < k then dg (k / 10) (strOfNums [48 + (k : Int) % 10] ++ s) else s
termination_by k
decreasing_by omega
/-- The text that marks. -/
def mt (k : Int) : ByteArray := ⟨#[109]⟩ ++ dg k.toNat ⟨#[]⟩
end Go.Proofs.Ytcajdiopgaoicaa.MarkF14
namespace Go.Proofs.Ytcajdiopgaoicaa.MarkFS14
open Go.ChangeShapes Go.WideShapes Go.ChangeAt Go.RowKit Fil14 MarkF14
/-- The marks of n files. -/
def marks (s : Int) (n : Nat) : List TF := (List.range n).map fun (i : Nat) => (s + 3 * (i : Int), mt (s + 3 * (i : Int) + 1), mt (s + 3 * (i : Int) + 2))
end Go.Proofs.Ytcajdiopgaoicaa.MarkFS14
namespace Go.Proofs.Ytcajdiopgaoicaa.DkH14
open Go.ChangeShapes Go.WideShapes Go.ChangeAt Go.RowKit Fil14 DiskH14
open MarkFS14 (marks)
/-- A disk and where its files lie. -/
structure Dx where
  room : Int
  a : Option Addr
  c : Nat
  ps : List TF
/-- What is read of a disk. -/
structure RdD (w : World) (x : Dx) : Prop where
  e : x.ps.length ≠ 0 → ∃ g, x.a = some ⟨g, 0, none⟩
  r : ∀ g, x.a = some ⟨g, 0, none⟩ → g < w.heap.size ∧ AtF w g x.ps
  n : x.ps.length ≤ 1048576
theorem RdD.below {w w' : World} {x : Dx} (h : RdD w x) (k : Below w.heap.size w w') : RdD w' x := ⟨h.e, fun g e => ⟨Nat.lt_of_lt_of_le (h.r g e).1 k.size, (h.r g e).2.below k (h.r g e).1⟩, h.n⟩
/-- A disk of the call's own. -/
def OwD (w : World) (base : Nat) (x : Dx) : Prop := w.ownsRow base 54 3 (.slice x.a x.ps.length x.c) x.ps.length (flatF x.ps)
/-- It bears marks. -/
def OmD (w : World) (base : Nat) (x : Dx) : Prop := w.ownsRow base 54 3 (.slice x.a x.ps.length x.c) x.ps.length (flatF (marks 1 x.ps.length))
theorem row_step {W W' : World} {base : Nat} {e : TypeId} {m : Nat} {v : Value} {n : Nat} {vs : List Value} (h : W.ownsRow base e m v n vs) (k : Below W.heap.size W W') : W'.ownsRow base e m v n vs :=
  World.ownsRow.kept h (row := none) ⟨k.os, k.tape, k.output, k.size, fun i hi _ => k.block i hi⟩ (by
    cases hb : v.ownBlock with
    | none => exact .inl rfl
    | some g => exact .inr (by simp))
theorem addr_of {W : World} {base : Nat} {e : TypeId} {m n c : Nat} {a : Option Addr} {vs : List Value} (h : W.ownsRow base e m (.slice a n c) n vs) : (n ≠ 0 → ∃ g, a = some ⟨g, 0, none⟩) ∧ ∀ g, a = some ⟨g, 0, none⟩ → g < W.heap.size := by
  refine ⟨fun hn => ?_, fun g e => (World.ownsRow.lt h g (by rw [e]; rfl)).2⟩
  rcases h.2 with ⟨h1, _⟩ | ⟨g, c', cur, h1, _⟩
  · have : n = 0 := by simp at h1; omega
    exact absurd this hn
  · have : a = some ⟨g, 0, none⟩ ∧ c = c' := by simpa using h1
    exact ⟨g, this.1⟩
theorem OwD.rd {w : World} {base : Nat} {x : Dx} (h : OwD w base x) (hn : x.ps.length ≤ 1048576) : RdD w x := by
  refine ⟨(addr_of h).1, fun g e => ⟨(addr_of h).2 g e, ?_⟩, hn⟩
  have o := h
  unfold OwD at o
  rw [e] at o
  exact OwnF.at o
theorem OwD.step {w w' : World} {base : Nat} {x : Dx} (h : OwD w base x) (k : Below w.heap.size w w') : OwD w' base x := row_step h k
theorem OmD.step {w w' : World} {base : Nat} {x : Dx} (h : OmD w base x) (k : Below w.heap.size w w') : OmD w' base x := row_step h k
/-- The two cells of a disk in a box. -/
def Bc (w : World) (base g : Nat) (v0 v1 : Value) : Prop := w.ownsRow base 26 2 (.slice (some ⟨g, 0, none⟩) 1 1) 1 [v0, v1]
theorem Bc.made {w : World} {base g : Nat} (v0 v1 : Value) (hb : base ≤ w.heap.size) (hg : g = w.heap.size) : Bc (w.alloc (.cells #[v0, v1] 26)) base g v0 v1 := by
  subst hg
  exact ⟨rfl, .inr ⟨w.heap.size, 1, #[v0, v1], rfl, hb, heap_alloc_new w _, Nat.le_refl _, by unfold maxLen; omega, rfl, rfl⟩⟩
section
variable {w w' : World} {base g : Nat} {v0 v1 : Value}
theorem Bc.lt (h : Bc w base g v0 v1) : base ≤ g ∧ g < w.heap.size := World.ownsRow.lt h g rfl
theorem Bc.free (h : Bc w base g v0 v1) (i : Nat) : w.frozen? ⟨g, i, none⟩ = false := World.ownsRow.frozenAt h i
theorem Bc.c0 (h : Bc w base g v0 v1) : w.cell? ⟨g, 0, none⟩ = some v0 := (World.ownsRow.cellAt h 0 (by omega)).trans rfl
theorem Bc.c1 (h : Bc w base g v0 v1) : w.cell? ⟨g, 1, none⟩ = some v1 := (World.ownsRow.cellAt h 1 (by omega)).trans rfl
theorem Bc.set0 (h : Bc w base g v0 v1) (u : Value) : Bc (w.setCell ⟨g, 0, none⟩ u) base g u v1 ∧ w.grownBy (w.setCell ⟨g, 0, none⟩ u) (some g) := World.ownsRow.stored h 0 u
theorem Bc.kept {row : Option Nat} (h : Bc w base g v0 v1) (k : w.grownBy w' row) (hne : some g ≠ row) : Bc w' base g v0 v1 := World.ownsRow.kept h k (Or.inr hne)
theorem Bc.below {B : Nat} (h : Bc w base g v0 v1) (k : Below B w w') (hg : g < B) : Bc w' base g v0 v1 := by
  refine ⟨h.1, ?_⟩
  rcases h.2 with ⟨h1, _⟩ | ⟨g', c, cur, h1, h2, h3, h4⟩
  · simp at h1
  · have e : g = g' := by simp at h1; exact h1.1
    subst e
    exact .inr ⟨g, c, cur, h1, h2, (k.block g hg).trans h3, h4⟩
end
/-- What marks on a disk may turn: its own list alone. -/
structure TurnD (x : Dx) (w w' : World) : Prop where
  os : w'.os = w.os
  tape : w'.tape = w.tape
  output : w'.output = w.output
  size : w.heap.size ≤ w'.heap.size
  block : ∀ k, k < w.heap.size → some k ≠ (Value.slice x.a x.ps.length x.c).ownBlock → w'.heap[k]? = w.heap[k]?
theorem TurnD.below {x : Dx} {w w' : World} {base : Nat} (h : TurnD x w w') (o : OwD w base x) (hb : base ≤ w.heap.size) : Below base w w' :=
  ⟨h.os, h.tape, h.output, h.size, fun j hj => h.block j (by omega) (fun e => by have := (World.ownsRow.lt o j e.symm).1; omega)⟩
end Go.Proofs.Ytcajdiopgaoicaa.DkH14
namespace Go.Proofs.Ytcajdiopgaoicaa.SDk14
open Go.ChangeShapes Go.WideShapes Go.ChangeAt Go.RowKit Fil14 DiskH14 DkH14
/-- Where a file of this name stands, or -1. -/
def findF (ps : List TF) (nm : Int) : Int := match ps.findIdx? (fun p => p.1 == nm) with | some i => i | none => -1
theorem sumZ_le (ps : List TF) (k : Nat) : sumZ (ps.take k) ≤ sumZ ps := by
  have := sumZ_append (ps.take k) (ps.drop k)
  rw [List.take_append_drop] at this
  omega
theorem cells_of {w : World} {x : Dx} (h : RdD w x) {k : Nat} (hk : k < x.ps.length) : ∃ g, x.a = some ⟨g, 0, none⟩ ∧ g < w.heap.size ∧ HoldsF w g (k * 3) (elF x.ps k) := by
  obtain ⟨g, e⟩ := h.e (by omega)
  exact ⟨g, e, (h.r g e).1, (h.r g e).2 k hk⟩
/-- A world in which a call keeps its disk in a box at the call's head. -/
structure Wd (w wr : World) (x : Dx) : Prop where
  c0 : wr.cell? ⟨w.heap.size, 0, none⟩ = some (.int .i64 x.room)
  c1 : wr.cell? ⟨w.heap.size, 1, none⟩ = some (.slice x.a x.ps.length x.c)
  lt : w.heap.size < wr.heap.size
  b : Below w.heap.size w wr
  r : RdD wr x
theorem Wd.made {w : World} {x : Dx} (hr : RdD w x) (t : TypeId) : Wd w (w.alloc (.cells #[.int .i64 x.room, .slice x.a x.ps.length x.c] t)) x :=
  ⟨by simp [go_sem], by simp [go_sem], by simp, one_more _ _, hr.below (one_more _ _)⟩
theorem Wd.step {w wr wz : World} {x : Dx} (h : Wd w wr x) (k : Below wr.heap.size wr wz) : Wd w wz x :=
  ⟨(k.cell (p := ⟨w.heap.size, 0, none⟩) h.lt).trans h.c0, (k.cell (p := ⟨w.heap.size, 1, none⟩) h.lt).trans h.c1, Nat.lt_of_lt_of_le h.lt k.size, h.b.trans (k.mono h.b.size), h.r.below k⟩
theorem Wd.drew {w wr : World} {x : Dx} (h : Wd w wr x) : Wd w wr.drew x := h.step (Below.refl _ _).drew
set_option maxRecDepth 100000 in
set_option maxHeartbeats 4000000 in
theorem sSize (w : World) (x : Dx) (hr : RdD w x) (hz : sumZ x.ps ≤ 1048576) :
    Calls Try.prog 45 #[.agg #[.int .i64 x.room, .slice x.a x.ps.length x.c]] w fun e w' => e = .returned (.int .i64 (sumZ x.ps)) ∧ Below w.heap.size w w' := by
  have W0 := hide (Wd.made hr 26)
  have h20 := hr.n
  clear hr
  go_enter Try.func45, Try.ntmps45
  go_wp2
  go_loopw [3, 4] (fun n i wr => ∃ (k : Nat) (y : Int), k ≤ x.ps.length ∧ i = .int .i64 k ∧ n = .int .i64 y ∧ 0 ≤ y ∧ y ≤ 1048576 ∧ Hid (y = sumZ (x.ps.take k)) ∧ Hid (Wd w wr x)) (fun _ i _ => x.ps.length - (intOf i).toNat)
  case atStart => exact ⟨0, 0, by omega, rfl, rfl, by omega, by omega, hide (by simp [sumZ]), W0⟩
  case round =>
    clear W0
    obtain ⟨k, y, hk, rfl, rfl, y0, y1, HY, HW⟩ := hrel
    have c1 := (unhide HW).c1
    have lt := (unhide HW).lt
    by_cases t : k < x.ps.length
    · have kt : (k : Int) < x.ps.length := by omega
      have NX := sumZ_next t
      have LE := sumZ_le x.ps (k + 1)
      have YE := unhide HY
      obtain ⟨g, ea, lg, d0, d1, d2⟩ := cells_of (unhide HW).r t
      generalize (elF x.ps k).1 = z0 at *
      generalize (elF x.ps k).2.1 = z1 at *
      generalize (elF x.ps k).2.2 = z2 at *
      have b1 : (z1.size : Int) ≤ 1048576 := by omega
      have b2 : y + z1.size + z2.size ≤ 1048576 := by omega
      have a1 : wrap64 (y + z1.size) = y + z1.size := by rw [wrap64]; omega
      have a2 : wrap64 (y + z1.size + z2.size) = y + z1.size + z2.size := by rw [wrap64]; omega
      have NY := hide (show y + z1.size + z2.size = sumZ (x.ps.take (k + 1)) by omega)
      clear NX LE YE
      rw [ea] at c1
      go_wp2_with fail
      go_region
      go_wp2
      go_roundw
      case rel => exact ⟨k + 1, y + z1.size + z2.size, by omega, by go_num, rfl, by omega, by omega, NY, (unhide HW).drew⟩
      case measure => simp [intOf]; omega
    · have e : k = x.ps.length := by omega
      have E := hide (show y = sumZ x.ps by have := unhide HY; rw [e, List.take_length] at this; exact this)
      have kt : ¬ (k : Int) < x.ps.length := by omega
      clear HY
      subst e
      go_wp2
      go_ret
      exact ⟨congrArg (fun z => Ending.returned (.int .i64 z)) (unhide E), (unhide HW).b⟩
theorem elF_get {ps : List TF} {k : Nat} (hk : k < ps.length) : elF ps k = ps[k] := by simp [List.getD, hk]
theorem findF_at {ps : List TF} {nm : Int} {k : Nat} (hk : k < ps.length) (h : ∀ j, j < k → (elF ps j).1 ≠ nm) (e : (elF ps k).1 = nm) : findF ps nm = k := by
  have : ps.findIdx? (fun p => p.1 == nm) = some k := by
    rw [List.findIdx?_eq_some_iff_getElem]
    refine ⟨hk, by rw [elF_get hk] at e; simp [e], fun j hj => ?_⟩
    have := h j hj
    rw [elF_get (by omega)] at this
    simp [this]
  unfold findF
  rw [this]
theorem findF_no {ps : List TF} {nm : Int} (h : ∀ j, j < ps.length → (elF ps j).1 ≠ nm) : findF ps nm = -1 := by
  have : ps.findIdx? (fun p => p.1 == nm) = none := by
    rw [List.findIdx?_eq_none_iff]
    intro q hq
    obtain ⟨i, hi, rfl⟩ := List.getElem_of_mem hq
    have := h i hi
    rw [elF_get hi] at this
    simp [this]
  unfold findF
  rw [this]
theorem findF_in {ps : List TF} {nm : Int} (h : 0 ≤ findF ps nm) : ∃ k : Nat, findF ps nm = k ∧ k < ps.length ∧ (elF ps k).1 = nm := by
  unfold findF at *
  cases q : ps.findIdx? (fun p => p.1 == nm) with
  | none => rw [q] at h; simp at h
  | some i =>
    rw [List.findIdx?_eq_some_iff_getElem] at q
    obtain ⟨hi, e, _⟩ := q
    exact ⟨i, rfl, hi, by rw [elF_get hi]; simpa using e⟩
set_option maxRecDepth 100000 in
set_option maxHeartbeats 4000000 in
theorem sFind (w : World) (x : Dx) (nm : Int) (hr : RdD w x) :
    Calls Try.prog 47 #[.agg #[.int .i64 x.room, .slice x.a x.ps.length x.c], .int .i64 nm] w fun e w' => e = .returned (.int .i64 (findF x.ps nm)) ∧ Below w.heap.size w w' := by
  have W0 := hide (Wd.made hr 26)
  have h20 := hr.n
  clear hr
  go_enter Try.func47, Try.ntmps47
  go_wp2
  go_loopw [5] (fun i wr => ∃ (k : Nat), k ≤ x.ps.length ∧ i = .int .i64 k ∧ Hid (∀ j, j < k → (elF x.ps j).1 ≠ nm) ∧ Hid (Wd w wr x)) (fun i _ => x.ps.length - (intOf i).toNat)
  case atStart => exact ⟨0, by omega, rfl, hide (fun j h => absurd h (by omega)), W0⟩
  case round =>
    clear W0
    obtain ⟨k, hk, rfl, HY, HW⟩ := hrel
    have c1 := (unhide HW).c1
    have lt := (unhide HW).lt
    by_cases t : k < x.ps.length
    · have kt : (k : Int) < x.ps.length := by omega
      have AT := hide (fun e => findF_at t (unhide HY) e)
      have NO := hide (fun (e : ¬ (elF x.ps k).1 = nm) j (h : j < k + 1) => show (elF x.ps j).1 ≠ nm from by
        by_cases q : j = k
        · subst q; exact e
        · exact (unhide HY) j (by omega))
      obtain ⟨g, ea, lg, d0, d1, d2⟩ := cells_of (unhide HW).r t
      generalize (elF x.ps k).1 = z0 at *
      clear HY d1 d2
      rw [ea] at c1
      by_cases q : z0 = nm
      · have A := hide ((unhide AT) q)
        clear AT NO
        subst q
        go_wp2
        go_ret
        exact ⟨congrArg (fun z => Ending.returned (.int .i64 z)) (unhide A).symm, (unhide HW).b⟩
      · have N := hide ((unhide NO) q)
        clear AT NO
        go_wp2
        go_roundw
        case rel => exact ⟨k + 1, by omega, by go_num, N, HW⟩
        case measure => simp [intOf]; omega
    · have e : k = x.ps.length := by omega
      have E := hide (show findF x.ps nm = -1 from findF_no (by rw [← e]; exact unhide HY))
      clear HY
      subst e
      go_wp2
      go_ret
      exact ⟨congrArg (fun z => Ending.returned (.int .i64 z)) (unhide E).symm, (unhide HW).b⟩
end Go.Proofs.Ytcajdiopgaoicaa.SDk14
