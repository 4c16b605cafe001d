/- Disks: what is read of them and owned of them, and the laws' own helpers on them. Lists that are empty may be nil. -/
import Derived.Test.YtnjhgkclcnfooabMarkFS14
namespace Go.Proofs.Ytnjhgkclcnfooab.DkH14
open Go.ChangeShapes Go.WideShapes Go.ChangeAt Go.RowKit Fil14 OpensF14 DiskH14
open MarkFS14 (marks marks_len)
set_option linter.unusedVariables false
set_option linter.unusedSimpArgs false

/-- A disk and where its files lie. -/
structure Dx where
  room : Int
  a : Option Addr
  c : Nat
  ps : List TF

/-- What is read of a disk. -/
structure RdD (w : World) (x : Dx) : Prop where
  e : x.ps.length ≠ 0 → ∃ g, x.a = some ⟨g, 0, none⟩
  r : ∀ g, x.a = some ⟨g, 0, none⟩ → g < w.heap.size ∧ AtF w g x.ps
  n : x.ps.length ≤ 1048576
theorem RdD.below {w w' : World} {x : Dx} (h : RdD w x) (k : Below w.heap.size w w') : RdD w' x := ⟨h.e, fun g e => ⟨Nat.lt_of_lt_of_le (h.r g e).1 k.size, (h.r g e).2.below k (h.r g e).1⟩, h.n⟩

/-- A disk of the call's own. -/
def OwD (w : World) (base : Nat) (x : Dx) : Prop := w.ownsRow base 46 3 (.slice x.a x.ps.length x.c) x.ps.length (flatF x.ps)
/-- It bears marks. -/
def OmD (w : World) (base : Nat) (x : Dx) : Prop := w.ownsRow base 46 3 (.slice x.a x.ps.length x.c) x.ps.length (flatF (marks 1 x.ps.length))

theorem row_step {W W' : World} {base : Nat} {e : TypeId} {m : Nat} {v : Value} {n : Nat} {vs : List Value} (h : W.ownsRow base e m v n vs) (k : Below W.heap.size W W') : W'.ownsRow base e m v n vs :=
  World.ownsRow.kept h (row := none) ⟨k.os, k.tape, k.output, k.size, fun i hi _ => k.block i hi⟩ (by
    cases hb : v.ownBlock with
    | none => exact .inl rfl
    | some g => exact .inr (by simp))
theorem addr_of {W : World} {base : Nat} {e : TypeId} {m n c : Nat} {a : Option Addr} {vs : List Value} (h : W.ownsRow base e m (.slice a n c) n vs) : (n ≠ 0 → ∃ g, a = some ⟨g, 0, none⟩) ∧ ∀ g, a = some ⟨g, 0, none⟩ → g < W.heap.size := by
  refine ⟨fun hn => ?_, fun g e => (World.ownsRow.lt h g (by rw [e]; rfl)).2⟩
  rcases h.2 with ⟨h1, _⟩ | ⟨g, c', cur, h1, _⟩
  · have : n = 0 := by simp at h1; omega
    exact absurd this hn
  · have : a = some ⟨g, 0, none⟩ ∧ c = c' := by simpa using h1
    exact ⟨g, this.1⟩
theorem OwD.rd {w : World} {base : Nat} {x : Dx} (h : OwD w base x) (hn : x.ps.length ≤ 1048576) : RdD w x := by
  refine ⟨(addr_of h).1, fun g e => ⟨(addr_of h).2 g e, ?_⟩, hn⟩
  have o := h
  unfold OwD at o
  rw [e] at o
  exact OwnF.at o
theorem OwD.step {w w' : World} {base : Nat} {x : Dx} (h : OwD w base x) (k : Below w.heap.size w w') : OwD w' base x := row_step h k
theorem OmD.step {w w' : World} {base : Nat} {x : Dx} (h : OmD w base x) (k : Below w.heap.size w w') : OmD w' base x := row_step h k

/-- The two cells of a disk in a box. -/
def Bc (w : World) (base g : Nat) (v0 v1 : Value) : Prop := w.ownsRow base 28 2 (.slice (some ⟨g, 0, none⟩) 1 1) 1 [v0, v1]
theorem Bc.made {w : World} {base g : Nat} (v0 v1 : Value) (hb : base ≤ w.heap.size) (hg : g = w.heap.size) : Bc (w.alloc (.cells #[v0, v1] 28)) base g v0 v1 := by
  subst hg
  exact ⟨rfl, .inr ⟨w.heap.size, 1, #[v0, v1], rfl, hb, heap_alloc_new w _, Nat.le_refl _, by unfold maxLen; omega, rfl, rfl⟩⟩
section
variable {w w' : World} {base g : Nat} {v0 v1 : Value}
theorem Bc.lt (h : Bc w base g v0 v1) : base ≤ g ∧ g < w.heap.size := World.ownsRow.lt h g rfl
theorem Bc.free (h : Bc w base g v0 v1) (i : Nat) : w.frozen? ⟨g, i, none⟩ = false := World.ownsRow.frozenAt h i
theorem Bc.c0 (h : Bc w base g v0 v1) : w.cell? ⟨g, 0, none⟩ = some v0 := (World.ownsRow.cellAt h 0 (by omega)).trans rfl
theorem Bc.c1 (h : Bc w base g v0 v1) : w.cell? ⟨g, 1, none⟩ = some v1 := (World.ownsRow.cellAt h 1 (by omega)).trans rfl
theorem Bc.set0 (h : Bc w base g v0 v1) (u : Value) : Bc (w.setCell ⟨g, 0, none⟩ u) base g u v1 ∧ w.grownBy (w.setCell ⟨g, 0, none⟩ u) (some g) := World.ownsRow.stored h 0 u
theorem Bc.kept {row : Option Nat} (h : Bc w base g v0 v1) (k : w.grownBy w' row) (hne : some g ≠ row) : Bc w' base g v0 v1 := World.ownsRow.kept h k (Or.inr hne)
theorem Bc.below {B : Nat} (h : Bc w base g v0 v1) (k : Below B w w') (hg : g < B) : Bc w' base g v0 v1 := by
  refine ⟨h.1, ?_⟩
  rcases h.2 with ⟨h1, _⟩ | ⟨g', c, cur, h1, h2, h3, h4⟩
  · simp at h1
  · have e : g = g' := by simp at h1; exact h1.1
    subst e
    exact .inr ⟨g, c, cur, h1, h2, (k.block g hg).trans h3, h4⟩
end

theorem row_store {w : World} {base g n cap : Nat} {xs : List TF} (h : OwnF 46 w base g n cap xs) {a : Addr} (ha : a.block < base) (u : Value) : OwnF 46 (w.setCell a u) base g n cap xs := ownsRow_setCell_below h ha u

set_option maxRecDepth 100000 in
set_option maxHeartbeats 4000000 in
/-- A copy of a disk that came in. -/
theorem toD0 (w : World) (k : Int) (a : Option Addr) (len cap : Nat) (xs : List TF) (hl : xs.length = len) (h20 : len ≤ 1048576) (hr : ReadsF w a xs) :
    Calls Try.prog 7 #[.agg #[.int .i64 k, .slice a len cap]] w fun e w' => ∃ g, e = .returned (.agg #[.int .i64 k, .slice (some ⟨g, 0, none⟩) len len]) ∧ OwnF 46 w' w.heap.size g len len xs ∧ Below w.heap.size w w' := by
  have F : ∀ W1, W1 = w.alloc (.cells #[.int .i64 k, .slice a len cap] 24) → ∀ W2, W2 = W1.alloc (.cells #[.int .i64 0, .slice none 0 0] 28) → ∀ W3, W3 = W2.alloc (.cells #[.int .i64 k, .slice none 0 0] 28) →
      Below w.heap.size w W3 ∧ Bc W3 w.heap.size (w.heap.size + 1) (.int .i64 0) (.slice none 0 0) ∧ Bc W3 w.heap.size (w.heap.size + 1 + 1) (.int .i64 k) (.slice none 0 0) ∧ W3.heap.size = w.heap.size + 3 := by
    intro W1 h1 W2 h2 W3 h3
    have s1 : W1.heap.size = w.heap.size + 1 := by rw [h1]; simp
    have s2 : W2.heap.size = w.heap.size + 1 + 1 := by rw [h2]; simp [s1]
    have s3 : W3.heap.size = w.heap.size + 3 := by rw [h3]; simp [s2]
    have b1 : Below w.heap.size w W1 := by rw [h1]; exact one_more _ _
    have b2 : Below W1.heap.size W1 W2 := by rw [h2]; exact one_more _ _
    have b3 : Below W2.heap.size W2 W3 := by rw [h3]; exact one_more _ _
    have R1 : Bc W2 w.heap.size (w.heap.size + 1) (.int .i64 0) (.slice none 0 0) := by rw [h2]; exact Bc.made _ _ (by omega) s1.symm
    have O1 : Bc W3 w.heap.size (w.heap.size + 1 + 1) (.int .i64 k) (.slice none 0 0) := by rw [h3]; exact Bc.made _ _ (by omega) s2.symm
    exact ⟨(b1.trans (b2.mono (by omega))).trans (b3.mono (by omega)), R1.below b3 (by omega), O1, s3⟩
  have G := hide (F _ rfl _ rfl _ rfl)
  have HR := hide hr
  clear F hr
  go_enter Try.func7, Try.ntmps7
  go_wp2_with fail
  refine (HelpF14.toS _ a len cap xs hl h20 ((unhide HR).below (unhide G).1)).mono ?_
  rintro e w1 ⟨rfl, o, bb⟩
  obtain ⟨BW, R0, O0, s3⟩ := unhide G
  rw [s3] at o
  have R1 := R0.below bb (by omega)
  have O1 := O0.below bb (by omega)
  have B1 := hide (BW.trans (bb.mono BW.size))
  have OX := hide o
  have z1 := bb.size
  have c0 := O1.c0
  have c1 := O1.c1
  have d0 := O1.free 0
  have d1 := O1.free 1
  have r0 := R1.c0
  have r1 := R1.c1
  have f0 := R1.free 0
  have f1 := R1.free 1
  clear bb o BW R0 O0 G HR R1 O1
  simp only [s3] at *
  go_wp2
  refine bodyPost_ret (v := .agg #[.int .i64 k, .slice (some ⟨w.heap.size + 3, 0, none⟩) len len]) (by simp [results, Try.results7, go_sem, r0, r1]) rfl ⟨w.heap.size + 3, rfl, ?_, ?_⟩
  · exact (row_store (row_store (row_store (unhide OX) (a := ⟨w.heap.size + 1 + 1, 1, none⟩) (by simp) _) (a := ⟨w.heap.size + 1, 0, none⟩) (by simp) _) (a := ⟨w.heap.size + 1, 1, none⟩) (by simp) _).rebase (by omega)
  · exact (((unhide B1).setCell (p := ⟨w.heap.size + 1 + 1, 1, none⟩) (by simp; omega) _).setCell (p := ⟨w.heap.size + 1, 0, none⟩) (by simp) _).setCell (p := ⟨w.heap.size + 1, 1, none⟩) (by simp) _

theorem toD (w : World) (room : Int) (a : Option Addr) (len cap : Nat) (ps : List TF) (hl : ps.length = len) (h20 : len ≤ 1048576) (hr : ReadsF w a ps) :
    Calls Try.prog 7 #[.agg #[.int .i64 room, .slice a len cap]] w fun e w' => ∃ x : Dx, x.room = room ∧ x.ps = ps ∧ e = .returned (.agg #[.int .i64 x.room, .slice x.a x.ps.length x.c]) ∧ OwD w' w.heap.size x ∧ Below w.heap.size w w' :=
  (toD0 w room a len cap ps hl h20 hr).mono fun e w' ⟨g, h1, h2, h3⟩ => ⟨⟨room, some ⟨g, 0, none⟩, len, ps⟩, rfl, rfl, by subst hl; exact h1, by subst hl; exact h2, h3⟩

set_option maxRecDepth 100000 in
theorem eqN (w : World) (a1 a2 : Option Addr) (c1 c2 : Nat) : Calls Try.prog 24 #[.slice a1 0 c1, .slice a2 0 c2] w fun e w' => e = .returned (.bool true) ∧ w' = w := by
  go_enter Try.func24, Try.ntmps24
  go_wp2
  go_loopw [5] (fun j wr => j = .int .i64 0 ∧ wr = w) (fun _ _ => 0)
  case atStart => exact ⟨rfl, rfl⟩
  case round =>
    obtain ⟨rfl, rfl⟩ := hrel
    go_wp2
    go_ret
    exact ⟨rfl, rfl⟩
theorem eqV (w : World) (x y : Dx) (hp : y.ps = x.ps) (hx : RdD w x) (hy : RdD w y) : Calls Try.prog 24 #[.slice x.a x.ps.length x.c, .slice y.a x.ps.length y.c] w fun e w' => e = .returned (.bool true) ∧ Below w.heap.size w w' := by
  by_cases z : x.ps.length = 0
  · rw [z]
    exact (eqN w _ _ _ _).mono fun e w' ⟨h1, h2⟩ => ⟨h1, by rw [h2]; exact Below.refl _ _⟩
  · obtain ⟨g1, e1⟩ := hx.e z
    obtain ⟨g2, e2⟩ := hy.e (by rw [hp]; exact z)
    have a1 := hx.r g1 e1
    have a2 := hy.r g2 e2
    rw [hp] at a2
    rw [e1, e2]
    exact HelpF14.eqS w g1 g2 _ _ _ x.ps rfl hx.n a1.1 a2.1 a1.2 a2.2

set_option maxRecDepth 100000 in
/-- Equal disks are told equal. -/
theorem eqD (w : World) (x y : Dx) (hr : y.room = x.room) (hp : y.ps = x.ps) (hx : RdD w x) (hy : RdD w y) :
    Calls Try.prog 9 #[.agg #[.int .i64 x.room, .slice x.a x.ps.length x.c], .agg #[.int .i64 y.room, .slice y.a y.ps.length y.c]] w fun e w' => e = .returned (.bool true) ∧ Below w.heap.size w w' := by
  have b1 := one_more w (.cells #[.int .i64 x.room, .slice x.a x.ps.length x.c] 28)
  have b2 := one_more (w.alloc (.cells #[.int .i64 x.room, .slice x.a x.ps.length x.c] 28)) (.cells #[.int .i64 y.room, .slice y.a y.ps.length y.c] 28)
  have B := hide (b1.trans (b2.mono b1.size))
  have E := hide (eqV _ x y hp (hx.below (unhide B)) (hy.below (unhide B)))
  rw [hr, hp] at B ⊢
  rw [hr, hp] at E
  have q : (x.room != x.room) = false := by simp
  clear hx hy b1 b2 hr hp
  go_enter Try.func9, Try.ntmps9
  go_wp2_with fail
  refine (unhide E).mono ?_
  rintro e u ⟨rfl, bb⟩
  have B2 := hide ((unhide B).trans (bb.mono (unhide B).size))
  clear bb
  go_wp2
  go_ret
  exact ⟨rfl, unhide B2⟩

set_option maxRecDepth 100000 in
theorem markN (w : World) (a : Option Addr) (c : Nat) (s : Int) : Calls Try.prog 25 #[.slice a 0 c, .int .i64 s] w fun e w' => e = .returned (.int .i64 s) ∧ w' = w := by
  go_enter Try.func25, Try.ntmps25
  go_wp2
  go_loopw [1, 5] (fun m j wr => m = .int .i64 s ∧ j = .int .i64 0 ∧ wr = w) (fun _ _ _ => 0)
  case atStart => exact ⟨rfl, rfl, rfl⟩
  case round =>
    obtain ⟨rfl, rfl, rfl⟩ := hrel
    go_wp2
    go_ret
    exact ⟨rfl, rfl⟩
set_option maxRecDepth 100000 in
theorem heldN (w : World) (a : Option Addr) (c : Nat) (s : Int) : Calls Try.prog 26 #[.slice a 0 c, .int .i64 s] w fun e w' => e = .returned (.int .i64 s) ∧ w' = w := by
  go_enter Try.func26, Try.ntmps26
  go_wp2
  go_loopw [1, 5] (fun m j wr => m = .int .i64 s ∧ j = .int .i64 0 ∧ wr = w) (fun _ _ _ => 0)
  case atStart => exact ⟨rfl, rfl, rfl⟩
  case round =>
    obtain ⟨rfl, rfl, rfl⟩ := hrel
    go_wp2
    go_ret
    exact ⟨rfl, rfl⟩

/-- Marks on the files of a disk, its list nil or not. -/
theorem markV (w : World) (base : Nat) (x : Dx) (hn : x.ps.length ≤ 1048576) (hb : base ≤ w.heap.size) (ho : OwD w base x) :
    Calls Try.prog 25 #[.slice x.a x.ps.length x.c, .int .i64 1] w fun e w' => e = .returned (.int .i64 (1 + 3 * (x.ps.length : Int))) ∧ OmD w' base x ∧ w.grownBy w' (Value.slice x.a x.ps.length x.c).ownBlock := by
  unfold OwD at ho
  unfold OmD
  generalize hl : x.ps.length = n at *
  generalize x.a = a at *
  generalize x.c = c at *
  have ho' := ho
  rcases ho.2 with ⟨h1, h2⟩ | ⟨g, c', cur, h1, _⟩
  · obtain ⟨rfl, _, rfl⟩ : a = none ∧ n = 0 ∧ c = 0 := by simpa using h1
    subst h2
    exact (markN w _ _ 1).mono fun e w' ⟨q1, q2⟩ => ⟨by rw [q1]; simp, by rw [q2]; exact World.ownsRow_nil w base _ _, by rw [q2]; exact World.grownBy.refl _ _⟩
  · obtain ⟨rfl, rfl⟩ : a = some ⟨g, 0, none⟩ ∧ c = c' := by simpa using h1
    exact MarkFS14.markS w base g n c 1 x.ps hn (by omega) (by omega) hb ho'
theorem heldV (w : World) (base : Nat) (x : Dx) (hn : x.ps.length ≤ 1048576) (ho : OmD w base x) :
    Calls Try.prog 26 #[.slice x.a x.ps.length x.c, .int .i64 1] w fun e w' => e = .returned (.int .i64 (1 + 3 * (x.ps.length : Int))) ∧ Below w.heap.size w w' := by
  unfold OmD at ho
  generalize hl : x.ps.length = n at *
  generalize x.a = a at *
  generalize x.c = c at *
  have ho' := ho
  rcases ho.2 with ⟨h1, h2⟩ | ⟨g, c', cur, h1, _⟩
  · obtain ⟨rfl, _, rfl⟩ : a = none ∧ n = 0 ∧ c = 0 := by simpa using h1
    subst h2
    exact (heldN w _ _ 1).mono fun e w' ⟨q1, q2⟩ => ⟨by rw [q1]; simp, by rw [q2]; exact Below.refl _ _⟩
  · obtain ⟨rfl, rfl⟩ : a = some ⟨g, 0, none⟩ ∧ c = c' := by simpa using h1
    exact MarkFS14.heldS w g n c 1 hn (by omega) (by omega) (OwnF.lt ho').2 (OwnF.at ho')

/-- What marks on a disk may turn: its own list alone. -/
structure TurnD (x : Dx) (w w' : World) : Prop where
  os : w'.os = w.os
  tape : w'.tape = w.tape
  output : w'.output = w.output
  size : w.heap.size ≤ w'.heap.size
  block : ∀ k, k < w.heap.size → some k ≠ (Value.slice x.a x.ps.length x.c).ownBlock → w'.heap[k]? = w.heap[k]?
theorem TurnD.below {x : Dx} {w w' : World} {base : Nat} (h : TurnD x w w') (o : OwD w base x) (hb : base ≤ w.heap.size) : Below base w w' :=
  ⟨h.os, h.tape, h.output, h.size, fun j hj => h.block j (by omega) (fun e => by have := (World.ownsRow.lt o j e.symm).1; omega)⟩

set_option maxRecDepth 100000 in
theorem markD (w : World) (base : Nat) (x : Dx) (hn : x.ps.length ≤ 1048576) (hb : base ≤ w.heap.size) (ho : OwD w base x) :
    Calls Try.prog 10 #[.agg #[.int .i64 x.room, .slice x.a x.ps.length x.c], .int .i64 1] w fun e w' => e = .returned (.int .i64 (1 + 3 * (x.ps.length : Int))) ∧ OmD w' base x ∧ TurnD x w w' := by
  have b1 := one_more w (.cells #[.int .i64 x.room, .slice x.a x.ps.length x.c] 28)
  have M := hide (markV _ base x hn (Nat.le_trans hb b1.size) (ho.step b1))
  have B1 := hide b1
  clear ho b1
  go_enter Try.func10, Try.ntmps10
  go_wp2_with fail
  refine (unhide M).mono ?_
  rintro e u ⟨rfl, o, gr⟩
  have O := hide o
  have T := hide (show TurnD x w u from ⟨gr.os.trans (unhide B1).os, gr.tape.trans (unhide B1).tape, gr.output.trans (unhide B1).output, Nat.le_trans (unhide B1).size gr.size, fun k hk ne => (gr.block k (Nat.lt_of_lt_of_le hk (unhide B1).size) ne).trans ((unhide B1).block k hk)⟩)
  clear o gr M
  go_wp2
  go_ret
  exact ⟨rfl, unhide O, unhide T⟩

set_option maxRecDepth 100000 in
theorem heldD (w : World) (base : Nat) (x : Dx) (hn : x.ps.length ≤ 1048576) (ho : OmD w base x) :
    Calls Try.prog 11 #[.agg #[.int .i64 x.room, .slice x.a x.ps.length x.c], .int .i64 1] w fun e w' => e = .returned (.int .i64 (1 + 3 * (x.ps.length : Int))) ∧ Below w.heap.size w w' := by
  have b1 := one_more w (.cells #[.int .i64 x.room, .slice x.a x.ps.length x.c] 28)
  have M := hide (heldV _ base x hn (ho.step b1))
  have B1 := hide b1
  have q : ¬ (1 + 3 * (x.ps.length : Int) < 0) := by omega
  clear ho b1
  go_enter Try.func11, Try.ntmps11
  go_wp2_with fail
  refine (unhide M).mono ?_
  rintro e u ⟨rfl, bb⟩
  have B2 := hide ((unhide B1).trans (bb.mono (unhide B1).size))
  clear bb M
  go_wp2
  go_ret
  exact ⟨rfl, unhide B2⟩

end Go.Proofs.Ytnjhgkclcnfooab.DkH14
