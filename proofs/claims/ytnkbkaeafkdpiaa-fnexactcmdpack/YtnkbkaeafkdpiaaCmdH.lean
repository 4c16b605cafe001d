/- Commands: the laws' own helpers on them, and a command that came in. -/
import Derived.Test.YtnkbkaeafkdpiaaSCmd
import Derived.Deep.Slices
import Derived.ChangeSlices
namespace Go.Proofs.Ytnkbkaeafkdpiaa.CmdH
open Go.ChangeShapes Go.WideShapes Go.ChangeAt Go.RowKit SCmd
set_option linter.unusedVariables false
set_option linter.unusedSimpArgs false

theorem reads_of {w : World} {a : Addr} {len : Nat} {zs : List Int} (hz : len ≤ zs.length) (hcell : ∀ i, i < zs.length → w.cell? (a.add i) = some (.int .i64 (zs.getD i 0))) : (zs.take len).length = len ∧ Ints.Reads w (some a) (zs.take len) := by
  have hlen : (zs.take len).length = len := by simp; omega
  refine ⟨hlen, ?_⟩
  by_cases z : len = 0
  · exact .inl (by omega)
  · obtain ⟨b, off, spot⟩ := a
    have hc := hcell 0 (by omega)
    have hspot : spot = none := by simpa [Addr.add] using World.cell?_spot hc
    subst hspot
    have hc0 : w.cell? ⟨b, off, none⟩ = some (.int .i64 (zs.getD 0 0)) := by simpa [Addr.add] using hc
    refine .inr ⟨b, off, rfl, World.block_lt_of_cell? w _ hc0, fun i hi => ?_⟩
    have k := hcell i (by omega)
    rw [Ints.getD_take zs len i (by omega)]
    by_cases z : i = 0
    · subst z; simpa [Addr.add] using k
    · simpa [Addr.add, z] using k

theorem struct_cells2 {H : Type} {enc : TypeId × Value → H} {P : Program} {w : World} {base : Nat} {spare : Nat → Bool} {held : Bool} {e : TypeId} {f0 f1 : Field} {fuel : Nat} {cs : List Value} {x : DataW H × List MemPlace}
    (he : P.underlying e = some (.struct #[f0, f1])) (hc : (P.cellsOf e == 2 && P.cellsOf f0.type == 1 && P.cellsOf f1.type == 1 && f0.offset == 0 && f1.offset == 1) = true)
    (h : DataW.trod enc P w base spare held fuel e cs = some x) : ∃ v0 v1 k x0 x1, cs = [v0, v1] ∧ DataW.trod enc P w base spare held k f0.type [v0] = some x0 ∧ DataW.trod enc P w base spare held k f1.type [v1] = some x1 := by
  simp at hc
  obtain ⟨⟨⟨⟨ce, k0⟩, k1⟩, o0⟩, o1⟩ := hc
  obtain ⟨xs, k, _, _, hl, hlen, hf⟩ := DataW.trod_struct he h
  rw [ce] at hl
  match xs, hlen, cs, hl with
  | [y0, y1], _, [v0, v1], _ =>
    have g0 := hf 0 f0 rfl
    have g1 := hf 1 f1 rfl
    simp [o0, k0] at g0
    simp [o1, k1] at g1
    exact ⟨v0, v1, k, _, _, rfl, g0, g1⟩

set_option maxRecDepth 100000 in
theorem open_cmd {H : Type} {enc : TypeId × Value → H} {w : World} {base b0' : Nat} {spare : Nat → Bool} {held : Bool} {r : Reach} {v : Value} {d : DataW H} {p : List MemPlace}
    (hv : Value.okWide Try.prog w r b0' 34 v) (h : DataW.Trod enc Try.prog w base spare held 34 v d p) : ∃ k a len cap xs, v = .agg #[.int .i64 k, .slice a len cap] ∧ xs.length = len ∧ len ≤ 9223372036854775807 ∧ Ints.Reads w a xs := by
  obtain ⟨cs, rfl, _⟩ := okWide_struct Try.underlying34 hv
  obtain ⟨fuel, hf⟩ := h
  obtain ⟨v0, v1, k, x0, x1, e, g0, g1⟩ := struct_cells2 (cs := cs.toList) Try.underlying34 (by kernel_rfl) (by simpa [Value.cells] using hf)
  obtain ⟨z, q, _⟩ := DataW.trod_int Try.underlying3 g0
  simp at q
  subst q
  rcases open_ints Try.underlying32 Try.underlying3 (by kernel_rfl) g1 with ⟨hcs, _⟩ | ⟨x, l, c, zs, hcs, _, hl, hm, hz, _, hcell, hwz⟩
  · simp at hcs
    subst hcs
    exact ⟨z, none, 0, 0, [], congrArg Value.agg (Array.ext' e), rfl, by omega, .inl rfl⟩
  · simp at hcs
    subst hcs
    obtain ⟨h1, h2⟩ := reads_of (len := l) (by rw [hz]; split <;> omega) hcell
    exact ⟨z, some x, l, c, zs.take l, congrArg Value.agg (Array.ext' e), h1, by unfold maxLen at hm; omega, h2⟩

/-- How much a command holds. -/
theorem szC (w : World) (k : Int) (a : Option Addr) (len cap : Nat) (hm : len ≤ 9223372036854775807) :
    Calls Try.prog 15 #[.agg #[.int .i64 k, .slice a len cap], .int .i64 1048576] w fun e w' => ∃ r, e = .returned (.int .i64 r) ∧ (r = -1 ∨ (0 ≤ r ∧ len ≤ 1048576)) ∧ Below w.heap.size w w' := by
  have h2 : wrap64 (1048576 - (len : Int)) = 1048576 - (len : Int) := by rw [wrap64]; omega
  have B := hide (one_more w (.cells #[.int .i64 k, .slice a len cap] 34))
  by_cases h : (len : Int) ≤ 1048576
  · have h1 : (0 : Int) ≤ 1048576 - (len : Int) := by omega
    go_enter Try.func15, Try.ntmps15
    go_wp2
    go_ret
    exact ⟨_, rfl, .inr ⟨h1, by omega⟩, unhide B⟩
  · have h1 : 1048576 - (len : Int) < 0 := by omega
    go_enter Try.func15, Try.ntmps15
    go_wp2
    go_ret
    exact ⟨_, rfl, .inl rfl, unhide B⟩

/-- A command's box. -/
def Bc (w : World) (base g : Nat) (v0 v1 : Value) : Prop := w.ownsRow base 37 2 (.slice (some ⟨g, 0, none⟩) 1 1) 1 [v0, v1]
theorem Bc.made {w : World} {base g : Nat} (v0 v1 : Value) (hb : base ≤ w.heap.size) (hg : g = w.heap.size) : Bc (w.alloc (.cells #[v0, v1] 37)) base g v0 v1 := by
  subst hg
  exact ⟨rfl, .inr ⟨w.heap.size, 1, #[v0, v1], rfl, hb, heap_alloc_new w _, Nat.le_refl _, by unfold maxLen; omega, rfl, rfl⟩⟩
section
variable {w w' : World} {base g : Nat} {v0 v1 : Value}
theorem Bc.lt (h : Bc w base g v0 v1) : base ≤ g ∧ g < w.heap.size := World.ownsRow.lt h g rfl
theorem Bc.free (h : Bc w base g v0 v1) (i : Nat) : w.frozen? ⟨g, i, none⟩ = false := World.ownsRow.frozenAt h i
theorem Bc.c0 (h : Bc w base g v0 v1) : w.cell? ⟨g, 0, none⟩ = some v0 := (World.ownsRow.cellAt h 0 (by omega)).trans rfl
theorem Bc.c1 (h : Bc w base g v0 v1) : w.cell? ⟨g, 1, none⟩ = some v1 := (World.ownsRow.cellAt h 1 (by omega)).trans rfl
theorem Bc.set0 (h : Bc w base g v0 v1) (u : Value) : Bc (w.setCell ⟨g, 0, none⟩ u) base g u v1 ∧ w.grownBy (w.setCell ⟨g, 0, none⟩ u) (some g) := World.ownsRow.stored h 0 u
theorem Bc.kept {row : Option Nat} (h : Bc w base g v0 v1) (k : w.grownBy w' row) (hne : some g ≠ row) : Bc w' base g v0 v1 := World.ownsRow.kept h k (Or.inr hne)
theorem Bc.below {B : Nat} (h : Bc w base g v0 v1) (k : Below B w w') (hg : g < B) : Bc w' base g v0 v1 := by
  refine ⟨h.1, ?_⟩
  rcases h.2 with ⟨h1, _⟩ | ⟨g', c, cur, h1, h2, h3, h4⟩
  · simp at h1
  · have e : g = g' := by simp at h1; exact h1.1
    subst e
    exact .inr ⟨g, c, cur, h1, h2, (k.block g hg).trans h3, h4⟩
end

theorem row_store {w : World} {base g n cap : Nat} {xs : List Int} (h : Ints.Own w base g n cap xs) {a : Addr} (ha : a.block < base) (u : Value) : Ints.Own (w.setCell a u) base g n cap xs := ownsRow_setCell_below h ha u

set_option maxRecDepth 100000 in
set_option maxHeartbeats 4000000 in
/-- A copy of a command that came in. -/
theorem toC (w : World) (k : Int) (a : Option Addr) (len cap : Nat) (xs : List Int) (hl : xs.length = len) (h20 : len ≤ 1048576) (hr : Ints.Reads w a xs) :
    Calls Try.prog 17 #[.agg #[.int .i64 k, .slice a len cap]] w fun e w' => ∃ g, e = .returned (.agg #[.int .i64 k, .slice (some ⟨g, 0, none⟩) len len]) ∧ Ints.Own w' w.heap.size g len len xs ∧ Below w.heap.size w w' := by
  have F : ∀ W1, W1 = w.alloc (.cells #[.int .i64 k, .slice a len cap] 34) → ∀ W2, W2 = W1.alloc (.cells #[.int .i64 0, .slice none 0 0] 37) → ∀ W3, W3 = W2.alloc (.cells #[.int .i64 k, .slice none 0 0] 37) →
      Below w.heap.size w W3 ∧ Bc W3 w.heap.size (w.heap.size + 1) (.int .i64 0) (.slice none 0 0) ∧ Bc W3 w.heap.size (w.heap.size + 1 + 1) (.int .i64 k) (.slice none 0 0) ∧ W3.heap.size = w.heap.size + 3 := by
    intro W1 h1 W2 h2 W3 h3
    have s1 : W1.heap.size = w.heap.size + 1 := by rw [h1]; simp
    have s2 : W2.heap.size = w.heap.size + 1 + 1 := by rw [h2]; simp [s1]
    have s3 : W3.heap.size = w.heap.size + 3 := by rw [h3]; simp [s2]
    have b1 : Below w.heap.size w W1 := by rw [h1]; exact one_more _ _
    have b2 : Below W1.heap.size W1 W2 := by rw [h2]; exact one_more _ _
    have b3 : Below W2.heap.size W2 W3 := by rw [h3]; exact one_more _ _
    have R1 : Bc W2 w.heap.size (w.heap.size + 1) (.int .i64 0) (.slice none 0 0) := by rw [h2]; exact Bc.made _ _ (by omega) s1.symm
    have O1 : Bc W3 w.heap.size (w.heap.size + 1 + 1) (.int .i64 k) (.slice none 0 0) := by rw [h3]; exact Bc.made _ _ (by omega) s2.symm
    exact ⟨(b1.trans (b2.mono (by omega))).trans (b3.mono (by omega)), R1.below b3 (by omega), O1, s3⟩
  have G := hide (F _ rfl _ rfl _ rfl)
  have HR := hide hr
  clear F hr
  go_enter Try.func17, Try.ntmps17
  go_wp2_with fail
  refine (Ints.toIntS _ a len cap xs hl h20 ((unhide HR).below (unhide G).1)).mono ?_
  rintro e w1 ⟨rfl, o, bb⟩
  obtain ⟨BW, R0, O0, s3⟩ := unhide G
  rw [s3] at o
  have R1 := R0.below bb (by omega)
  have O1 := O0.below bb (by omega)
  have B1 := hide (BW.trans (bb.mono BW.size))
  have OX := hide o
  have z1 := bb.size
  have c0 := O1.c0
  have c1 := O1.c1
  have d0 := O1.free 0
  have d1 := O1.free 1
  have r0 := R1.c0
  have r1 := R1.c1
  have f0 := R1.free 0
  have f1 := R1.free 1
  clear bb o BW R0 O0 G HR R1 O1
  simp only [s3] at *
  go_wp2
  refine bodyPost_ret (v := .agg #[.int .i64 k, .slice (some ⟨w.heap.size + 3, 0, none⟩) len len]) (by simp [results, Try.results17, go_sem, r0, r1]) rfl ⟨w.heap.size + 3, rfl, ?_, ?_⟩
  · exact (row_store (row_store (row_store (unhide OX) (a := ⟨w.heap.size + 1 + 1, 1, none⟩) (by simp) _) (a := ⟨w.heap.size + 1, 0, none⟩) (by simp) _) (a := ⟨w.heap.size + 1, 1, none⟩) (by simp) _).mono (by omega)
  · exact (((unhide B1).setCell (p := ⟨w.heap.size + 1 + 1, 1, none⟩) (by simp; omega) _).setCell (p := ⟨w.heap.size + 1, 0, none⟩) (by simp) _).setCell (p := ⟨w.heap.size + 1, 1, none⟩) (by simp) _

set_option maxRecDepth 100000 in
/-- Equal commands are told equal. -/
theorem eqC (w : World) (k : Int) (g1 g2 n c1 c2 : Nat) (xs : List Int) (hl : xs.length = n) (h20 : n ≤ 1048576) (h1 : Ints.At w g1 xs) (h2 : Ints.At w g2 xs) (l1 : g1 < w.heap.size) (l2 : g2 < w.heap.size) :
    Calls Try.prog 20 #[.agg #[.int .i64 k, .slice (some ⟨g1, 0, none⟩) n c1], .agg #[.int .i64 k, .slice (some ⟨g2, 0, none⟩) n c2]] w fun e w' => e = .returned (.bool true) ∧ Below w.heap.size w w' := by
  have b1 := one_more w (.cells #[.int .i64 k, .slice (some ⟨g1, 0, none⟩) n c1] 37)
  have b2 := one_more (w.alloc (.cells #[.int .i64 k, .slice (some ⟨g1, 0, none⟩) n c1] 37)) (.cells #[.int .i64 k, .slice (some ⟨g2, 0, none⟩) n c2] 37)
  have B := hide (b1.trans (b2.mono b1.size))
  have H1 := hide (h1.below (unhide B) l1)
  have H2 := hide (h2.below (unhide B) l2)
  have hq : (k != k) = false := by simp
  clear h1 h2 b1 b2
  go_enter Try.func20, Try.ntmps20
  go_wp2_with fail
  refine (Ints.eqIntS _ g1 g2 n c1 c2 xs hl h20 (unhide H1) (unhide H2)).mono ?_
  rintro e w1 ⟨rfl, bb⟩
  have B2 := hide ((unhide B).trans (bb.mono (unhide B).size))
  clear bb
  go_wp2
  go_ret
  exact ⟨rfl, unhide B2⟩

/-- The argument, in its box. -/
structure LC (w W : World) (k : Int) (a : Option Addr) (len cap : Nat) (xs : List Int) : Prop where
  r : Ints.Reads W a xs
  c : W.cell? ⟨w.heap.size, 0, none⟩ = some (.int .i64 k) ∧ W.cell? ⟨w.heap.size, 1, none⟩ = some (.slice a len cap)
  b : Below w.heap.size w W
  s : w.heap.size < W.heap.size
theorem LC.step {w W W' : World} {k : Int} {a : Option Addr} {len cap : Nat} {xs : List Int} (h : LC w W k a len cap xs) (q : Below W.heap.size W W') : LC w W' k a len cap xs :=
  ⟨h.r.below q, ⟨(q.cell (p := ⟨w.heap.size, 0, none⟩) h.s).trans h.c.1, (q.cell (p := ⟨w.heap.size, 1, none⟩) h.s).trans h.c.2⟩, h.b.trans (q.mono (Nat.le_of_lt h.s)), Nat.lt_of_lt_of_le h.s q.size⟩
theorem LC.start {w : World} {k : Int} {a : Option Addr} {len cap : Nat} {xs : List Int} (h : Ints.Reads w a xs) (e : TypeId) : LC w (w.alloc (.cells #[.int .i64 k, .slice a len cap] e)) k a len cap xs :=
  ⟨h.below (one_more _ _), ⟨by simp, by simp⟩, one_more _ _, by simp⟩

/-- A command of the call's own, in a variable. -/
structure Vc (W : World) (v : Nat) (k : Int) (g n : Nat) (xs : List Int) : Prop where
  r : Ints.At W g xs
  l : g < W.heap.size
  c : W.cell? ⟨v, 0, none⟩ = some (.int .i64 k) ∧ W.cell? ⟨v, 1, none⟩ = some (.slice (some ⟨g, 0, none⟩) n n)
  s : v < W.heap.size
theorem Vc.step {W W' : World} {v : Nat} {k : Int} {g n : Nat} {xs : List Int} (h : Vc W v k g n xs) (q : Below W.heap.size W W') : Vc W' v k g n xs :=
  ⟨h.r.below q h.l, Nat.lt_of_lt_of_le h.l q.size, ⟨(q.cell (p := ⟨v, 0, none⟩) h.s).trans h.c.1, (q.cell (p := ⟨v, 1, none⟩) h.s).trans h.c.2⟩, Nat.lt_of_lt_of_le h.s q.size⟩
theorem Vc.made {w : World} {base : Nat} {k : Int} {g n : Nat} {xs : List Int} (h : Ints.Own w base g n n xs) (e : TypeId) : Vc (w.alloc (.cells #[.int .i64 k, .slice (some ⟨g, 0, none⟩) n n] e)) w.heap.size k g n xs :=
  ⟨h.at.below (one_more _ _) h.lt.2, Nat.lt_of_lt_of_le h.lt.2 (one_more _ _).size, ⟨by simp, by simp⟩, by simp⟩

end Go.Proofs.Ytnkbkaeafkdpiaa.CmdH
