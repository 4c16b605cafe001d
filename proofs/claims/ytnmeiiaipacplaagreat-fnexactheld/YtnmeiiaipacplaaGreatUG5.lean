/- Texts of one proof, one behind the other: ICopied, IIndex8, ITradesFit, Concat3, Weigh, Quota, Order, Parts, SOrder, SShares, ICmp, PostMore, Swap. -/
import Derived.Test.YtnmeiiaipacplaaGreatRows
import Derived.Test.YtnmeiiaipacplaaGreatUG1
import Derived.Test.YtnmeiiaipacplaaGreatUG2
import Derived.Test.YtnmeiiaipacplaaGreatUG3
import Derived.Test.YtnmeiiaipacplaaGreatUG4
import Derived.Deep.AppendLies
import Derived.Lib.AppendZerosOnto
import Derived.Lib.AppendZeros
import Derived.Deep.QuietTactic
import Derived.Sort.Statements
import Derived.WalkSmall
import Derived.BigRegion
import Derived.Deep.RegionHeld3
import Derived.Sort.Grow
set_option linter.unusedVariables false
set_option linter.unusedSimpArgs false
namespace Go.Proofs.YtnmeiiaipacplaaGreat.ICopied
open Go.ChangeShapes Go.WideShapes Go.ChangeAt Go.RowKit BMem Bks ILists AnyInv Copy
open BHelp (row_block row_apart)
open IBalsFit (one_more)
def Ch (W : World) (base : Nat) (e : TypeId) (size : Nat) (fb ff fl fa : Bool) (vb vf vl va pf src : Value) (n : Nat) (xs : List Value) : Prop :=
  (ff = true → vf = pf) ∧ (fl = true → vl = src) ∧ (fb = true → fa = false → ∃ g, vb = .slice (some ⟨g, 0, none⟩) 0 0 ∧ W.ownsRow base e size (.slice (some ⟨g, 0, none⟩) 0 0) 0 []) ∧ (fa = true → ∃ g c, va = .slice (some ⟨g, 0, none⟩) n c ∧ W.ownsRow base e size (.slice (some ⟨g, 0, none⟩) n c) n xs)
section
variable {W W' : World} {base : Nat} {e : TypeId} {size : Nat} {fb ff fl fa : Bool} {vb vf vl va pf src : Value} {n : Nat} {xs : List Value}
theorem Ch.zero (W : World) (base : Nat) (e : TypeId) (size : Nat) (vb vf vl va pf src : Value) (n : Nat) (xs : List Value) : Ch W base e size false false false false vb vf vl va pf src n xs :=
  ⟨(fun h => by cases h), (fun h => by cases h), (fun h => by cases h), (fun h => by cases h)⟩
theorem Ch.addr (h : Ch W base e size fb ff fl fa vb vf vl va pf src n xs) : Ch W base e size fb true fl fa vb pf vl va pf src n xs := ⟨fun _ => rfl, h.2⟩
theorem Ch.load (h : Ch W base e size fb ff fl fa vb vf vl va pf src n xs) : Ch W base e size fb ff true fa vb vf src va pf src n xs := ⟨h.1, fun _ => rfl, h.2.2⟩
theorem Ch.alloc (h : Ch W base e size fb ff fl fa vb vf vl va pf src n xs) (o : Obj) : Ch (W.alloc o) base e size fb ff fl fa vb vf vl va pf src n xs := by
  refine ⟨h.1, h.2.1, fun a b => ?_, fun a => ?_⟩
  · obtain ⟨g, e1, o1⟩ := h.2.2.1 a b
    exact ⟨g, e1, o1.alloc o⟩
  · obtain ⟨g, c, e1, o1⟩ := h.2.2.2 a
    exact ⟨g, c, e1, o1.alloc o⟩
theorem Ch.start (h : Ch W base e size fb ff fl fa vb vf vl va pf src n xs) (hb : base ≤ W.heap.size) : Ch (W.alloc (.cells #[] e)) base e size true ff fl fa (.slice (some ⟨W.heap.size, 0, none⟩) 0 0) vf vl va pf src n xs := by
  refine ⟨h.1, h.2.1, fun _ _ => ⟨W.heap.size, rfl, World.ownsRow_made W #[] 0 hb (by unfold maxLen; omega) (by simp)⟩, fun a => ?_⟩
  obtain ⟨g, c, e1, o1⟩ := h.2.2.2 a
  exact ⟨g, c, e1, o1.alloc _⟩
theorem Ch.kept {g0 : Nat} (h : Ch W base e size fb ff fl fa vb vf vl va pf src n xs) (k : W.grownBy W' (some g0)) (hne : ∀ (m c : Nat) (ys : List Value), ¬ W.ownsRow base e size (.slice (some ⟨g0, 0, none⟩) m c) m ys) : Ch W' base e size fb ff fl fa vb vf vl va pf src n xs := by
  refine ⟨h.1, h.2.1, fun a b => ?_, fun a => ?_⟩
  · obtain ⟨g, e1, o1⟩ := h.2.2.1 a b
    exact ⟨g, e1, o1.kept k (Or.inr (fun e => by
      have : g = g0 := by simpa [Value.ownBlock] using e
      subst this
      exact hne _ _ _ o1))⟩
  · obtain ⟨g, c, e1, o1⟩ := h.2.2.2 a
    exact ⟨g, c, e1, o1.kept k (Or.inr (fun e => by
      have : g = g0 := by simpa [Value.ownBlock] using e
      subst this
      exact hne _ _ _ o1))⟩
theorem Ch.app {g c : Nat} (h : Ch W base e size fb ff fl fa vb vf vl va pf src n xs) (o1 : W'.ownsRow base e size (.slice (some ⟨g, 0, none⟩) n c) n xs) : Ch W' base e size fb ff fl true vb vf vl (.slice (some ⟨g, 0, none⟩) n c) pf src n xs :=
  ⟨h.1, h.2.1, (fun _ b => by cases b), fun _ => ⟨g, c, rfl, o1⟩⟩
end
theorem other {W : World} {base base' : Nat} {e e' : TypeId} {size size' : Nat} {g n cap : Nat} {xs : List Value} (h : W.ownsRow base e size (.slice (some ⟨g, 0, none⟩) n cap) n xs) (ne : e ≠ e') : ∀ (m c : Nat) (ys : List Value), ¬ W.ownsRow base' e' size' (.slice (some ⟨g, 0, none⟩) m c) m ys :=
  fun m c ys k => row_apart h k ne rfl
def Inv (w : World) (x : Bx) (listed : Array Bool) (a : Act) (W : World) : Prop :=
  ∃ (b0 b1 b2 b3 b4 b5 b6 b7 b8 b9 b10 b11 b12 b13 b14 b15 b16 b17 b18 b19 b20 b21 b22 b23 : Bool) (v3 v4 v5 v6 v7 v8 v9 v10 v11 v12 v13 v14 v15 v16 v17 v18 v19 v20 v21 v22 v23 v24 v25 r0 r1 r2 r3 r4 r5 : Value), listed = #[b0, b1, b2, b3, b4, b5, b6, b7, b8, b9, b10, b11, b12, b13, b14, b15, b16, b17, b18, b19, b20, b21, b22, b23] ∧ a = { tmps := #[.agg #[.slice (some ⟨x.ga, 0, none⟩) x.b.ac.length x.ca, .slice (some ⟨x.gi, 0, none⟩) x.b.ic.length x.ci, .slice (some ⟨x.gb, 0, none⟩) x.b.bs.length x.cb, .slice (some ⟨x.gl, 0, none⟩) x.b.ls.length x.cl, .slice (some ⟨x.gt, 0, none⟩) x.b.ts.length x.ct, .int .i64 x.b.lot], .pointer (some ⟨w.heap.size, 0, none⟩), .pointer (some ⟨w.heap.size + 1, 0, none⟩), v3, v4, v5, v6, v7, v8, v9, v10, v11, v12, v13, v14, v15, v16, v17, v18, v19, v20, v21, v22, v23, v24, v25], defers := [] } ∧
    Below w.heap.size w W ∧ Cl W w.heap.size x ∧ Box W w.heap.size (w.heap.size + 1) r0 r1 r2 r3 r4 r5 ∧
    Ch W (w.heap.size + 2) 92 2 b0 b1 b2 b3 v3 v4 v5 v6 (.pointer (some ⟨w.heap.size, 0, none⟩)) (.slice (some ⟨x.ga, 0, none⟩) x.b.ac.length x.ca) x.b.ac.length (Pairs.flat x.b.ac) ∧ Ch W (w.heap.size + 2) 111 2 b4 b5 b6 b7 v7 v8 v9 v10 (.pointer (some ⟨w.heap.size, 1, none⟩)) (.slice (some ⟨x.gi, 0, none⟩) x.b.ic.length x.ci) x.b.ic.length (Pairs.flat x.b.ic) ∧ Ch W (w.heap.size + 2) 119 3 b8 b9 b10 b11 v11 v12 v13 v14 (.pointer (some ⟨w.heap.size, 2, none⟩)) (.slice (some ⟨x.gb, 0, none⟩) x.b.bs.length x.cb) x.b.bs.length (Triples.flat3 x.b.bs) ∧ Ch W (w.heap.size + 2) 123 5 b12 b13 b14 b15 v15 v16 v17 v18 (.pointer (some ⟨w.heap.size, 3, none⟩)) (.slice (some ⟨x.gl, 0, none⟩) x.b.ls.length x.cl) x.b.ls.length (Tup5.flat5 x.b.ls) ∧ Ch W (w.heap.size + 2) 110 8 b16 b17 b18 b19 v19 v20 v21 v22 (.pointer (some ⟨w.heap.size, 4, none⟩)) (.slice (some ⟨x.gt, 0, none⟩) x.b.ts.length x.ct) x.b.ts.length (Tup8.flat8 x.b.ts) ∧
    (b20 = true → v23 = .pointer (some ⟨w.heap.size, 5, none⟩)) ∧ (b21 = true → v24 = .int .i64 x.b.lot) ∧ (b22 = true → (b3 = true ∧ b7 = true ∧ b11 = true ∧ b15 = true ∧ b19 = true) ∧ v25 = .agg #[v6, v10, v14, v18, v22, .int .i64 x.b.lot]) ∧ (b23 = true → b22 = true ∧ r0 = v6 ∧ r1 = v10 ∧ r2 = v14 ∧ r3 = v18 ∧ r4 = v22 ∧ r5 = .int .i64 x.b.lot)
theorem room {w W : World} {r0 r1 r2 r3 r4 r5 : Value} (h : Box W w.heap.size (w.heap.size + 1) r0 r1 r2 r3 r4 r5) : w.heap.size + 2 ≤ W.heap.size := h.lt.2
set_option maxRecDepth 100000 in
set_option maxHeartbeats 8000000 in
theorem iCopied (w : World) (x : Bx) (h : Rd w x) :
    Calls Tryz.prog 99 #[.agg #[.slice (some ⟨x.ga, 0, none⟩) x.b.ac.length x.ca, .slice (some ⟨x.gi, 0, none⟩) x.b.ic.length x.ci, .slice (some ⟨x.gb, 0, none⟩) x.b.bs.length x.cb, .slice (some ⟨x.gl, 0, none⟩) x.b.ls.length x.cl, .slice (some ⟨x.gt, 0, none⟩) x.b.ts.length x.ct, .int .i64 x.b.lot]] w fun e w' => ∃ z : Bx, z.b = x.b ∧ e = .returned (.agg #[.slice (some ⟨z.ga, 0, none⟩) z.b.ac.length z.ca, .slice (some ⟨z.gi, 0, none⟩) z.b.ic.length z.ci, .slice (some ⟨z.gb, 0, none⟩) z.b.bs.length z.cb, .slice (some ⟨z.gl, 0, none⟩) z.b.ls.length z.cl, .slice (some ⟨z.gt, 0, none⟩) z.b.ts.length z.ct, .int .i64 z.b.lot]) ∧ Ow w' w.heap.size z ∧ Below w.heap.size w w' := by
  have H := hide h
  clear h
  go_enter Tryz.func99, Tryz.ntmps99
  go_wp2_with fail
  refine wp_region_inv2 [[], [], [1], [0, 2], [], [], [5], [4, 6], [], [], [9], [8, 10], [], [], [13], [12, 14], [], [], [17], [16, 18], [], [20], [3, 7, 11, 15, 19, 21], [22]] (Inv w x) (by kernel_rfl) (by kernel_rfl) (by kernel_rfl) ?_ ?_ ?_ ?_
  · intro listed a W hI
    obtain ⟨_, _, _, _, _, _, _, _, _, _, _, _, _, _, _, _, _, _, _, _, _, _, _, _, _, _, _, _, _, _, _, _, _, _, _, _, _, _, _, _, _, _, _, _, _, _, _, _, _, _, _, _, _, rfl, _⟩ := hI
    rfl
  · have b1 : Below w.heap.size w ((w.alloc (.cells #[.slice (some ⟨x.ga, 0, none⟩) x.b.ac.length x.ca, .slice (some ⟨x.gi, 0, none⟩) x.b.ic.length x.ci, .slice (some ⟨x.gb, 0, none⟩) x.b.bs.length x.cb, .slice (some ⟨x.gl, 0, none⟩) x.b.ls.length x.cl, .slice (some ⟨x.gt, 0, none⟩) x.b.ts.length x.ct, .int .i64 x.b.lot] 36)).alloc (.cells #[.slice none 0 0, .slice none 0 0, .slice none 0 0, .slice none 0 0, .slice none 0 0, .int .i64 0] 36)) := ((Below.refl w.heap.size w).alloc (Nat.le_refl _) _).alloc (by simp) _
    have c1 : Cl ((w.alloc (.cells #[.slice (some ⟨x.ga, 0, none⟩) x.b.ac.length x.ca, .slice (some ⟨x.gi, 0, none⟩) x.b.ic.length x.ci, .slice (some ⟨x.gb, 0, none⟩) x.b.bs.length x.cb, .slice (some ⟨x.gl, 0, none⟩) x.b.ls.length x.cl, .slice (some ⟨x.gt, 0, none⟩) x.b.ts.length x.ct, .int .i64 x.b.lot] 36)).alloc (.cells #[.slice none 0 0, .slice none 0 0, .slice none 0 0, .slice none 0 0, .slice none 0 0, .int .i64 0] 36)) w.heap.size x := (boxed w x 36).below (one_more _ _) (by simp)
    have x1 : Box ((w.alloc (.cells #[.slice (some ⟨x.ga, 0, none⟩) x.b.ac.length x.ca, .slice (some ⟨x.gi, 0, none⟩) x.b.ic.length x.ci, .slice (some ⟨x.gb, 0, none⟩) x.b.bs.length x.cb, .slice (some ⟨x.gl, 0, none⟩) x.b.ls.length x.cl, .slice (some ⟨x.gt, 0, none⟩) x.b.ts.length x.ct, .int .i64 x.b.lot] 36)).alloc (.cells #[.slice none 0 0, .slice none 0 0, .slice none 0 0, .slice none 0 0, .slice none 0 0, .int .i64 0] 36)) w.heap.size (w.heap.size + 1) (.slice none 0 0) (.slice none 0 0) (.slice none 0 0) (.slice none 0 0) (.slice none 0 0) (.int .i64 0) := Box.made _ _ _ _ _ _ (by simp) (by simp)
    refine ⟨false, false, false, false, false, false, false, false, false, false, false, false, false, false, false, false, false, false, false, false, false, false, false, false, undef, undef, undef, undef, undef, undef, undef, undef, undef, undef, undef, undef, undef, undef, undef, undef, undef, undef, undef, undef, undef, undef, undef, .slice none 0 0, .slice none 0 0, .slice none 0 0, .slice none 0 0, .slice none 0 0, .int .i64 0, rfl, rfl, b1.drew, ⟨c1.c0, c1.c1, c1.c2, c1.c3, c1.c4, c1.c5⟩, x1, Ch.zero _ _ _ _ _ _ _ _ _ _ _ _, Ch.zero _ _ _ _ _ _ _ _ _ _ _ _, Ch.zero _ _ _ _ _ _ _ _ _ _ _ _, Ch.zero _ _ _ _ _ _ _ _ _ _ _ _, Ch.zero _ _ _ _ _ _ _ _ _ _ _ _, (fun h => by cases h), (fun h => by cases h), (fun h => by cases h), (fun h => by cases h)⟩
  · intro listed a W i hI hi hl hd
    replace hi : i < 24 := hi
    obtain ⟨b0, b1, b2, b3, b4, b5, b6, b7, b8, b9, b10, b11, b12, b13, b14, b15, b16, b17, b18, b19, b20, b21, b22, b23, v3, v4, v5, v6, v7, v8, v9, v10, v11, v12, v13, v14, v15, v16, v17, v18, v19, v20, v21, v22, v23, v24, v25, r0, r1, r2, r3, r4, r5, rfl, rfl, hB, hC, hR, h0, h1, h2, h3, h4, e20, e21, e22, e23⟩ := hI
    have hrm := room hR
    have zb : w.heap.size < W.heap.size := by omega
    rcases (show i = 0 ∨ i = 1 ∨ i = 2 ∨ i = 3 ∨ i = 4 ∨ i = 5 ∨ i = 6 ∨ i = 7 ∨ i = 8 ∨ i = 9 ∨ i = 10 ∨ i = 11 ∨ i = 12 ∨ i = 13 ∨ i = 14 ∨ i = 15 ∨ i = 16 ∨ i = 17 ∨ i = 18 ∨ i = 19 ∨ i = 20 ∨ i = 21 ∨ i = 22 ∨ i = 23 by omega) with rfl | rfl | rfl | rfl | rfl | rfl | rfl | rfl | rfl | rfl | rfl | rfl | rfl | rfl | rfl | rfl | rfl | rfl | rfl | rfl | rfl | rfl | rfl | rfl
    · refine wpOp_of rfl rfl ?_
      go_simp
      exact ⟨true, b1, b2, b3, b4, b5, b6, b7, b8, b9, b10, b11, b12, b13, b14, b15, b16, b17, b18, b19, b20, b21, b22, b23, _, v4, v5, v6, v7, v8, v9, v10, v11, v12, v13, v14, v15, v16, v17, v18, v19, v20, v21, v22, v23, v24, v25, r0, r1, r2, r3, r4, r5, rfl, rfl, hB.alloc (by omega) _, hC.below (one_more _ _) zb, hR.below (one_more _ _) hR.lt.2, h0.start hrm, h1.alloc _, h2.alloc _, h3.alloc _, h4.alloc _, e20, e21, e22, e23⟩
    · refine wpOp_of rfl rfl ?_
      go_simp
      exact ⟨b0, true, b2, b3, b4, b5, b6, b7, b8, b9, b10, b11, b12, b13, b14, b15, b16, b17, b18, b19, b20, b21, b22, b23, v3, _, v5, v6, v7, v8, v9, v10, v11, v12, v13, v14, v15, v16, v17, v18, v19, v20, v21, v22, v23, v24, v25, r0, r1, r2, r3, r4, r5, rfl, rfl, hB, hC, hR, h0.addr, h1, h2, h3, h4, e20, e21, e22, e23⟩
    · have q1 : b1 = true := hd 1 (by simp)
      have q2 := h0.1 q1
      subst q1 q2
      have c := hC.c0
      refine wpOp_of rfl rfl ?_
      go_simp
      exact ⟨b0, true, true, b3, b4, b5, b6, b7, b8, b9, b10, b11, b12, b13, b14, b15, b16, b17, b18, b19, b20, b21, b22, b23, v3, _, _, v6, v7, v8, v9, v10, v11, v12, v13, v14, v15, v16, v17, v18, v19, v20, v21, v22, v23, v24, v25, r0, r1, r2, r3, r4, r5, rfl, rfl, hB, hC, hR, h0.load, h1, h2, h3, h4, e20, e21, e22, e23⟩
    · have q1 : b0 = true := hd 0 (by simp)
      have q2 : b2 = true := hd 2 (by simp)
      have q3 : b3 = false := hl
      obtain ⟨g, ev, orow⟩ := h0.2.2.1 q1 q3
      have es := h0.2.1 q2
      subst ev es
      obtain ⟨g', c', W', hrun, ow, gr, _⟩ := copyAccount W (w.heap.size + 2) g 0 orow 30 x.ga x.ca x.b.ac ((unhide H).below hB).ra (unhide H).na hrm
      have gl := World.ownsRow.lt orow g rfl
      have n0 : some w.heap.size ≠ some g := fun e => by injection e; omega
      have n1 : some (w.heap.size + 1) ≠ some g := fun e => by injection e; omega
      have f22 : b22 = true → False := fun e => by have := (e22 e).1; rw [q3] at this; simp at this
      have hBk := hB.grown gr (by omega) (fun k e => by injection e; omega)
      have hCk : Cl W' w.heap.size x := ⟨gr.cell hC.c0 n0, gr.cell hC.c1 n0, gr.cell hC.c2 n0, gr.cell hC.c3 n0, gr.cell hC.c4 n0, gr.cell hC.c5 n0⟩
      refine wpOp_of rfl rfl ?_
      refine wpo_append (.tmp 3) (.tmp 5) 30 rfl rfl rfl hrun ?_
      exact ⟨b0, b1, b2, true, b4, b5, b6, b7, b8, b9, b10, b11, b12, b13, b14, b15, b16, b17, b18, b19, b20, b21, b22, b23, _, v4, _, _, v7, v8, v9, v10, v11, v12, v13, v14, v15, v16, v17, v18, v19, v20, v21, v22, v23, v24, v25, r0, r1, r2, r3, r4, r5, rfl, rfl, hBk, hCk, hR.kept gr n1, h0.app ow, h1.kept gr (other orow (by decide)), h2.kept gr (other orow (by decide)), h3.kept gr (other orow (by decide)), h4.kept gr (other orow (by decide)), e20, e21, fun e => (f22 e).elim, fun e => (f22 (e23 e).1).elim⟩
    · refine wpOp_of rfl rfl ?_
      go_simp
      exact ⟨b0, b1, b2, b3, true, b5, b6, b7, b8, b9, b10, b11, b12, b13, b14, b15, b16, b17, b18, b19, b20, b21, b22, b23, v3, v4, v5, v6, _, v8, v9, v10, v11, v12, v13, v14, v15, v16, v17, v18, v19, v20, v21, v22, v23, v24, v25, r0, r1, r2, r3, r4, r5, rfl, rfl, hB.alloc (by omega) _, hC.below (one_more _ _) zb, hR.below (one_more _ _) hR.lt.2, h0.alloc _, h1.start hrm, h2.alloc _, h3.alloc _, h4.alloc _, e20, e21, e22, e23⟩
    · refine wpOp_of rfl rfl ?_
      go_simp
      exact ⟨b0, b1, b2, b3, b4, true, b6, b7, b8, b9, b10, b11, b12, b13, b14, b15, b16, b17, b18, b19, b20, b21, b22, b23, v3, v4, v5, v6, v7, _, v9, v10, v11, v12, v13, v14, v15, v16, v17, v18, v19, v20, v21, v22, v23, v24, v25, r0, r1, r2, r3, r4, r5, rfl, rfl, hB, hC, hR, h0, h1.addr, h2, h3, h4, e20, e21, e22, e23⟩
    · have q1 : b5 = true := hd 5 (by simp)
      have q2 := h1.1 q1
      subst q1 q2
      have c := hC.c1
      refine wpOp_of rfl rfl ?_
      go_simp
      exact ⟨b0, b1, b2, b3, b4, true, true, b7, b8, b9, b10, b11, b12, b13, b14, b15, b16, b17, b18, b19, b20, b21, b22, b23, v3, v4, v5, v6, v7, _, _, v10, v11, v12, v13, v14, v15, v16, v17, v18, v19, v20, v21, v22, v23, v24, v25, r0, r1, r2, r3, r4, r5, rfl, rfl, hB, hC, hR, h0, h1.load, h2, h3, h4, e20, e21, e22, e23⟩
    · have q1 : b4 = true := hd 4 (by simp)
      have q2 : b6 = true := hd 6 (by simp)
      have q3 : b7 = false := hl
      obtain ⟨g, ev, orow⟩ := h1.2.2.1 q1 q3
      have es := h1.2.1 q2
      subst ev es
      obtain ⟨g', c', W', hrun, ow, gr, _⟩ := copyInstr W (w.heap.size + 2) g 0 orow 31 x.gi x.ci x.b.ic ((unhide H).below hB).ri (unhide H).ni hrm
      have gl := World.ownsRow.lt orow g rfl
      have n0 : some w.heap.size ≠ some g := fun e => by injection e; omega
      have n1 : some (w.heap.size + 1) ≠ some g := fun e => by injection e; omega
      have f22 : b22 = true → False := fun e => by have := (e22 e).1; rw [q3] at this; simp at this
      have hBk := hB.grown gr (by omega) (fun k e => by injection e; omega)
      have hCk : Cl W' w.heap.size x := ⟨gr.cell hC.c0 n0, gr.cell hC.c1 n0, gr.cell hC.c2 n0, gr.cell hC.c3 n0, gr.cell hC.c4 n0, gr.cell hC.c5 n0⟩
      refine wpOp_of rfl rfl ?_
      refine wpo_append (.tmp 7) (.tmp 9) 31 rfl rfl rfl hrun ?_
      exact ⟨b0, b1, b2, b3, b4, b5, b6, true, b8, b9, b10, b11, b12, b13, b14, b15, b16, b17, b18, b19, b20, b21, b22, b23, v3, v4, v5, v6, _, v8, _, _, v11, v12, v13, v14, v15, v16, v17, v18, v19, v20, v21, v22, v23, v24, v25, r0, r1, r2, r3, r4, r5, rfl, rfl, hBk, hCk, hR.kept gr n1, h0.kept gr (other orow (by decide)), h1.app ow, h2.kept gr (other orow (by decide)), h3.kept gr (other orow (by decide)), h4.kept gr (other orow (by decide)), e20, e21, fun e => (f22 e).elim, fun e => (f22 (e23 e).1).elim⟩
    · refine wpOp_of rfl rfl ?_
      go_simp
      exact ⟨b0, b1, b2, b3, b4, b5, b6, b7, true, b9, b10, b11, b12, b13, b14, b15, b16, b17, b18, b19, b20, b21, b22, b23, v3, v4, v5, v6, v7, v8, v9, v10, _, v12, v13, v14, v15, v16, v17, v18, v19, v20, v21, v22, v23, v24, v25, r0, r1, r2, r3, r4, r5, rfl, rfl, hB.alloc (by omega) _, hC.below (one_more _ _) zb, hR.below (one_more _ _) hR.lt.2, h0.alloc _, h1.alloc _, h2.start hrm, h3.alloc _, h4.alloc _, e20, e21, e22, e23⟩
    · refine wpOp_of rfl rfl ?_
      go_simp
      exact ⟨b0, b1, b2, b3, b4, b5, b6, b7, b8, true, b10, b11, b12, b13, b14, b15, b16, b17, b18, b19, b20, b21, b22, b23, v3, v4, v5, v6, v7, v8, v9, v10, v11, _, v13, v14, v15, v16, v17, v18, v19, v20, v21, v22, v23, v24, v25, r0, r1, r2, r3, r4, r5, rfl, rfl, hB, hC, hR, h0, h1, h2.addr, h3, h4, e20, e21, e22, e23⟩
    · have q1 : b9 = true := hd 9 (by simp)
      have q2 := h2.1 q1
      subst q1 q2
      have c := hC.c2
      refine wpOp_of rfl rfl ?_
      go_simp
      exact ⟨b0, b1, b2, b3, b4, b5, b6, b7, b8, true, true, b11, b12, b13, b14, b15, b16, b17, b18, b19, b20, b21, b22, b23, v3, v4, v5, v6, v7, v8, v9, v10, v11, _, _, v14, v15, v16, v17, v18, v19, v20, v21, v22, v23, v24, v25, r0, r1, r2, r3, r4, r5, rfl, rfl, hB, hC, hR, h0, h1, h2.load, h3, h4, e20, e21, e22, e23⟩
    · have q1 : b8 = true := hd 8 (by simp)
      have q2 : b10 = true := hd 10 (by simp)
      have q3 : b11 = false := hl
      obtain ⟨g, ev, orow⟩ := h2.2.2.1 q1 q3
      have es := h2.2.1 q2
      subst ev es
      obtain ⟨g', c', W', hrun, ow, gr, _⟩ := copyBal W (w.heap.size + 2) g 0 orow 32 x.gb x.cb x.b.bs ((unhide H).below hB).rb (unhide H).nb hrm
      have gl := World.ownsRow.lt orow g rfl
      have n0 : some w.heap.size ≠ some g := fun e => by injection e; omega
      have n1 : some (w.heap.size + 1) ≠ some g := fun e => by injection e; omega
      have f22 : b22 = true → False := fun e => by have := (e22 e).1; rw [q3] at this; simp at this
      have hBk := hB.grown gr (by omega) (fun k e => by injection e; omega)
      have hCk : Cl W' w.heap.size x := ⟨gr.cell hC.c0 n0, gr.cell hC.c1 n0, gr.cell hC.c2 n0, gr.cell hC.c3 n0, gr.cell hC.c4 n0, gr.cell hC.c5 n0⟩
      refine wpOp_of rfl rfl ?_
      refine wpo_append (.tmp 11) (.tmp 13) 32 rfl rfl rfl hrun ?_
      exact ⟨b0, b1, b2, b3, b4, b5, b6, b7, b8, b9, b10, true, b12, b13, b14, b15, b16, b17, b18, b19, b20, b21, b22, b23, v3, v4, v5, v6, v7, v8, v9, v10, _, v12, _, _, v15, v16, v17, v18, v19, v20, v21, v22, v23, v24, v25, r0, r1, r2, r3, r4, r5, rfl, rfl, hBk, hCk, hR.kept gr n1, h0.kept gr (other orow (by decide)), h1.kept gr (other orow (by decide)), h2.app ow, h3.kept gr (other orow (by decide)), h4.kept gr (other orow (by decide)), e20, e21, fun e => (f22 e).elim, fun e => (f22 (e23 e).1).elim⟩
    · refine wpOp_of rfl rfl ?_
      go_simp
      exact ⟨b0, b1, b2, b3, b4, b5, b6, b7, b8, b9, b10, b11, true, b13, b14, b15, b16, b17, b18, b19, b20, b21, b22, b23, v3, v4, v5, v6, v7, v8, v9, v10, v11, v12, v13, v14, _, v16, v17, v18, v19, v20, v21, v22, v23, v24, v25, r0, r1, r2, r3, r4, r5, rfl, rfl, hB.alloc (by omega) _, hC.below (one_more _ _) zb, hR.below (one_more _ _) hR.lt.2, h0.alloc _, h1.alloc _, h2.alloc _, h3.start hrm, h4.alloc _, e20, e21, e22, e23⟩
    · refine wpOp_of rfl rfl ?_
      go_simp
      exact ⟨b0, b1, b2, b3, b4, b5, b6, b7, b8, b9, b10, b11, b12, true, b14, b15, b16, b17, b18, b19, b20, b21, b22, b23, v3, v4, v5, v6, v7, v8, v9, v10, v11, v12, v13, v14, v15, _, v17, v18, v19, v20, v21, v22, v23, v24, v25, r0, r1, r2, r3, r4, r5, rfl, rfl, hB, hC, hR, h0, h1, h2, h3.addr, h4, e20, e21, e22, e23⟩
    · have q1 : b13 = true := hd 13 (by simp)
      have q2 := h3.1 q1
      subst q1 q2
      have c := hC.c3
      refine wpOp_of rfl rfl ?_
      go_simp
      exact ⟨b0, b1, b2, b3, b4, b5, b6, b7, b8, b9, b10, b11, b12, true, true, b15, b16, b17, b18, b19, b20, b21, b22, b23, v3, v4, v5, v6, v7, v8, v9, v10, v11, v12, v13, v14, v15, _, _, v18, v19, v20, v21, v22, v23, v24, v25, r0, r1, r2, r3, r4, r5, rfl, rfl, hB, hC, hR, h0, h1, h2, h3.load, h4, e20, e21, e22, e23⟩
    · have q1 : b12 = true := hd 12 (by simp)
      have q2 : b14 = true := hd 14 (by simp)
      have q3 : b15 = false := hl
      obtain ⟨g, ev, orow⟩ := h3.2.2.1 q1 q3
      have es := h3.2.1 q2
      subst ev es
      obtain ⟨g', c', W', hrun, ow, gr, _⟩ := copyLot W (w.heap.size + 2) g 0 orow 33 x.gl x.cl x.b.ls ((unhide H).below hB).rl (unhide H).nl hrm
      have gl := World.ownsRow.lt orow g rfl
      have n0 : some w.heap.size ≠ some g := fun e => by injection e; omega
      have n1 : some (w.heap.size + 1) ≠ some g := fun e => by injection e; omega
      have f22 : b22 = true → False := fun e => by have := (e22 e).1; rw [q3] at this; simp at this
      have hBk := hB.grown gr (by omega) (fun k e => by injection e; omega)
      have hCk : Cl W' w.heap.size x := ⟨gr.cell hC.c0 n0, gr.cell hC.c1 n0, gr.cell hC.c2 n0, gr.cell hC.c3 n0, gr.cell hC.c4 n0, gr.cell hC.c5 n0⟩
      refine wpOp_of rfl rfl ?_
      refine wpo_append (.tmp 15) (.tmp 17) 33 rfl rfl rfl hrun ?_
      exact ⟨b0, b1, b2, b3, b4, b5, b6, b7, b8, b9, b10, b11, b12, b13, b14, true, b16, b17, b18, b19, b20, b21, b22, b23, v3, v4, v5, v6, v7, v8, v9, v10, v11, v12, v13, v14, _, v16, _, _, v19, v20, v21, v22, v23, v24, v25, r0, r1, r2, r3, r4, r5, rfl, rfl, hBk, hCk, hR.kept gr n1, h0.kept gr (other orow (by decide)), h1.kept gr (other orow (by decide)), h2.kept gr (other orow (by decide)), h3.app ow, h4.kept gr (other orow (by decide)), e20, e21, fun e => (f22 e).elim, fun e => (f22 (e23 e).1).elim⟩
    · refine wpOp_of rfl rfl ?_
      go_simp
      exact ⟨b0, b1, b2, b3, b4, b5, b6, b7, b8, b9, b10, b11, b12, b13, b14, b15, true, b17, b18, b19, b20, b21, b22, b23, v3, v4, v5, v6, v7, v8, v9, v10, v11, v12, v13, v14, v15, v16, v17, v18, _, v20, v21, v22, v23, v24, v25, r0, r1, r2, r3, r4, r5, rfl, rfl, hB.alloc (by omega) _, hC.below (one_more _ _) zb, hR.below (one_more _ _) hR.lt.2, h0.alloc _, h1.alloc _, h2.alloc _, h3.alloc _, h4.start hrm, e20, e21, e22, e23⟩
    · refine wpOp_of rfl rfl ?_
      go_simp
      exact ⟨b0, b1, b2, b3, b4, b5, b6, b7, b8, b9, b10, b11, b12, b13, b14, b15, b16, true, b18, b19, b20, b21, b22, b23, v3, v4, v5, v6, v7, v8, v9, v10, v11, v12, v13, v14, v15, v16, v17, v18, v19, _, v21, v22, v23, v24, v25, r0, r1, r2, r3, r4, r5, rfl, rfl, hB, hC, hR, h0, h1, h2, h3, h4.addr, e20, e21, e22, e23⟩
    · have q1 : b17 = true := hd 17 (by simp)
      have q2 := h4.1 q1
      subst q1 q2
      have c := hC.c4
      refine wpOp_of rfl rfl ?_
      go_simp
      exact ⟨b0, b1, b2, b3, b4, b5, b6, b7, b8, b9, b10, b11, b12, b13, b14, b15, b16, true, true, b19, b20, b21, b22, b23, v3, v4, v5, v6, v7, v8, v9, v10, v11, v12, v13, v14, v15, v16, v17, v18, v19, _, _, v22, v23, v24, v25, r0, r1, r2, r3, r4, r5, rfl, rfl, hB, hC, hR, h0, h1, h2, h3, h4.load, e20, e21, e22, e23⟩
    · have q1 : b16 = true := hd 16 (by simp)
      have q2 : b18 = true := hd 18 (by simp)
      have q3 : b19 = false := hl
      obtain ⟨g, ev, orow⟩ := h4.2.2.1 q1 q3
      have es := h4.2.1 q2
      subst ev es
      obtain ⟨g', c', W', hrun, ow, gr, _⟩ := copyTrade W (w.heap.size + 2) g 0 orow 34 x.gt x.ct x.b.ts ((unhide H).below hB).rt (unhide H).nt hrm
      have gl := World.ownsRow.lt orow g rfl
      have n0 : some w.heap.size ≠ some g := fun e => by injection e; omega
      have n1 : some (w.heap.size + 1) ≠ some g := fun e => by injection e; omega
      have f22 : b22 = true → False := fun e => by have := (e22 e).1; rw [q3] at this; simp at this
      have hBk := hB.grown gr (by omega) (fun k e => by injection e; omega)
      have hCk : Cl W' w.heap.size x := ⟨gr.cell hC.c0 n0, gr.cell hC.c1 n0, gr.cell hC.c2 n0, gr.cell hC.c3 n0, gr.cell hC.c4 n0, gr.cell hC.c5 n0⟩
      refine wpOp_of rfl rfl ?_
      refine wpo_append (.tmp 19) (.tmp 21) 34 rfl rfl rfl hrun ?_
      exact ⟨b0, b1, b2, b3, b4, b5, b6, b7, b8, b9, b10, b11, b12, b13, b14, b15, b16, b17, b18, true, b20, b21, b22, b23, v3, v4, v5, v6, v7, v8, v9, v10, v11, v12, v13, v14, v15, v16, v17, v18, _, v20, _, _, v23, v24, v25, r0, r1, r2, r3, r4, r5, rfl, rfl, hBk, hCk, hR.kept gr n1, h0.kept gr (other orow (by decide)), h1.kept gr (other orow (by decide)), h2.kept gr (other orow (by decide)), h3.kept gr (other orow (by decide)), h4.app ow, e20, e21, fun e => (f22 e).elim, fun e => (f22 (e23 e).1).elim⟩
    · refine wpOp_of rfl rfl ?_
      go_simp
      exact ⟨b0, b1, b2, b3, b4, b5, b6, b7, b8, b9, b10, b11, b12, b13, b14, b15, b16, b17, b18, b19, true, b21, b22, b23, v3, v4, v5, v6, v7, v8, v9, v10, v11, v12, v13, v14, v15, v16, v17, v18, v19, v20, v21, v22, _, v24, v25, r0, r1, r2, r3, r4, r5, rfl, rfl, hB, hC, hR, h0, h1, h2, h3, h4, fun _ => rfl, e21, e22, e23⟩
    · have q1 : b20 = true := hd 20 (by simp)
      have q2 := e20 q1
      subst q1 q2
      have c := hC.c5
      refine wpOp_of rfl rfl ?_
      go_simp
      exact ⟨b0, b1, b2, b3, b4, b5, b6, b7, b8, b9, b10, b11, b12, b13, b14, b15, b16, b17, b18, b19, true, true, b22, b23, v3, v4, v5, v6, v7, v8, v9, v10, v11, v12, v13, v14, v15, v16, v17, v18, v19, v20, v21, v22, _, _, v25, r0, r1, r2, r3, r4, r5, rfl, rfl, hB, hC, hR, h0, h1, h2, h3, h4, e20, fun _ => rfl, e22, e23⟩
    · have q3 : b3 = true := hd 3 (by simp)
      have q7 : b7 = true := hd 7 (by simp)
      have q11 : b11 = true := hd 11 (by simp)
      have q15 : b15 = true := hd 15 (by simp)
      have q19 : b19 = true := hd 19 (by simp)
      have q21 : b21 = true := hd 21 (by simp)
      have q22 : b22 = false := hl
      have ev := e21 q21
      subst ev
      obtain ⟨g0, c0, z0, _⟩ := h0.2.2.2 q3
      obtain ⟨g1, c1, z1, _⟩ := h1.2.2.2 q7
      obtain ⟨g2, c2, z2, _⟩ := h2.2.2.2 q11
      obtain ⟨g3, c3, z3, _⟩ := h3.2.2.2 q15
      obtain ⟨g4, c4, z4, _⟩ := h4.2.2.2 q19
      subst z0 z1 z2 z3 z4
      have f23 : b23 = true → False := fun e => by have := (e23 e).1; rw [q22] at this; cases this
      refine wpOp_of rfl rfl ?_
      have Q3 := hide q3
      have Q7 := hide q7
      have Q11 := hide q11
      have Q15 := hide q15
      have Q19 := hide q19
      clear q3 q7 q11 q15 q19 q21 q22 hl hd
      go_simp
      exact ⟨b0, b1, b2, b3, b4, b5, b6, b7, b8, b9, b10, b11, b12, b13, b14, b15, b16, b17, b18, b19, b20, b21, true, b23, v3, v4, v5, _, v7, v8, v9, _, v11, v12, v13, _, v15, v16, v17, _, v19, v20, v21, _, v23, _, _, r0, r1, r2, r3, r4, r5, rfl, rfl, hB, hC, hR, h0, h1, h2, h3, h4, e20, fun _ => rfl, fun _ => ⟨⟨unhide Q3, unhide Q7, unhide Q11, unhide Q15, unhide Q19⟩, rfl⟩, fun e => (f23 e).elim⟩
    · have q22 : b22 = true := hd 22 (by simp)
      obtain ⟨Q, ev⟩ := e22 q22
      subst ev
      obtain ⟨g0, c0, z0, _⟩ := h0.2.2.2 Q.1
      obtain ⟨g1, c1, z1, _⟩ := h1.2.2.2 Q.2.1
      obtain ⟨g2, c2, z2, _⟩ := h2.2.2.2 Q.2.2.1
      obtain ⟨g3, c3, z3, _⟩ := h3.2.2.2 Q.2.2.2.1
      obtain ⟨g4, c4, z4, _⟩ := h4.2.2.2 Q.2.2.2.2
      subst z0 z1 z2 z3 z4
      have Q22 := hide q22
      have QQ := hide Q
      obtain ⟨s0, y0⟩ := hR.set0 (.slice (some ⟨g0, 0, none⟩) x.b.ac.length c0)
      obtain ⟨s1, y1⟩ := s0.set1 (.slice (some ⟨g1, 0, none⟩) x.b.ic.length c1)
      obtain ⟨s2, y2⟩ := s1.set2 (.slice (some ⟨g2, 0, none⟩) x.b.bs.length c2)
      obtain ⟨s3, y3⟩ := s2.set3 (.slice (some ⟨g3, 0, none⟩) x.b.ls.length c3)
      obtain ⟨s4, y4⟩ := s3.set4 (.slice (some ⟨g4, 0, none⟩) x.b.ts.length c4)
      obtain ⟨s5, y5⟩ := s4.set5 (.int .i64 x.b.lot)
      have gg := Pairs.grown_trans (Pairs.grown_trans (Pairs.grown_trans (Pairs.grown_trans (Pairs.grown_trans y0 y1) y2) y3) y4) y5
      have k0 := hR.c0
      have k1 := hR.c1
      have k2 := hR.c2
      have k3 := hR.c3
      have k4 := hR.c4
      have k5 := hR.c5
      have f0 := hR.free 0
      have f1 := hR.free 1
      have f2 := hR.free 2
      have f3 := hR.free 3
      have f4 := hR.free 4
      have f5 := hR.free 5
      have n0 : some w.heap.size ≠ some (w.heap.size + 1) := fun e => by injection e; omega
      have hBk := hB.grown gg (by omega) (fun k e => by injection e; omega)
      have hCk : Cl _ w.heap.size x := ⟨gg.cell hC.c0 n0, gg.cell hC.c1 n0, gg.cell hC.c2 n0, gg.cell hC.c3 n0, gg.cell hC.c4 n0, gg.cell hC.c5 n0⟩
      have S5 := hide s5
      have BK := hide hBk
      have CK := hide hCk
      have GG := hide gg
      have OT := hide (show ∀ (e' : TypeId) (size' : Nat), 36 ≠ e' → ∀ (m c : Nat) (ys : List Value), ¬ W.ownsRow (w.heap.size + 2) e' size' (.slice (some ⟨w.heap.size + 1, 0, none⟩) m c) m ys from fun e' size' ne => other hR ne)
      refine wpOp_of rfl rfl ?_
      clear q22 Q s0 s1 s2 s3 s4 s5 y0 y1 y2 y3 y4 y5 gg hBk hCk hl hd
      go_simp
      exact ⟨b0, b1, b2, b3, b4, b5, b6, b7, b8, b9, b10, b11, b12, b13, b14, b15, b16, b17, b18, b19, b20, b21, b22, true, v3, v4, v5, _, v7, v8, v9, _, v11, v12, v13, _, v15, v16, v17, _, v19, v20, v21, _, v23, v24, _, _, _, _, _, _, .int .i64 x.b.lot, rfl, rfl, unhide BK, unhide CK, unhide S5, h0.kept (unhide GG) ((unhide OT) _ _ (by decide)), h1.kept (unhide GG) ((unhide OT) _ _ (by decide)), h2.kept (unhide GG) ((unhide OT) _ _ (by decide)), h3.kept (unhide GG) ((unhide OT) _ _ (by decide)), h4.kept (unhide GG) ((unhide OT) _ _ (by decide)), e20, e21, fun _ => ⟨unhide QQ, rfl⟩, fun _ => ⟨unhide Q22, rfl, rfl, rfl, rfl, rfl, rfl⟩⟩
  · intro listed a W hI hall
    obtain ⟨b0, b1, b2, b3, b4, b5, b6, b7, b8, b9, b10, b11, b12, b13, b14, b15, b16, b17, b18, b19, b20, b21, b22, b23, v3, v4, v5, v6, v7, v8, v9, v10, v11, v12, v13, v14, v15, v16, v17, v18, v19, v20, v21, v22, v23, v24, v25, r0, r1, r2, r3, r4, r5, rfl, rfl, hB, hC, hR, h0, h1, h2, h3, h4, e20, e21, e22, e23⟩ := hI
    have q23 : b23 = true := hall 23 (by simp)
    obtain ⟨q22, rfl, rfl, rfl, rfl, rfl, rfl⟩ := e23 q23
    obtain ⟨⟨q3, q7, q11, q15, q19⟩, rfl⟩ := e22 q22
    obtain ⟨g0, c0, rfl, o0⟩ := h0.2.2.2 q3
    obtain ⟨g1, c1, rfl, o1⟩ := h1.2.2.2 q7
    obtain ⟨g2, c2, rfl, o2⟩ := h2.2.2.2 q11
    obtain ⟨g3, c3, rfl, o3⟩ := h3.2.2.2 q15
    obtain ⟨g4, c4, rfl, o4⟩ := h4.2.2.2 q19
    have k0 := hR.c0
    have k1 := hR.c1
    have k2 := hR.c2
    have k3 := hR.c3
    have k4 := hR.c4
    have k5 := hR.c5
    have OO := hide (show Ow W w.heap.size ⟨g0, c0, g1, c1, g2, c2, g3, c3, g4, c4, x.b⟩ from Ow.rebase (base := w.heap.size + 2) ⟨o0, o1, o2, o3, o4⟩ (by omega))
    have BB := hide hB
    clear h0 h1 h2 h3 h4 e20 e21 e22 e23 q3 q7 q11 q15 q19 q22 q23 hall o0 o1 o2 o3 o4 hB hC hR
    go_wp2
    refine bodyPost_ret (v := .agg #[.slice (some ⟨g0, 0, none⟩) x.b.ac.length c0, .slice (some ⟨g1, 0, none⟩) x.b.ic.length c1, .slice (some ⟨g2, 0, none⟩) x.b.bs.length c2, .slice (some ⟨g3, 0, none⟩) x.b.ls.length c3, .slice (some ⟨g4, 0, none⟩) x.b.ts.length c4, .int .i64 x.b.lot]) (by simp [results, Tryz.results99, go_sem, k0, k1, k2, k3, k4, k5]) rfl ⟨⟨g0, c0, g1, c1, g2, c2, g3, c3, g4, c4, x.b⟩, rfl, rfl, unhide OO, unhide BB⟩
end Go.Proofs.YtnmeiiaipacplaaGreat.ICopied
namespace Go.Proofs.YtnmeiiaipacplaaGreat.IIndex8
open Go.ChangeShapes Go.WideShapes Go.ChangeAt Go.RowKit BMem Bks IRead
open Lots (Says says_of NoOk)
open Tup8 (T8 el8 At8 Holds8)
def FirstAt8 (xs : List T8) (p : T8 → Bool) (r : Int) : Prop := (r = -1 ∧ ∀ x ∈ xs, p x = false) ∨ (0 ≤ r ∧ ∃ x ∈ xs, p x = true)
set_option maxRecDepth 100000 in
set_option maxHeartbeats 1000000 in
theorem iIndexF8 (w : World) (g n cap K : Nat) (caps : Array Value) (xs : List T8) (p : T8 → Bool) (hl : xs.length = n) (h20 : n ≤ 1048576) (hg : g < w.heap.size) (h : At8 w g xs)
    (hK : ∀ (args : Array Value) (u : World), (callFunc K args).run Tryz.prog u = .ok (.enter K args) u) (hf : ∀ (u : World) (y : T8), Below w.heap.size w u → Calls Tryz.prog K (#[.agg #[.int .i64 y.1, .int .i64 y.2.1, .int .i64 y.2.2.1, .int .i64 y.2.2.2.1, .int .i64 y.2.2.2.2.1, .int .i64 y.2.2.2.2.2.1, .int .i64 y.2.2.2.2.2.2.1, .int .i64 y.2.2.2.2.2.2.2]] ++ caps) u fun e u' => e = .returned (.bool (p y)) ∧ Below u.heap.size u u') :
    Calls Tryz.prog 180 #[.slice (some ⟨g, 0, none⟩) n cap, .func (.func K) #[] caps] w fun e w' => ∃ r, FirstAt8 xs p r ∧ e = .returned (.int .i64 r) ∧ Below w.heap.size w w' := by
  have H := hide h
  have HF := hide hf
  have HL := hide hl
  clear h hf hl
  go_enter Tryz.func180, Tryz.ntmps180
  go_wp2_with fail
  go_loopw [8] (fun i wr => ∃ (k : Nat), k ≤ n ∧ i = .int .i64 k ∧ (∀ j, j < k → p (el8 xs j) = false) ∧ Below w.heap.size w wr) (fun i _ => n - (intOf i).toNat)
  case atStart => exact ⟨0, by omega, rfl, fun j hj => by omega, Below.refl _ _⟩
  case round =>
    obtain ⟨k, hk, rfl, hn, hb⟩ := hrel
    have HB := hide hb
    have HN := hide hn
    by_cases t : k < n
    · obtain ⟨c0, c1, c2, c3, c4, c5, c6, c7⟩ := ((unhide H).below hb hg) k (by rw [unhide HL]; exact t)
      have hM : el8 xs k ∈ xs := by
        simp [el8, List.getD, unhide HL, t]
      have HM := hide hM
      clear hb hn hM
      generalize hy : el8 xs k = y at *
      have HY := hide hy
      clear hy
      go_wp2_with fail
      refine ((unhide HF) _ y (unhide HB)).mono ?_
      rintro e w1 ⟨rfl, b1⟩
      have B1 := hide (next (unhide HB) b1)
      clear b1 c0 c1 c2 c3 c4 c5 c6 c7
      cases hp : p y
      · go_wp2
        go_roundw
        case rel => exact ⟨k + 1, by omega, by go_num, fun j hj => by
          by_cases e : j = k
          · subst e; rw [unhide HY]; exact hp
          · exact (unhide HN) j (by omega), unhide B1⟩
        case measure => simp [intOf]; omega
      · go_wp2
        go_ret
        exact ⟨k, .inr ⟨by omega, y, unhide HM, hp⟩, rfl, unhide B1⟩
    · clear hb hn
      have hkn : k = n := by omega
      have E0 := hide (show ∀ x ∈ xs, p x = false from fun x hx => by
        obtain ⟨j, hj, rfl⟩ := List.getElem_of_mem hx
        have := (unhide HN) j (by rw [unhide HL] at hj; omega)
        simpa [el8, List.getD, hj] using this)
      clear hkn
      go_wp2
      go_ret
      exact ⟨-1, .inl ⟨rfl, unhide E0⟩, rfl, unhide HB⟩
set_option maxRecDepth 100000 in
theorem iContainsF8 (w : World) (g n cap K : Nat) (caps : Array Value) (xs : List T8) (p : T8 → Bool) (b : Bool) (hl : xs.length = n) (h20 : n ≤ 1048576) (hg : g < w.heap.size) (h : At8 w g xs)
    (hK : ∀ (args : Array Value) (u : World), (callFunc K args).run Tryz.prog u = .ok (.enter K args) u) (hf : ∀ (u : World) (y : T8), Below w.heap.size w u → Calls Tryz.prog K (#[.agg #[.int .i64 y.1, .int .i64 y.2.1, .int .i64 y.2.2.1, .int .i64 y.2.2.2.1, .int .i64 y.2.2.2.2.1, .int .i64 y.2.2.2.2.2.1, .int .i64 y.2.2.2.2.2.2.1, .int .i64 y.2.2.2.2.2.2.2]] ++ caps) u fun e u' => e = .returned (.bool (p y)) ∧ Below u.heap.size u u') (hb : Says b (∃ x ∈ xs, p x = true)) :
    Calls Tryz.prog 155 #[.slice (some ⟨g, 0, none⟩) n cap, .func (.func K) #[] caps] w fun e w' => e = .returned (.bool b) ∧ Below w.heap.size w w' := by
  have H := hide h
  have HF := hide hf
  have HL := hide hl
  have T := hide hb
  clear h hf hl hb
  go_enter Tryz.func155, Tryz.ntmps155
  go_wp2_with fail
  refine (iIndexF8 _ g n cap K caps xs p (unhide HL) h20 hg (unhide H) hK (unhide HF)).mono ?_
  rintro e w1 ⟨r, hr, rfl, b1⟩
  have B1 := hide b1
  have hd : decide (0 ≤ r) = b := by
    rcases hr with ⟨rfl, hr⟩ | ⟨h0, hr⟩
    · rw [(unhide T).not (fun ⟨x, hx, e⟩ => by rw [hr x hx] at e; cases e)]; rfl
    · rw [(unhide T).of hr]; exact decide_eq_true h0
  clear b1 hr
  go_wp2
  go_ret
  exact ⟨rfl, unhide B1⟩
end Go.Proofs.YtnmeiiaipacplaaGreat.IIndex8
namespace Go.Proofs.YtnmeiiaipacplaaGreat.ITradesFit
open Go.ChangeShapes Go.WideShapes Go.ChangeAt Go.RowKit BMem Bks IRead IHave ITrade ILists IBalsFit IIndex8
open Lots (Says says_of NoOk)
open Tup8 (T8 el8 At8 Holds8)
set_option maxRecDepth 100000 in
set_option maxHeartbeats 4000000 in
theorem iTradeFits (w : World) (x : Bx) (y0 y1 y2 y3 y4 y5 y6 y7 : Int) (b : Bool) (h : Rd w x) (ha : Chart.Right 20 4 x.b.ac) (hi : Chart.Right 8 2 x.b.ic) (hb : Says b (TradeFit x.b (y0, y1, y2, y3, y4, y5, y6, y7))) :
    Calls Tryz.prog 157 #[.agg #[.slice (some ⟨x.ga, 0, none⟩) x.b.ac.length x.ca, .slice (some ⟨x.gi, 0, none⟩) x.b.ic.length x.ci, .slice (some ⟨x.gb, 0, none⟩) x.b.bs.length x.cb, .slice (some ⟨x.gl, 0, none⟩) x.b.ls.length x.cl, .slice (some ⟨x.gt, 0, none⟩) x.b.ts.length x.ct, .int .i64 x.b.lot], .agg #[.int .i64 y0, .int .i64 y1, .int .i64 y2, .int .i64 y3, .int .i64 y4, .int .i64 y5, .int .i64 y6, .int .i64 y7]] w fun e w' => e = .returned (.bool b) ∧ Below w.heap.size w w' := by
  have T := hide hb
  have LA := hide ha
  have LI := hide hi
  have FIT := hide (show TradeFit x.b (y0, y1, y2, y3, y4, y5, y6, y7) ↔ kindOf x.b.ac y1 = 1 ∧ kindOf x.b.ac y2 = 1 ∧ kindOf x.b.ic y3 = 2 ∧ kindOf x.b.ic y5 = 1 from Iff.rfl)
  have S1 := hide ((St.start h 36).step (one_more (w.alloc (.cells #[.slice (some ⟨x.ga, 0, none⟩) x.b.ac.length x.ca, .slice (some ⟨x.gi, 0, none⟩) x.b.ic.length x.ci, .slice (some ⟨x.gb, 0, none⟩) x.b.bs.length x.cb, .slice (some ⟨x.gl, 0, none⟩) x.b.ls.length x.cl, .slice (some ⟨x.gt, 0, none⟩) x.b.ts.length x.ct, .int .i64 x.b.lot] 36)) (.cells #[.int .i64 y0, .int .i64 y1, .int .i64 y2, .int .i64 y3, .int .i64 y4, .int .i64 y5, .int .i64 y6, .int .i64 y7] 110)))
  clear hb ha hi h
  obtain ⟨b1, h1⟩ := says_of (kindOf x.b.ac y1 = 1)
  obtain ⟨b2, h2⟩ := says_of (kindOf x.b.ac y2 = 1)
  obtain ⟨b3, h3⟩ := says_of (kindOf x.b.ic y3 = 2)
  obtain ⟨b4, h4⟩ := says_of (kindOf x.b.ic y5 = 1)
  have H1 := hide h1
  have H2 := hide h2
  have H3 := hide h3
  have H4 := hide h4
  clear h1 h2 h3 h4
  go_enter Tryz.func157, Tryz.ntmps157
  go_wp2_with fail
  refine (iHolder _ x y1 b1 (unhide S1).r (unhide LA) (unhide H1)).mono ?_
  rintro e w1 ⟨rfl, bb⟩
  have S2 := hide ((unhide S1).step bb)
  have f2 : w1.cell? ⟨w.heap.size + 1, 2, none⟩ = some (.int .i64 y2) := (bb.cell (p := ⟨w.heap.size + 1, 2, none⟩) (by simp)).trans (by simp)
  have f3 : w1.cell? ⟨w.heap.size + 1, 3, none⟩ = some (.int .i64 y3) := (bb.cell (p := ⟨w.heap.size + 1, 3, none⟩) (by simp)).trans (by simp)
  have f5 : w1.cell? ⟨w.heap.size + 1, 5, none⟩ = some (.int .i64 y5) := (bb.cell (p := ⟨w.heap.size + 1, 5, none⟩) (by simp)).trans (by simp)
  have z1 : w.heap.size + 1 < w1.heap.size := by have := bb.size; simp at this; omega
  clear bb
  cases b1
  · have F := hide ((unhide T).not (fun hh => (unhide H1).no ((unhide FIT).1 hh).1))
    clear FIT T
    go_wp2
    go_ret
    exact ⟨by rw [unhide F]; rfl, (unhide S2).b⟩
  obtain ⟨c0, c1, c2, c3, c4, c5⟩ := (unhide S2).c
  go_wp2_with fail
  refine (iHolder _ x y2 b2 (unhide S2).r (unhide LA) (unhide H2)).mono ?_
  rintro e w2 ⟨rfl, bb⟩
  have S3 := hide ((unhide S2).step bb)
  replace f2 : w2.cell? ⟨w.heap.size + 1, 2, none⟩ = some (.int .i64 y2) := (bb.cell (p := ⟨w.heap.size + 1, 2, none⟩) z1).trans f2
  replace f3 : w2.cell? ⟨w.heap.size + 1, 3, none⟩ = some (.int .i64 y3) := (bb.cell (p := ⟨w.heap.size + 1, 3, none⟩) z1).trans f3
  replace f5 : w2.cell? ⟨w.heap.size + 1, 5, none⟩ = some (.int .i64 y5) := (bb.cell (p := ⟨w.heap.size + 1, 5, none⟩) z1).trans f5
  have z2 : w.heap.size + 1 < w2.heap.size := Nat.lt_of_lt_of_le z1 bb.size
  clear bb c0 c1 c2 c3 c4 c5
  cases b2
  · have F := hide ((unhide T).not (fun hh => (unhide H2).no ((unhide FIT).1 hh).2.1))
    clear FIT T
    go_wp2
    go_ret
    exact ⟨by rw [unhide F]; rfl, (unhide S3).b⟩
  obtain ⟨c0, c1, c2, c3, c4, c5⟩ := (unhide S3).c
  go_wp2_with fail
  refine (iPaper _ x y3 b3 (unhide S3).r (unhide LI) (unhide H3)).mono ?_
  rintro e w3 ⟨rfl, bb⟩
  have S4 := hide ((unhide S3).step bb)
  replace f5 : w3.cell? ⟨w.heap.size + 1, 5, none⟩ = some (.int .i64 y5) := (bb.cell (p := ⟨w.heap.size + 1, 5, none⟩) z2).trans f5
  clear bb c0 c1 c2 c3 c4 c5 f2 f3
  cases b3
  · have F := hide ((unhide T).not (fun hh => (unhide H3).no ((unhide FIT).1 hh).2.2.1))
    clear FIT T
    go_wp2
    go_ret
    exact ⟨by rw [unhide F]; rfl, (unhide S4).b⟩
  obtain ⟨c0, c1, c2, c3, c4, c5⟩ := (unhide S4).c
  go_wp2_with fail
  refine (iCash _ x y5 b4 (unhide S4).r (unhide LI) (unhide H4)).mono ?_
  rintro e w4 ⟨rfl, bb⟩
  have S5 := hide ((unhide S4).step bb)
  clear bb c0 c1 c2 c3 c4 c5
  have G := hide (show b = b4 from by
    cases b4
    · exact (unhide T).not (fun hh => (unhide H4).no ((unhide FIT).1 hh).2.2.2)
    · exact (unhide T).of ((unhide FIT).2 ⟨(unhide H1).yes, (unhide H2).yes, (unhide H3).yes, (unhide H4).yes⟩))
  clear FIT T
  go_wp2
  go_ret
  exact ⟨by rw [unhide G]; rfl, (unhide S5).b⟩
noncomputable def unfitB (b : Bk) (t : T8) : Bool := @decide (¬ TradeFit b t) (Classical.propDecidable _)
theorem unfit_says (b : Bk) (t : T8) : Says (!(unfitB b t)) (TradeFit b t) := by
  unfold unfitB
  by_cases h : TradeFit b t
  · rw [@decide_eq_false _ (Classical.propDecidable _) (fun n : ¬ TradeFit b t => n h)]
    exact ⟨fun _ => h, fun _ => rfl⟩
  · rw [@decide_eq_true _ (Classical.propDecidable _) h]
    exact ⟨fun e => Bool.noConfusion e, fun e => absurd e h⟩
set_option maxRecDepth 100000 in
theorem iUnfit (w : World) (x : Bx) (g : Nat) (y : T8) (h : Rd w x) (hgs : g < w.heap.size) (hc : Cl w g x) (ha : Chart.Right 20 4 x.b.ac) (hi : Chart.Right 8 2 x.b.ic) :
    Calls Tryz.prog 156 (#[.agg #[.int .i64 y.1, .int .i64 y.2.1, .int .i64 y.2.2.1, .int .i64 y.2.2.2.1, .int .i64 y.2.2.2.2.1, .int .i64 y.2.2.2.2.2.1, .int .i64 y.2.2.2.2.2.2.1, .int .i64 y.2.2.2.2.2.2.2]] ++ #[.pointer (some ⟨g, 0, none⟩)]) w fun e w' => e = .returned (.bool (unfitB x.b y)) ∧ Below w.heap.size w w' := by
  obtain ⟨y0, y1, y2, y3, y4, y5, y6, y7⟩ := y
  show Calls Tryz.prog 156 #[.agg #[.int .i64 y0, .int .i64 y1, .int .i64 y2, .int .i64 y3, .int .i64 y4, .int .i64 y5, .int .i64 y6, .int .i64 y7], .pointer (some ⟨g, 0, none⟩)] w _
  have T := hide (unfit_says x.b (y0, y1, y2, y3, y4, y5, y6, y7))
  generalize unfitB x.b (y0, y1, y2, y3, y4, y5, y6, y7) = b at *
  have B0 := hide (one_more w (.cells #[.int .i64 y0, .int .i64 y1, .int .i64 y2, .int .i64 y3, .int .i64 y4, .int .i64 y5, .int .i64 y6, .int .i64 y7] 110))
  have H := hide (h.below (unhide B0))
  have LA := hide ha
  have LI := hide hi
  obtain ⟨c0, c1, c2, c3, c4, c5⟩ := hc.below (unhide B0) hgs
  clear h ha hi
  go_enter Tryz.func156, Tryz.ntmps156
  go_wp2_with fail
  refine (iTradeFits _ x y0 y1 y2 y3 y4 y5 y6 y7 (!b) (unhide H) (unhide LA) (unhide LI) (unhide T)).mono ?_
  rintro e w1 ⟨rfl, b1⟩
  have B1 := hide (next (unhide B0) b1)
  clear b1
  go_wp2
  go_ret
  exact ⟨by simp, unhide B1⟩
set_option maxRecDepth 100000 in
theorem iTradesFit (w : World) (x : Bx) (b : Bool) (h : Rd w x) (hl : Lists x.b) (hb : Says b (TradesFit x.b)) :
    Calls Tryz.prog 117 #[.agg #[.slice (some ⟨x.ga, 0, none⟩) x.b.ac.length x.ca, .slice (some ⟨x.gi, 0, none⟩) x.b.ic.length x.ci, .slice (some ⟨x.gb, 0, none⟩) x.b.bs.length x.cb, .slice (some ⟨x.gl, 0, none⟩) x.b.ls.length x.cl, .slice (some ⟨x.gt, 0, none⟩) x.b.ts.length x.ct, .int .i64 x.b.lot]] w fun e w' => e = .returned (.bool b) ∧ Below w.heap.size w w' := by
  have T := hide (show Says (!b) (∃ t ∈ x.b.ts, unfitB x.b t = true) from by
    cases b
    · refine ⟨fun _ => ?_, fun _ => rfl⟩
      have := hb.no
      refine Classical.byContradiction fun hn => this fun k hk => ?_
      refine (unfit_says x.b (el8 x.b.ts k)).1 ?_
      cases e : unfitB x.b (el8 x.b.ts k)
      · rfl
      · exact absurd ⟨_, Tup8.getD_mem hk, e⟩ hn
    · refine ⟨fun e => Bool.noConfusion e, fun ⟨t, ht, e⟩ => ?_⟩
      obtain ⟨k, hk, rfl⟩ := Tup8.mem_getD ht
      have := (unfit_says x.b (el8 x.b.ts k)).2 (hb.yes k hk)
      rw [e] at this
      cases this)
  have LA := hide hl.1
  have LI := hide hl.2.1
  have S0 := hide (St.start h 36)
  have nt := h.nt
  have lt := h.lt
  clear hb hl h
  go_enter Tryz.func117, Tryz.ntmps117
  go_wp2_with fail
  refine (iContainsF8 _ x.gt _ x.ct 156 #[.pointer (some ⟨w.heap.size, 0, none⟩)] x.b.ts (unfitB x.b) (!b) rfl nt (by simp; omega) (unhide S0).r.rt (fun _ _ => enters Tryz.func156 (by kernel_rfl) rfl _ _) (fun u y bu => iUnfit u x w.heap.size y ((unhide S0).r.below bu) (Nat.lt_of_lt_of_le (unhide S0).s bu.size) ((unhide S0).c.below bu (by simp)) (unhide LA) (unhide LI)) (unhide T)).mono ?_
  rintro e w1 ⟨rfl, b1⟩
  have B1 := hide ((unhide S0).step b1).b
  clear b1
  go_wp2
  go_ret
  exact ⟨by simp, unhide B1⟩
end Go.Proofs.YtnmeiiaipacplaaGreat.ITradesFit
namespace Go.Proofs.YtnmeiiaipacplaaGreat.Concat3
open Go.ChangeShapes Go.WideShapes Go.ChangeAt Go.RowKit Triples
open Bals (T3)
open LegApp (info2)
def OwnV (e : TypeId) (w : World) (base : Nat) (v : Value) (ps : List T3) : Prop := w.ownsRow base e 3 v ps.length (flat3 ps)
theorem OwnV.cases {e : TypeId} {w : World} {base : Nat} {v : Value} {ps : List T3} (h : OwnV e w base v ps) : (v = .slice none 0 0 ∧ ps = []) ∨ ∃ g c, v = .slice (some ⟨g, 0, none⟩) ps.length c ∧ Own3 e w base g ps.length c ps := by
  rcases h.2 with ⟨h1, h2⟩ | ⟨g, c, cur, h1, h2⟩
  · exact .inl ⟨h1, List.eq_nil_of_length_eq_zero h2⟩
  · refine .inr ⟨g, c, h1, ?_⟩
    have h' : w.ownsRow base e 3 v ps.length (flat3 ps) := h
    rw [h1] at h'
    exact h'
theorem OwnV.of {e : TypeId} {w : World} {base g n c : Nat} {ps : List T3} (h : Own3 e w base g n c ps) : OwnV e w base (.slice (some ⟨g, 0, none⟩) n c) ps := by
  unfold OwnV
  rw [h.len]
  exact h
theorem OwnV.nil (e : TypeId) (w : World) (base : Nat) : OwnV e w base (.slice none 0 0) [] := ⟨rfl, .inl ⟨rfl, rfl⟩⟩
theorem OwnV.lt {e : TypeId} {w : World} {base : Nat} {v : Value} {ps : List T3} (h : OwnV e w base v ps) : ∀ g, v.ownBlock = some g → base ≤ g ∧ g < w.heap.size := fun g hg => World.ownsRow.lt h g hg
theorem OwnV.below {e : TypeId} {w w' : World} {base B : Nat} {v : Value} {ps : List T3} (h : OwnV e w base v ps) (k : Below B w w') (hB : ∀ g, v.ownBlock = some g → g < B) : OwnV e w' base v ps := by
  rcases h.cases with ⟨rfl, rfl⟩ | ⟨g, c, rfl, o⟩
  · exact OwnV.nil _ _ _
  · exact OwnV.of (o.below k (hB g rfl))
theorem OwnV.kept {e : TypeId} {w w' : World} {base : Nat} {row : Option Nat} {v : Value} {ps : List T3} (h : OwnV e w base v ps) (k : w.grownBy w' row) (hne : ∀ g, v.ownBlock = some g → row ≠ some g) : OwnV e w' base v ps := by
  rcases h.cases with ⟨rfl, rfl⟩ | ⟨g, c, rfl, o⟩
  · exact OwnV.nil _ _ _
  · exact OwnV.of (o.kept k (fun e => hne g rfl e.symm))
theorem OwnV.rebase {e : TypeId} {w : World} {base base' : Nat} {v : Value} {ps : List T3} (h : OwnV e w base v ps) (hb : base' ≤ base) : OwnV e w base' v ps := by
  rcases h.cases with ⟨rfl, rfl⟩ | ⟨g, c, rfl, o⟩
  · exact OwnV.nil _ _ _
  · exact OwnV.of (o.rebase (Nat.le_trans hb o.lt.1))
theorem wp_catV (u : World) {ops : Array Oper} {rest : List Oper} {o : Oper} {a : Act} {Q : Exit → Act → World → Prop} (hgd : o.guard = none) (s x : Operand)
    (ho : o.op = .call { callee := .builtin .append, args := #[s, x], argTypes := #[66, 66] }) (base m : Nat) (v : Value) (ps qs : List T3) (vb c : Nat)
    (hs : a.eval s = v) (hx : a.eval x = .slice (some ⟨vb, 0, none⟩) m c) (hown : OwnV 80 u base v ps) (hl : qs.length = m) (hv : At3 u vb qs) (hn : ps.length + m ≤ 1048576) (hb : base ≤ u.heap.size)
    (h : ∀ v' w', OwnV 80 w' base v' (ps ++ qs) → u.grownBy w' v.ownBlock → (v'.ownBlock = v.ownBlock ∨ v'.ownBlock = some u.heap.size) → wpList Tryz.prog ops Q rest (a.put o.dst v') w') : wpList Tryz.prog ops Q (o :: rest) a u := by
  obtain ⟨i0, hi, hz0, hz1, hz2⟩ := info_parts info2
  refine wpList_append_own_at u hgd s x 66 ho base 80 i0 (.agg #[.int .i64 0, .int .i64 0, .int .i64 0]) 3 24 Tryz.underlying66 hi hz0 hz1 hz2 rfl (by decide) v ps.length _ hs hown ⟨vb, 0, none⟩ m c (flat3 qs) hx (by rw [flat3_len, hl]) hv.cells (fun u hu => flat3_one u _ hu) (by unfold maxLen; omega) (by omega) hb ?_
  intro v' w' own' gr' nil' loc'
  refine h v' w' ?_ gr' loc'
  unfold OwnV
  rw [flat3_append, List.length_append, hl]
  exact own'
set_option maxRecDepth 100000 in
theorem grow_some (w : World) (k : Nat) (h0 : 0 < k) (h20 : k ≤ 1048576) : Calls Tryz.prog 108 #[.slice none 0 0, .int .i64 k] w fun e w' => ∃ v, e = .returned v ∧ OwnV 80 w' w.heap.size v [] ∧ Below w.heap.size w w' := by
  obtain ⟨i0, hi, hz0, hz1, hz2⟩ := info_parts info2
  have kp : (0 : Int) < (k : Int) := by omega
  have hold : (Builtin.firstCells i0.size 0 (.slice none 0 0)).run Tryz.prog w.drew = .ok ([] : List Value).toArray w.drew := run_firstCells_none _ _ _ _ _
  obtain ⟨G, hG⟩ : ∃ G, G = grownCap w k 0 80 := ⟨_, rfl⟩
  have hG1 : k ≤ G := by rw [hG]; exact grownCap_ge w _ _ _
  have hG2 : G ≤ maxLen := by rw [hG]; exact grownCap_le_maxLen w _ _ _ (by unfold maxLen; omega)
  obtain ⟨ROW, hROW⟩ : ∃ ROW : Array Value, ROW = ([] : List Value).toArray ++ Builtin.zeroCells (Value.agg #[.int .i64 0, .int .i64 0, .int .i64 0]).cells k ++ Builtin.zeroCells (Value.agg #[.int .i64 0, .int .i64 0, .int .i64 0]).cells (G - k) := ⟨_, rfl⟩
  have hrz : ∀ ty, (Builtin.append_ #[66, 3] ty #[.slice none 0 0, .int .i64 (k : Int)]).run Tryz.prog w = .ok (.slice (some ⟨w.heap.size, 0, none⟩) k G) (w.drew.alloc (.cells ROW 80)) := fun ty => by
    have h := Lib.run_append_grow_zeros w 66 3 ty 80 i0 _ .i64 .i64 Tryz.underlying66 Tryz.underlying3 hi hz0 none 0 0 [] hold k h0 (by rw [hz1]; decide) (by omega) (by omega) (by rw [hz2]; omega) (by rw [hz2]; exact growslice_fits (by omega) (by omega))
    rw [Nat.zero_add, ← hG, ← hROW] at h
    exact h
  have hRs : ROW.size = G * 3 := by
    rw [hROW]
    simp [Builtin.zeroCells, Value.cells]
    omega
  have OV := hide (show OwnV 80 (w.drew.alloc (.cells ROW 80)) w.heap.size (.slice (some ⟨w.heap.size, 0, none⟩) 0 G) [] from ⟨rfl, .inr ⟨w.heap.size, G, ROW, rfl, Nat.le_refl _, heap_alloc_new w.drew _, Nat.zero_le _, hG2, hRs, by simp [flat3]⟩⟩)
  have BB := hide (show Below w.heap.size w (w.drew.alloc (.cells ROW 80)) from (Below.refl _ _).drew.alloc (Nat.le_refl _) _)
  have G63 : (G : Int) ≤ 9223372036854775807 := by unfold maxLen at hG2; omega
  clear hold hROW hRs hG hi hz0 hz1 hz2
  go_enter Tryz.func108, Tryz.ntmps108
  go_wp2_with (first | (at_builtin; refine Lib.wpList_append_run _ rfl _ _ _ _ rfl _ _ rfl rfl _ _ (hrz _) ?_) | go_in)
  go_ret
  exact ⟨_, rfl, unhide OV, unhide BB⟩
set_option maxRecDepth 100000 in
set_option maxHeartbeats 4000000 in
theorem iConcat (w : World) (b g1 n1 c1 g2 n2 c2 : Nat) (p1 p2 : List T3) (l1 : p1.length = n1) (l2 : p2.length = n2) (h20 : n1 + n2 ≤ 1048576) (h0 : 0 < n1 + n2)
    (hb : b < w.heap.size) (q1 : g1 < w.heap.size) (q2 : g2 < w.heap.size) (a1 : At3 w g1 p1) (a2 : At3 w g2 p2)
    (s1 : w.cell? ⟨b, 0, none⟩ = some (.slice (some ⟨g1, 0, none⟩) n1 c1)) (s2 : w.cell? ⟨b, 1, none⟩ = some (.slice (some ⟨g2, 0, none⟩) n2 c2)) :
    Calls Tryz.prog 49 #[.slice (some ⟨b, 0, none⟩) 2 2] w fun e w' => ∃ g c, e = .returned (.slice (some ⟨g, 0, none⟩) (p1 ++ p2).length c) ∧ Own3 80 w' w.heap.size g (p1 ++ p2).length c (p1 ++ p2) ∧ Below w.heap.size w w' := by
  have A1 := hide a1
  have A2 := hide a2
  clear a1 a2
  go_enter Tryz.func49, Tryz.ntmps49
  go_wp2
  go_loop [3, 5, 11] (fun q _ j => ∃ (k : Nat) (z : Int), j = .int .i64 k ∧ q = .int .i64 z ∧ ((k = 0 ∧ z = 0) ∨ (k = 1 ∧ z = (n1 : Int)) ∨ (k = 2 ∧ z = (n1 : Int) + (n2 : Int)))) (fun _ _ j => 2 - (intOf j).toNat)
  case atStart => exact ⟨0, 0, rfl, rfl, .inl ⟨rfl, rfl⟩⟩
  case round =>
    obtain ⟨k, z, rfl, rfl, hk⟩ := hrel
    rcases hk with ⟨rfl, rfl⟩ | ⟨rfl, rfl⟩ | ⟨rfl, rfl⟩
    · go_wp2
      go_round
      case rel => exact ⟨1, (n1 : Int), by go_num, by go_num, .inr (.inl ⟨rfl, rfl⟩)⟩
      case measure => simp [intOf]
    · go_wp2
      go_round
      case rel => exact ⟨2, (n1 : Int) + (n2 : Int), by go_num, by go_num, .inr (.inr ⟨rfl, rfl⟩)⟩
      case measure => simp [intOf]
    · have GR := hide (show Calls Tryz.prog 108 #[.slice none 0 0, .int .i64 ((n1 : Int) + (n2 : Int))] w fun e w' => ∃ v, e = .returned v ∧ OwnV 80 w' w.heap.size v [] ∧ Below w.heap.size w w' from by
        have := grow_some w (n1 + n2) h0 h20
        rw [show ((n1 + n2 : Nat) : Int) = (n1 : Int) + (n2 : Int) by omega] at this
        exact this)
      go_wp2_with fail
      refine (unhide GR).mono ?_
      rintro e w1 ⟨v, rfl, ov, b1⟩
      have OV := hide ov
      have B1 := hide b1
      clear ov b1 GR
      go_wp2
      go_loopw [6, 8, 27] (fun x _ j wr => ∃ (k : Nat) (v : Value) (out : List T3), j = .int .i64 k ∧ v = x ∧ Hid (OwnV 80 wr w.heap.size v out) ∧ Hid (Below w.heap.size w wr) ∧ ((k = 0 ∧ out = []) ∨ (k = 1 ∧ p1 = out) ∨ (k = 2 ∧ out = p1 ++ p2))) (fun _ _ j _ => 2 - (intOf j).toNat)
      case atStart => exact ⟨0, v, [], rfl, rfl, OV, B1, .inl ⟨rfl, rfl⟩⟩
      case round =>
      clear OV B1
      obtain ⟨k, v, out, rfl, rfl, OV, HB, hk⟩ := hrel
      rcases hk with ⟨rfl, rfl⟩ | ⟨rfl, rfl⟩ | ⟨rfl, rfl⟩
      · have s : wr.cell? ⟨b, 0, none⟩ = some (.slice (some ⟨g1, 0, none⟩) n1 c1) := ((unhide HB).cell (p := ⟨b, 0, none⟩) hb).trans s1
        have A := hide ((unhide A1).below (unhide HB) q1)
        have bs := (unhide HB).size
        have LN := hide (show ([] : List T3).length + n1 ≤ 1048576 from by (try simp); omega)
        go_wp2_with (first | (at_builtin; refine wp_catV _ rfl _ _ rfl w.heap.size n1 v ([] : List T3) p1 g1 c1 rfl rfl (unhide OV) l1 (unhide A) (unhide LN) bs ?_) | go_in)
        intro v5 w5 ov5 gr5 loc5
        have O5 := hide (show OwnV 80 w5 w.heap.size v5 (p1) from by have := ov5; exact this)
        have B5 := hide ((unhide HB).grown gr5 bs (fun j hj => ((unhide OV).lt j hj).1))
        clear ov5 gr5 loc5 A s
        go_wp2
        go_roundw
        case rel => exact ⟨1, v5, p1, by go_num, rfl, O5, B5, .inr (.inl ⟨rfl, rfl⟩)⟩
        case measure => simp [intOf]
      · have s : wr.cell? ⟨b, 1, none⟩ = some (.slice (some ⟨g2, 0, none⟩) n2 c2) := ((unhide HB).cell (p := ⟨b, 1, none⟩) hb).trans s2
        have A := hide ((unhide A2).below (unhide HB) q2)
        have bs := (unhide HB).size
        have LN := hide (show (p1).length + n2 ≤ 1048576 from by (try simp); omega)
        go_wp2_with (first | (at_builtin; refine wp_catV _ rfl _ _ rfl w.heap.size n2 v (p1) p2 g2 c2 rfl rfl (unhide OV) l2 (unhide A) (unhide LN) bs ?_) | go_in)
        intro v5 w5 ov5 gr5 loc5
        have O5 := hide (show OwnV 80 w5 w.heap.size v5 (p1 ++ p2) from by have := ov5; exact this)
        have B5 := hide ((unhide HB).grown gr5 bs (fun j hj => ((unhide OV).lt j hj).1))
        clear ov5 gr5 loc5 A s
        go_wp2
        go_roundw
        case rel => exact ⟨2, v5, p1 ++ p2, by go_num, rfl, O5, B5, .inr (.inr ⟨rfl, rfl⟩)⟩
        case measure => simp [intOf]
      · rcases (unhide OV).cases with ⟨_, e⟩ | ⟨g, c, e, o⟩
        · have h2 : (p1 ++ p2).length = 0 := by rw [e]; rfl
          rw [List.length_append] at h2
          omega
        · subst e
          have O := hide o
          clear o
          go_wp2
          go_ret
          exact ⟨g, c, rfl, unhide O, unhide HB⟩
end Go.Proofs.YtnmeiiaipacplaaGreat.Concat3
namespace Go.Proofs.YtnmeiiaipacplaaGreat.Weigh
open Go.ChangeShapes Go.WideShapes Go.ChangeAt Go.RowKit Ints Small
def S (xs : List Int) : Nat → Int
  | 0 => 0
  | k + 1 => S xs k + xs.getD k 0
def Wt (x : Int) : Prop := 0 ≤ x ∧ x ≤ 1000000000000000
def Good (xs : List Int) : Prop :=
  (1 ≤ xs.length ∧ xs.length ≤ 40) ∧ (∀ i, i < xs.length → Wt (xs.getD i 0)) ∧ 1 ≤ S xs xs.length ∧ S xs xs.length ≤ 1000000000000000
theorem S_nonneg (xs : List Int) (n : Nat) (h : ∀ i, i < n → Wt (xs.getD i 0)) : 0 ≤ S xs n := by
  induction n with
  | zero => exact Int.le_refl _
  | succ n ih =>
    have := ih (fun i hi => h i (by omega))
    have := (h n (by omega)).1
    show 0 ≤ S xs n + xs.getD n 0
    omega
theorem S_le (xs : List Int) (n : Nat) (h : ∀ i, i < n → Wt (xs.getD i 0)) : S xs n ≤ 1000000000000000 * (n : Int) := by
  induction n with
  | zero => simp [S]
  | succ n ih =>
    have := ih (fun i hi => h i (by omega))
    have := (h n (by omega)).2
    show S xs n + xs.getD n 0 ≤ _
    omega
theorem S_mono (xs : List Int) (k n : Nat) (hk : k ≤ n) (h : ∀ i, i < n → Wt (xs.getD i 0)) : S xs k ≤ S xs n := by
  induction n with
  | zero => obtain rfl : k = 0 := by omega
            exact Int.le_refl _
  | succ n ih =>
    by_cases e : k = n + 1
    · subst e; exact Int.le_refl _
    · have := ih (by omega) (fun i hi => h i (by omega))
      have := (h n (by omega)).1
      show _ ≤ S xs n + xs.getD n 0
      omega
theorem S_one (xs : List Int) (i n : Nat) (hi : i < n) (h : ∀ i, i < n → Wt (xs.getD i 0)) : xs.getD i 0 ≤ S xs n := by
  have := S_mono xs (i + 1) n (by omega) h
  have := S_nonneg xs i (fun j hj => h j (by omega))
  have e : S xs (i + 1) = S xs i + xs.getD i 0 := rfl
  omega
set_option maxRecDepth 100000 in
theorem sAll (w : World) (g n cap : Nat) (xs : List Int) (hl : xs.length = n) (h40 : n ≤ 40) (hx : ∀ i, i < n → Wt (xs.getD i 0)) (h : At w g xs) :
    Calls Tryz.prog 160 #[.slice (some ⟨g, 0, none⟩) n cap] w fun e w' => e = .returned (.int .i64 (S xs n)) ∧ w' = w := by
  go_enter Tryz.func160, Tryz.ntmps160
  go_wp2
  go_loop [3, 4] (fun s i => ∃ (k : Nat), k ≤ n ∧ i = .int .i64 k ∧ s = .int .i64 (S xs k)) (fun _ i => n - (intOf i).toNat)
  case atStart => exact ⟨0, by omega, rfl, rfl⟩
  case round =>
    obtain ⟨k, hk, rfl, rfl⟩ := hrel
    by_cases t : k < n
    · have e1 := h k (by omega)
      have s0 := S_nonneg xs k (fun i hi => hx i (by omega))
      have s1 := S_le xs k (fun i hi => hx i (by omega))
      obtain ⟨x0, x1⟩ := hx k t
      have E := hide (show S xs (k + 1) = S xs k + xs.getD k 0 from rfl)
      clear h hx
      generalize xs.getD k 0 = z at *
      generalize S xs k = s at *
      go_wp2
      go_round
      case rel => exact ⟨k + 1, by omega, by go_num, by rw [unhide E]⟩
      case measure => simp [intOf]; omega
    · obtain rfl : k = n := by omega
      clear h hx
      go_wp2
      go_ret
      exact ⟨rfl, rfl⟩
theorem sIn (x lo hi : Int) (b : Bool) (w : World) (hb : Hid (b = true ↔ lo ≤ x ∧ x ≤ hi)) :
    Calls Tryz.prog 70 #[.int .i64 x, .int .i64 lo, .int .i64 hi] w fun e w' => e = .returned (.bool b) ∧ w' = w := by
  cases b
  · have H := hide (show lo ≤ x → ¬ x ≤ hi from fun h1 h2 => Bool.noConfusion ((unhide hb).2 ⟨h1, h2⟩))
    clear hb
    by_cases h1 : lo ≤ x
    · have h2 := (unhide H) h1
      clear H
      go_enter Tryz.func70, Tryz.ntmps70
      go_wp2
      go_ret
      exact ⟨rfl, rfl⟩
    · clear H
      go_enter Tryz.func70, Tryz.ntmps70
      go_wp2
      go_ret
      exact ⟨rfl, rfl⟩
  · obtain ⟨h1, h2⟩ := (unhide hb).1 rfl
    clear hb
    go_enter Tryz.func70, Tryz.ntmps70
    go_wp2
    go_ret
    exact ⟨rfl, rfl⟩
theorem sSome (x lo : Int) (b : Bool) (w : World) (hb : Hid (b = true ↔ lo ≤ x ∧ x ≤ 1000000000000000)) :
    Calls Tryz.prog 30 #[.int .i64 x, .int .i64 lo] w fun e w' => e = .returned (.bool b) ∧ w' = w := by
  go_enter Tryz.func30, Tryz.ntmps30
  go_wp2_with fail
  refine (sIn x lo 1000000000000000 b _ hb).mono ?_
  rintro e w' ⟨rfl, rfl⟩
  go_wp2
  go_ret
  exact ⟨rfl, rfl⟩
set_option maxRecDepth 100000 in
set_option maxHeartbeats 800000 in
theorem sWeights (w : World) (g n cap : Nat) (xs : List Int) (ok : Bool) (hl : xs.length = n) (h20 : n ≤ 1048576) (h : At w g xs) (hok : Hid (ok = true ↔ Good xs)) :
    Calls Tryz.prog 120 #[.slice (some ⟨g, 0, none⟩) n cap] w fun e w' => e = .returned (.bool ok) ∧ w' = w := by
  by_cases nn : (1 : Int) ≤ (n : Int) ∧ (n : Int) ≤ 40
  · have NN := hide nn
    clear nn
    go_enter Tryz.func120, Tryz.ntmps120
    go_wp2_with fail
    refine (sIn n 1 40 true _ (hide ⟨fun _ => unhide NN, fun _ => rfl⟩)).mono ?_
    rintro e w' ⟨rfl, rfl⟩
    go_wp2
    go_loop [3] (fun i => ∃ (k : Nat), k ≤ n ∧ i = .int .i64 k ∧ Hid (∀ i, i < k → Wt (xs.getD i 0))) (fun i => n - (intOf i).toNat)
    case atStart => exact ⟨0, by omega, rfl, hide (fun i hi => absurd hi (by omega))⟩
    case round =>
      obtain ⟨k, hk, rfl, HG⟩ := hrel
      by_cases t : k < n
      · have e1 := h k (by omega)
        clear h
        have K := hide (show Wt (xs.getD k 0) → ∀ i, i < k + 1 → Wt (xs.getD i 0) from fun hw i hi => by
          by_cases e : i = k
          · subst e; exact hw
          · exact unhide HG i (by omega))
        have F := hide (show ¬ Wt (xs.getD k 0) → ok = false from fun hw => by
          cases hh : ok
          · rfl
          · exact absurd (((unhide hok).1 hh).2.1 k (by omega)) hw)
        clear hok
        generalize xs.getD k 0 = z at *
        by_cases z0 : Wt z
        · have Z := hide z0
          clear z0
          go_wp2_with fail
          refine (sSome z 0 true _ (hide ⟨fun _ => unhide Z, fun _ => rfl⟩)).mono ?_
          rintro e w' ⟨rfl, rfl⟩
          go_wp2
          go_round
          case rel => exact ⟨k + 1, by omega, by go_num, hide ((unhide K) (unhide Z))⟩
          case measure => simp [intOf]; omega
        · have Z := hide z0
          clear z0
          go_wp2_with fail
          refine (sSome z 0 false _ (hide ⟨fun h => Bool.noConfusion h, fun h => absurd h (unhide Z)⟩)).mono ?_
          rintro e w' ⟨rfl, rfl⟩
          go_wp2
          go_ret
          exact ⟨by rw [(unhide F) (unhide Z)]; rfl, rfl⟩
      · obtain rfl : k = n := by omega
        have c := sAll _ g k cap xs hl (by have := unhide NN; omega) (unhide HG) h
        have F := hide (show ok = true ↔ (1 ≤ S xs k ∧ S xs k ≤ 1000000000000000) from by
          rw [unhide hok]; unfold Good; rw [hl]
          have := unhide NN
          exact ⟨fun hh => hh.2.2, fun hh => ⟨⟨by omega, by omega⟩, unhide HG, hh⟩⟩)
        clear h hok HG
        generalize S xs k = s at *
        go_wp2_with fail
        refine c.mono ?_
        rintro e w' ⟨rfl, rfl⟩
        go_wp2_with fail
        refine (sSome s 1 ok _ F).mono ?_
        rintro e w' ⟨rfl, rfl⟩
        go_wp2
        go_ret
        exact ⟨rfl, rfl⟩
  · have F : Hid (ok = false) := by
      refine hide ?_
      cases hh : ok
      · rfl
      · have := ((unhide hok).1 hh).1; omega
    have NN := hide nn
    clear nn
    clear h hok
    go_enter Tryz.func120, Tryz.ntmps120
    go_wp2_with fail
    refine (sIn n 1 40 false _ (hide ⟨fun h => Bool.noConfusion h, fun h => absurd h (unhide NN)⟩)).mono ?_
    rintro e w' ⟨rfl, rfl⟩
    go_wp2
    go_ret
    exact ⟨by rw [unhide F]; rfl, rfl⟩
def SumTells (xs : List Int) (s : Int) (ok : Bool) : Prop := (Good xs ∧ s = S xs xs.length ∧ ok = true) ∨ (¬ Good xs ∧ s = 0 ∧ ok = false)
theorem SumTells.bad {xs : List Int} {s : Int} {ok : Bool} (h : SumTells xs s ok) (hb : ¬ Good xs) : s = 0 ∧ ok = false := by
  rcases h with h | h
  · exact absurd h.1 hb
  · exact h.2
set_option maxRecDepth 100000 in
set_option maxHeartbeats 800000 in
theorem iSum (w : World) (g n cap : Nat) (xs : List Int) (s : Int) (ok : Bool) (hl : xs.length = n) (h20 : n ≤ 1048576) (h : At w g xs) (hok : Hid (SumTells xs s ok)) :
    Calls Tryz.prog 197 #[.slice (some ⟨g, 0, none⟩) n cap] w fun e w' => e = .returned (.tuple #[.int .i64 s, .bool ok]) ∧ w' = w := by
  by_cases n2 : (n : Int) ≤ 40
  · go_enter Tryz.func197, Tryz.ntmps197
    go_wp2
    go_loop [4, 14] (fun s i => ∃ (k : Nat), k ≤ n ∧ i = .int .i64 k ∧ s = .int .i64 (S xs k) ∧ S xs k ≤ 1000000000000000 ∧ Hid (∀ i, i < k → Wt (xs.getD i 0))) (fun _ i => n - (intOf i).toNat)
    case atStart => exact ⟨0, by omega, rfl, rfl, by simp [S], hide (fun i hi => absurd hi (by omega))⟩
    case round =>
      obtain ⟨k, hk, rfl, rfl, s1, HG⟩ := hrel
      have s0 := S_nonneg xs k (unhide HG)
      by_cases t : k < n
      · have e1 := h k (by omega)
        clear h
        have K := hide (show Wt (xs.getD k 0) → ∀ i, i < k + 1 → Wt (xs.getD i 0) from fun hw i hi => by
          by_cases e : i = k
          · subst e; exact hw
          · exact unhide HG i (by omega))
        have F := hide (show ¬ Wt (xs.getD k 0) → s = 0 ∧ ok = false from fun hw => (unhide hok).bad fun hg => hw (hg.2.1 k (by omega)))
        have F2 := hide (show ¬ S xs k + xs.getD k 0 ≤ 1000000000000000 → s = 0 ∧ ok = false from fun hw => (unhide hok).bad fun hg => hw (by
          have := S_mono xs (k + 1) n (by omega) (fun i hi => hg.2.1 i (by omega))
          have e : S xs (k + 1) = S xs k + xs.getD k 0 := rfl
          have := hg.2.2.2
          rw [hl] at this
          omega))
        have E := hide (show S xs (k + 1) = S xs k + xs.getD k 0 from rfl)
        clear hok
        generalize xs.getD k 0 = z at *
        generalize S xs k = u at *
        by_cases z0 : 0 ≤ z
        · by_cases z1 : z ≤ 1000000000000000
          · by_cases z2 : u + z ≤ 1000000000000000
            · have c := iAdd_yes u z w (by unfold Amt; omega) (by unfold Amt; omega) (by unfold Amt; omega)
              go_wp2_with (go_at_call 119; refine c.mono ?_; rintro e w' ⟨rfl, rfl⟩)
              go_round
              case rel => exact ⟨k + 1, by omega, by go_num, by rw [unhide E], by rw [unhide E]; omega, hide ((unhide K) ⟨by omega, by omega⟩)⟩
              case measure => simp [intOf]; omega
            · have c := iAdd_no u z w (by unfold Bad Amt NoAmt; omega)
              go_wp2_with (go_at_call 119; refine c.mono ?_; rintro e w' ⟨rfl, rfl⟩)
              go_ret2
              obtain ⟨a1, a2⟩ := (unhide F2) (by omega)
              exact ⟨by rw [a1, a2]; rfl, rfl⟩
          · have c := iAdd_no u z w (by unfold Bad Amt NoAmt; omega)
            go_wp2_with (go_at_call 119; refine c.mono ?_; rintro e w' ⟨rfl, rfl⟩)
            go_ret2
            obtain ⟨a1, a2⟩ := (unhide F) (fun hw => by have := hw.1; have := hw.2; omega)
            exact ⟨by rw [a1, a2]; rfl, rfl⟩
        · by_cases z3 : -1000000000000000 ≤ z
          · have c := iAdd_yes u z w (by unfold Amt; omega) (by unfold Amt; omega) (by unfold Amt; omega)
            go_wp2_with (go_at_call 119; refine c.mono ?_; rintro e w' ⟨rfl, rfl⟩)
            go_ret2
            obtain ⟨a1, a2⟩ := (unhide F) (fun hw => by have := hw.1; have := hw.2; omega)
            exact ⟨by rw [a1, a2]; rfl, rfl⟩
          · have c := iAdd_no u z w (by unfold Bad Amt NoAmt; omega)
            go_wp2_with (go_at_call 119; refine c.mono ?_; rintro e w' ⟨rfl, rfl⟩)
            go_ret2
            obtain ⟨a1, a2⟩ := (unhide F) (fun hw => by have := hw.1; have := hw.2; omega)
            exact ⟨by rw [a1, a2]; rfl, rfl⟩
      · obtain rfl : k = n := by omega
        have F1 := hide (show 0 < S xs k → s = S xs k ∧ ok = true from fun hp => by
          have hg : Good xs := by
            refine ⟨⟨?_, by omega⟩, by rw [hl]; exact unhide HG, by rw [hl]; omega, by rw [hl]; exact s1⟩
            rw [hl]
            cases k with
            | zero => exact absurd hp (by simp [S])
            | succ k => omega
          rcases unhide hok with q | q
          · rw [hl] at q; exact q.2
          · exact absurd hg q.1)
        have F2 := hide (show ¬ 0 < S xs k → s = S xs k ∧ ok = false from fun hp => by
          have hg : ¬ Good xs := fun hg => hp (by have := hg.2.2.1; rw [hl] at this; omega)
          have q := (unhide hok).bad hg
          exact ⟨by omega, q.2⟩)
        clear h hok HG
        generalize S xs k = u at *
        by_cases p : 0 < u
        · go_wp2
          go_ret2
          obtain ⟨a1, a2⟩ := (unhide F1) (by omega)
          exact ⟨by rw [a1, a2]; rfl, rfl⟩
        · go_wp2
          go_ret2
          obtain ⟨a1, a2⟩ := (unhide F2) (by omega)
          exact ⟨by rw [a1, a2]; rfl, rfl⟩
  · have F := hide ((unhide hok).bad (fun hg => by have := hg.1.2; omega))
    clear h hok
    go_enter Tryz.func197, Tryz.ntmps197
    go_wp2
    go_ret2
    exact ⟨by rw [(unhide F).1, (unhide F).2]; rfl, rfl⟩
end Go.Proofs.YtnmeiiaipacplaaGreat.Weigh
namespace Go.Proofs.YtnmeiiaipacplaaGreat.Quota
open Go.ChangeShapes Go.WideShapes Go.ChangeAt Go.RowKit Ints Small Weigh MulC
def Q (t : Int) (xs : List Int) (i : Nat) : Int := t * xs.getD i 0 / S xs xs.length
def R (t : Int) (xs : List Int) (i : Nat) : Int := t * xs.getD i 0 % S xs xs.length
def Tot (t : Int) : Prop := 0 ≤ t ∧ t ≤ 1000000000000000
theorem Q_le (t : Int) (xs : List Int) (i : Nat) (ht : Tot t) (hg : Weigh.Good xs) (hi : i < xs.length) : 0 ≤ Q t xs i ∧ Q t xs i ≤ t := by
  obtain ⟨_, hw, hs, _⟩ := hg
  have h1 := S_one xs i xs.length hi hw
  have h0 := (hw i hi).1
  unfold Q
  generalize xs.getD i 0 = x at *
  generalize S xs xs.length = s at *
  refine ⟨Int.ediv_nonneg (Int.mul_nonneg ht.1 h0) (by omega), ?_⟩
  have : t * x ≤ t * s := Int.mul_le_mul_of_nonneg_left h1 ht.1
  have := Int.ediv_le_ediv (by omega : 0 < s) this
  rwa [Int.mul_ediv_cancel _ (by omega)] at this
theorem R_lt (t : Int) (xs : List Int) (i : Nat) (hg : Weigh.Good xs) : 0 ≤ R t xs i ∧ R t xs i < S xs xs.length := by
  have := hg.2.2.1
  exact ⟨Int.emod_nonneg _ (by omega), Int.emod_lt_of_pos _ (by omega)⟩
theorem tells (t : Int) (xs : List Int) (i : Nat) (ht : Tot t) (hg : Weigh.Good xs) (hi : i < xs.length) : Tells t (xs.getD i 0) (S xs xs.length) (Q t xs i) (R t xs i) true := by
  refine Or.inl ⟨?_, rfl, rfl, rfl⟩
  have := Q_le t xs i ht hg hi
  have := ht.2
  show Q t xs i ≤ _
  omega
def QTells (t : Int) (xs : List Int) (i q r : Int) (ok : Bool) : Prop :=
  (Weigh.Good xs ∧ Tot t ∧ (0 ≤ i ∧ i < xs.length) ∧ q = Q t xs i.toNat ∧ r = R t xs i.toNat ∧ ok = true) ∨ (¬ (Weigh.Good xs ∧ Tot t ∧ 0 ≤ i ∧ i < xs.length) ∧ q = 0 ∧ r = 0 ∧ ok = false)
theorem QTells.bad {t i q r : Int} {xs : List Int} {ok : Bool} (h : QTells t xs i q r ok) (hb : ¬ (Weigh.Good xs ∧ Tot t ∧ 0 ≤ i ∧ i < xs.length)) : q = 0 ∧ r = 0 ∧ ok = false := by
  rcases h with h | h
  · exact absurd ⟨h.1, h.2.1, h.2.2.1⟩ hb
  · exact h.2
theorem QTells.fine {t q r : Int} {i : Nat} {xs : List Int} {ok : Bool} (h : QTells t xs i q r ok) (hg : Weigh.Good xs) (ht : Tot t) (hi : i < xs.length) : q = Q t xs i ∧ r = R t xs i ∧ ok = true := by
  rcases h with h | h
  · simpa using h.2.2.2
  · exact absurd ⟨hg, ht, by omega, by omega⟩ h.1
set_option maxRecDepth 100000 in
set_option maxHeartbeats 800000 in
theorem sQuota (w : World) (t i q r : Int) (ok : Bool) (g n cap : Nat) (xs : List Int) (hl : xs.length = n) (h20 : n ≤ 1048576) (h : At w g xs) (hq : Hid (QTells t xs i q r ok)) :
    Calls Tryz.prog 121 #[.int .i64 t, .slice (some ⟨g, 0, none⟩) n cap, .int .i64 i] w fun e w' => e = .returned (.tuple #[.int .i64 q, .int .i64 r, .bool ok]) ∧ ∃ m, w' = w.drewN m := by
  by_cases hg : Weigh.Good xs
  · have c1 := sWeights w g n cap xs true hl h20 h (hide ⟨fun _ => hg, fun _ => rfl⟩)
    have HG := hide hg
    have n1 : 1 ≤ n := by have := hg.1.1; omega
    have n40 : n ≤ 40 := by have := hg.1.2; omega
    clear hg
    by_cases ht : Tot t
    · have HT := hide ht
      clear ht
      by_cases hi : 0 ≤ i ∧ i ≤ (n : Int) - 1
      · obtain ⟨k, rfl⟩ := Int.eq_ofNat_of_zero_le hi.1
        have hk : (k : Int) < (n : Int) := by omega
        have e1 := h k (by omega)
        obtain ⟨x0, x1⟩ := (unhide HG).2.1 k (by omega)
        have s1 := (unhide HG).2.2
        obtain ⟨t0, t1⟩ := unhide HT
        have F := hide ((unhide hq).fine (unhide HG) (unhide HT) (by omega))
        have c2 := fun W => sMD t (xs.getD k 0) (S xs xs.length) (Q t xs k) (R t xs k) true W t0 t1 x0 x1 s1.1 s1.2 (hide (tells t xs k (unhide HT) (unhide HG) (by omega)))
        have c3 := fun m => sAll (w.drewN m) g n cap xs hl n40 (fun i hi => (unhide HG).2.1 i (by omega)) h
        rw [hl] at c2 s1
        have HI := hide hi
        clear hq h hi
        generalize xs.getD k 0 = x at *
        generalize Q t xs k = qq at *
        generalize R t xs k = rr at *
        generalize S xs n = s at *
        go_enter Tryz.func121, Tryz.ntmps121
        go_wp2_with fail
        refine c1.mono ?_
        rintro e w' ⟨rfl, rfl⟩
        go_wp2_with fail
        refine (sSome t 0 true _ (hide ⟨fun _ => unhide HT, fun _ => rfl⟩)).mono ?_
        rintro e w' ⟨rfl, rfl⟩
        go_wp2_with fail
        refine (sIn k 0 (n - 1) true _ (hide ⟨fun _ => unhide HI, fun _ => rfl⟩)).mono ?_
        rintro e w' ⟨rfl, rfl⟩
        go_wp2_with fail
        go_quiet (first | (go_at_call 160; exact Calls.quiet_of_same (c3 _)) | (go_at_call 34; exact Calls.quiet_of_same (c2 _)))
        go_wp2
        go_ret3
        obtain ⟨a1, a2, a3⟩ := unhide F
        exact ⟨by rw [a1, a2, a3]; rfl, _, rfl⟩
      · have F := hide ((unhide hq).bad (fun k => hi ⟨k.2.2.1, by have := k.2.2.2; omega⟩))
        have HI := hide hi
        clear hi hq h
        go_enter Tryz.func121, Tryz.ntmps121
        go_wp2_with fail
        refine c1.mono ?_
        rintro e w' ⟨rfl, rfl⟩
        go_wp2_with fail
        refine (sSome t 0 true _ (hide ⟨fun _ => unhide HT, fun _ => rfl⟩)).mono ?_
        rintro e w' ⟨rfl, rfl⟩
        go_wp2_with fail
        refine (sIn i 0 (n - 1) false _ (hide ⟨fun h => Bool.noConfusion h, fun h => absurd h (unhide HI)⟩)).mono ?_
        rintro e w' ⟨rfl, rfl⟩
        go_wp2
        go_ret3
        obtain ⟨a1, a2, a3⟩ := unhide F
        exact ⟨by rw [a1, a2, a3]; rfl, 0, rfl⟩
    · have F := hide ((unhide hq).bad (fun k => ht k.2.1))
      have HT := hide ht
      clear ht hq h
      go_enter Tryz.func121, Tryz.ntmps121
      go_wp2_with fail
      refine c1.mono ?_
      rintro e w' ⟨rfl, rfl⟩
      go_wp2_with fail
      refine (sSome t 0 false _ (hide ⟨fun h => Bool.noConfusion h, fun h => absurd h (unhide HT)⟩)).mono ?_
      rintro e w' ⟨rfl, rfl⟩
      go_wp2
      go_ret3
      obtain ⟨a1, a2, a3⟩ := unhide F
      exact ⟨by rw [a1, a2, a3]; rfl, 0, rfl⟩
  · have F := hide ((unhide hq).bad (fun k => hg k.1))
    have c1 := sWeights w g n cap xs false hl h20 h (hide ⟨fun k => Bool.noConfusion k, fun k => absurd k hg⟩)
    clear hg hq h
    go_enter Tryz.func121, Tryz.ntmps121
    go_wp2_with fail
    refine c1.mono ?_
    rintro e w' ⟨rfl, rfl⟩
    go_wp2
    go_ret3
    obtain ⟨a1, a2, a3⟩ := unhide F
    exact ⟨by rw [a1, a2, a3]; rfl, 0, rfl⟩
end Go.Proofs.YtnmeiiaipacplaaGreat.Quota
namespace Go.Proofs.YtnmeiiaipacplaaGreat.Order
open Weigh Quota
def Ahead (t : Int) (xs : List Int) (a b : Nat) : Prop := R t xs b < R t xs a ∨ (R t xs a = R t xs b ∧ a < b)
theorem Ahead.asymm {t : Int} {xs : List Int} {a b : Nat} (h : Ahead t xs a b) (k : Ahead t xs b a) : False := by
  unfold Ahead at *; omega
theorem Ahead.total (t : Int) (xs : List Int) (a b : Nat) (h : a ≠ b) : Ahead t xs a b ∨ Ahead t xs b a := by
  unfold Ahead; omega
theorem Ahead.rest {t : Int} {xs : List Int} {a b : Nat} (h : Ahead t xs a b) : R t xs b ≤ R t xs a := by
  unfold Ahead at h; omega
def IsOrder (t : Int) (xs : List Int) (n : Nat) (L : List Nat) : Prop := L.Perm (List.range n) ∧ L.Pairwise (Ahead t xs)
theorem perm_unique (t : Int) (xs : List Int) : ∀ (L M : List Nat), L.Perm M → L.Pairwise (Ahead t xs) → M.Pairwise (Ahead t xs) → L = M := by
  intro L
  induction L with
  | nil => intro M h _ _; exact (List.Perm.nil_eq h)
  | cons a L ih =>
    intro M h h1 h2
    cases M with
    | nil => exact absurd h.length_eq (by simp)
    | cons b M =>
      have e : a = b := by
        by_cases e : a = b
        · exact e
        · have m1 : a ∈ b :: M := h.subset (List.mem_cons_self ..)
          have m2 : b ∈ a :: L := h.symm.subset (List.mem_cons_self ..)
          have m1' : a ∈ M := by simpa [e] using m1
          have m2' : b ∈ L := by simpa [Ne.symm e] using m2
          exact (Ahead.asymm ((List.pairwise_cons.1 h1).1 b m2') ((List.pairwise_cons.1 h2).1 a m1')).elim
      subst e
      rw [ih M (List.Perm.cons_inv h) (List.pairwise_cons.1 h1).2 (List.pairwise_cons.1 h2).2]
theorem IsOrder.unique {t : Int} {xs : List Int} {n : Nat} {L M : List Nat} (h : IsOrder t xs n L) (k : IsOrder t xs n M) : L = M :=
  perm_unique t xs L M (h.1.trans k.1.symm) h.2 k.2
theorem IsOrder.len {t : Int} {xs : List Int} {n : Nat} {L : List Nat} (h : IsOrder t xs n L) : L.length = n := by
  have := h.1.length_eq; simpa using this
theorem IsOrder.lt {t : Int} {xs : List Int} {n : Nat} {L : List Nat} (h : IsOrder t xs n L) (a : Nat) (ha : a ∈ L) : a < n := by
  have := h.1.subset ha; simpa using this
theorem IsOrder.getD_lt {t : Int} {xs : List Int} {n : Nat} {L : List Nat} (h : IsOrder t xs n L) (j : Nat) (hj : j < n) : L.getD j 0 < n := by
  have hl := h.len
  refine h.lt _ ?_
  rw [List.getD_eq_getElem?_getD, List.getElem?_eq_getElem (by omega)]
  exact List.getElem_mem _
theorem IsOrder.insert {t : Int} {xs : List Int} {n : Nat} {L : List Nat} (h : IsOrder t xs n L) (k : Nat) (hk : k ≤ n)
    (hd : ∀ j, k ≤ j → j < n → R t xs (L.getD j 0) < R t xs n) (ht : k = 0 ∨ R t xs n ≤ R t xs (L.getD (k - 1) 0)) :
    IsOrder t xs (n + 1) (L.take k ++ n :: L.drop k) := by
  have hl := h.len
  constructor
  · refine List.perm_middle.trans ?_
    rw [List.take_append_drop, List.range_succ]
    exact (List.Perm.cons n h.1).trans (List.perm_append_singleton n (List.range n)).symm
  · have hp := h.2
    rw [← List.take_append_drop k L, List.pairwise_append] at hp
    obtain ⟨p1, p2, p3⟩ := hp
    rw [List.pairwise_append, List.pairwise_cons]
    refine ⟨p1, ⟨fun b hb => ?_, p2⟩, fun a ha b hb => ?_⟩
    · obtain ⟨j, hj, rfl⟩ := List.mem_iff_getElem.1 hb
      have hj' : k + j < L.length := by simpa [Nat.lt_sub_iff_add_lt'] using hj
      have := hd (k + j) (by omega) (by omega)
      rw [List.getD_eq_getElem?_getD, List.getElem?_eq_getElem hj'] at this
      left
      simpa using this
    · rcases List.mem_cons.1 hb with rfl | hb
      · have ha' : a ∈ L := List.mem_of_mem_take ha
        have han := h.lt a ha'
        rcases ht with rfl | ht
        · simp at ha
        · have hk0 : 0 < k := by
            cases k with
            | zero => simp at ha
            | succ k => omega
          obtain ⟨j, hj, rfl⟩ := List.mem_iff_getElem.1 ha
          have hj' : j < k := by
            have : (L.take k).length ≤ k := by simp; omega
            omega
          have hjl : j < L.length := by omega
          have e : (L.take k)[j] = L[j] := by simp
          have e2 : L.getD (k - 1) 0 = L[k - 1]'(by omega) := by rw [List.getD_eq_getElem?_getD, List.getElem?_eq_getElem (by omega)]; rfl
          have hr : R t xs (L[k - 1]'(by omega)) ≤ R t xs L[j] := by
            by_cases ej : j = k - 1
            · subst ej; exact Int.le_refl _
            · exact Ahead.rest (List.pairwise_iff_getElem.1 h.2 j (k - 1) hjl (by omega) (by omega))
          rw [e2] at ht
          rw [e] at han ⊢
          unfold Ahead
          omega
      · exact p3 a ha b hb
def cf (t : Int) (xs : List Int) {n : Nat} (x y : Fin n) : Int :=
  let c (u v : Int) : Int := if u < v then -1 else if v < u then 1 else 0
  if c (R t xs y.val) (R t xs x.val) = 0 then c x.val y.val else c (R t xs y.val) (R t xs x.val)
theorem cf_neg (t : Int) (xs : List Int) {n : Nat} (x y : Fin n) : cf t xs x y < 0 ↔ Ahead t xs x.val y.val := by
  unfold cf Ahead
  generalize R t xs y.val = u
  generalize R t xs x.val = v
  simp only
  repeat' split
  all_goals omega
def allOf (n : Nat) : Array (Fin n) := Array.ofFn fun i => i
theorem allOf_vals (n : Nat) : (allOf n).toList.map Fin.val = List.range n := by
  apply List.ext_getElem
  · simp [allOf]
  · intro i h1 h2
    simp [allOf]
theorem extract_all {α : Type} (d : Array α) (n : Nat) (h : d.size = n) : d.extract 0 n = d := by
  subst h
  exact Array.extract_size
theorem isOrder_of_sorted (t : Int) (xs : List Int) (m : Nat) (d : Array (Fin (m + 1))) (hp : Go.Sort.PermIn 0 (allOf (m + 1)).size (allOf (m + 1)) d)
    (hs : Go.Sort.SortedIn (fun x y => decide (cf t xs x y < 0)) 0 (allOf (m + 1)).size d) : IsOrder t xs (m + 1) (d.toList.map Fin.val) := by
  obtain ⟨hsz, _, hperm⟩ := hp
  have hn : (allOf (m + 1)).size = m + 1 := by simp [allOf]
  rw [hn] at hsz hs hperm
  rw [extract_all d _ hsz, extract_all (allOf (m + 1)) _ hn] at hperm
  have hp2 : (d.toList.map Fin.val).Perm (List.range (m + 1)) := by
    rw [← allOf_vals]
    exact hperm.map _
  refine ⟨hp2, ?_⟩
  have nd : (d.toList.map Fin.val).Nodup := hp2.nodup_iff.2 List.nodup_range
  rw [List.pairwise_iff_getElem]
  intro i j hi hj hij
  have hi' : i < d.size := by simpa using hi
  have hj' : j < d.size := by simpa using hj
  have h := hs i j (Nat.zero_le _) hij (by omega)
  rw [getElem!_pos d i hi', getElem!_pos d j hj'] at h
  have hne : d[i].val ≠ d[j].val := by
    have := List.pairwise_iff_getElem.1 nd i j hi hj hij
    simpa using this
  simp only [decide_eq_false_iff_not, cf_neg] at h
  simp only [List.getElem_map, Array.getElem_toList]
  rcases Ahead.total t xs _ _ hne with k | k
  · exact k
  · exact absurd k h
def ints (L : List Nat) : List Int := L.map fun (i : Nat) => (i : Int)
theorem ints_len (L : List Nat) : (ints L).length = L.length := by simp [ints]
theorem ints_getD (L : List Nat) (j : Nat) : (ints L).getD j 0 = ((L.getD j 0 : Nat) : Int) := by
  unfold ints
  rw [List.getD_eq_getElem?_getD, List.getD_eq_getElem?_getD, List.getElem?_map]
  cases L[j]? <;> rfl
def rests (t : Int) (xs : List Int) (k : Nat) : List Int := (List.range k).map (R t xs)
theorem rests_len (t : Int) (xs : List Int) (k : Nat) : (rests t xs k).length = k := by simp [rests]
theorem rests_getD (t : Int) (xs : List Int) (k j : Nat) (h : j < k) : (rests t xs k).getD j 0 = R t xs j := by simp [rests, List.getD, h]
theorem rests_succ (t : Int) (xs : List Int) (k : Nat) : rests t xs (k + 1) = rests t xs k ++ [R t xs k] := by simp [rests, List.range_succ]
def OTells (t : Int) (xs : List Int) (L : List Nat) : Prop := (Weigh.Good xs ∧ Tot t ∧ IsOrder t xs xs.length L) ∨ (¬ (Weigh.Good xs ∧ Tot t) ∧ L = [])
theorem OTells.unique {t : Int} {xs : List Int} {L M : List Nat} (h : OTells t xs L) (k : OTells t xs M) : L = M := by
  rcases h with h | h
  · rcases k with k | k
    · exact h.2.2.unique k.2.2
    · exact absurd ⟨h.1, h.2.1⟩ k.1
  · rcases k with k | k
    · exact absurd ⟨k.1, k.2.1⟩ h.1
    · rw [h.2, k.2]
end Go.Proofs.YtnmeiiaipacplaaGreat.Order
namespace Go.Proofs.YtnmeiiaipacplaaGreat.Parts
open Weigh Quota Order
def SQ (t : Int) (xs : List Int) : Nat → Int
  | 0 => 0
  | k + 1 => SQ t xs k + Q t xs k
def SR (t : Int) (xs : List Int) : Nat → Int
  | 0 => 0
  | k + 1 => SR t xs k + R t xs k
theorem split (t : Int) (xs : List Int) (k : Nat) : t * S xs k = S xs xs.length * SQ t xs k + SR t xs k := by
  induction k with
  | zero => simp [S, SQ, SR]
  | succ k ih =>
    have e : t * xs.getD k 0 = S xs xs.length * Q t xs k + R t xs k := (Int.mul_ediv_add_emod _ _).symm
    show t * (S xs k + xs.getD k 0) = S xs xs.length * (SQ t xs k + Q t xs k) + (SR t xs k + R t xs k)
    rw [Int.mul_add, Int.mul_add, ih, e]
    generalize S xs xs.length * SQ t xs k = a
    generalize S xs xs.length * Q t xs k = b
    omega
theorem SR_bd (t : Int) (xs : List Int) (hg : Weigh.Good xs) (k : Nat) : 0 ≤ SR t xs k ∧ SR t xs k ≤ (k : Int) * (S xs xs.length - 1) := by
  induction k with
  | zero => simp [SR]
  | succ k ih =>
    have := R_lt t xs k hg
    have e : ((k + 1 : Nat) : Int) * (S xs xs.length - 1) = (k : Int) * (S xs xs.length - 1) + (S xs xs.length - 1) := by
      rw [Int.natCast_succ, Int.add_mul, Int.one_mul]
    show 0 ≤ SR t xs k + R t xs k ∧ SR t xs k + R t xs k ≤ _
    rw [e]
    generalize (k : Int) * (S xs xs.length - 1) = a at *
    omega
theorem SQ_mono (t : Int) (xs : List Int) (ht : Tot t) (hg : Weigh.Good xs) (k n : Nat) (hk : k ≤ n) (hn : n ≤ xs.length) : SQ t xs k ≤ SQ t xs n := by
  induction n with
  | zero => obtain rfl : k = 0 := by omega
            exact Int.le_refl _
  | succ n ih =>
    by_cases e : k = n + 1
    · subst e; exact Int.le_refl _
    · have := ih (by omega) (by omega)
      have := (Q_le t xs n ht hg (by omega)).1
      show _ ≤ SQ t xs n + Q t xs n
      omega
theorem missing (t : Int) (xs : List Int) (ht : Tot t) (hg : Weigh.Good xs) : S xs xs.length * (t - SQ t xs xs.length) = SR t xs xs.length ∧ 0 ≤ t - SQ t xs xs.length ∧ t - SQ t xs xs.length < xs.length := by
  have h := split t xs xs.length
  obtain ⟨r0, r1⟩ := SR_bd t xs hg xs.length
  have s0 := hg.2.2.1
  have n0 := hg.1.1
  have e : S xs xs.length * (t - SQ t xs xs.length) = SR t xs xs.length := by
    rw [Int.mul_sub, Int.mul_comm _ t, h]
    generalize S xs xs.length * SQ t xs xs.length = a
    omega
  generalize hs : S xs xs.length = s at *
  generalize hm : t - SQ t xs xs.length = m at *
  refine ⟨e, ?_, ?_⟩
  · apply Int.le_of_lt_add_one
    by_cases z : 0 ≤ m
    · omega
    · have : s * m ≤ s * (-1) := Int.mul_le_mul_of_nonneg_left (by omega) (by omega)
      rw [Int.mul_neg_one] at this
      omega
  · by_cases z : m < (xs.length : Int)
    · exact z
    · have h1 : s * (xs.length : Int) ≤ s * m := Int.mul_le_mul_of_nonneg_left (by omega) (by omega)
      have h2 : (xs.length : Int) * (s - 1) = s * (xs.length : Int) - (xs.length : Int) := by rw [Int.mul_sub, Int.mul_one, Int.mul_comm]
      omega
theorem missing_nat (t : Int) (xs : List Int) (ht : Tot t) (hg : Weigh.Good xs) : ∃ M : Nat, t - SQ t xs xs.length = (M : Int) ∧ M < xs.length := by
  obtain ⟨_, h1, h2⟩ := missing t xs ht hg
  obtain ⟨M, hM⟩ := Int.eq_ofNat_of_zero_le h1
  exact ⟨M, hM, by omega⟩
def wholes (t : Int) (xs : List Int) (k : Nat) : List Int := (List.range k).map (Q t xs)
theorem wholes_len (t : Int) (xs : List Int) (k : Nat) : (wholes t xs k).length = k := by simp [wholes]
theorem wholes_getD (t : Int) (xs : List Int) (k j : Nat) (h : j < k) : (wholes t xs k).getD j 0 = Q t xs j := by simp [wholes, List.getD, h]
theorem wholes_succ (t : Int) (xs : List Int) (k : Nat) : wholes t xs (k + 1) = wholes t xs k ++ [Q t xs k] := by simp [wholes, List.range_succ]
def bump (qs : List Int) (L : List Nat) : Nat → List Int
  | 0 => qs
  | m + 1 => (bump qs L m).set (L.getD m 0) ((bump qs L m).getD (L.getD m 0) 0 + 1)
theorem bump_len (qs : List Int) (L : List Nat) (m : Nat) : (bump qs L m).length = qs.length := by
  induction m with
  | zero => rfl
  | succ m ih => simp [bump, ih]
theorem getD_set (qs : List Int) (i j : Nat) (x : Int) (h : i < qs.length) : (qs.set i x).getD j 0 = if i = j then x else qs.getD j 0 := by
  simp only [List.getD_eq_getElem?_getD, List.getElem?_set]
  by_cases e : i = j
  · subst e; simp [h]
  · simp [e]
theorem getD_set_le (qs : List Int) (i j : Nat) (x : Int) : (qs.set i x).getD j 0 = if i = j ∧ i < qs.length then x else qs.getD j 0 := by
  by_cases h : i < qs.length
  · rw [getD_set qs i j x h]; simp [h]
  · rw [List.set_eq_of_length_le (by omega)]; simp [h]
theorem bump_bd (qs : List Int) (L : List Nat) (t : Int) (ht : 0 ≤ t) (h : ∀ j, 0 ≤ qs.getD j 0 ∧ qs.getD j 0 ≤ t) (m : Nat) : ∀ j, 0 ≤ (bump qs L m).getD j 0 ∧ (bump qs L m).getD j 0 ≤ t + (m : Int) := by
  induction m with
  | zero => intro j; have := h j; simp only [bump]; omega
  | succ m ih =>
    intro j
    rw [bump, getD_set_le]
    have h1 := ih (L.getD m 0)
    have h2 := ih j
    split <;> omega
theorem wholes_bd (t : Int) (xs : List Int) (ht : Tot t) (hg : Weigh.Good xs) (j : Nat) : 0 ≤ (wholes t xs xs.length).getD j 0 ∧ (wholes t xs xs.length).getD j 0 ≤ t := by
  by_cases h : j < xs.length
  · rw [wholes_getD t xs _ j h]
    exact Q_le t xs j ht hg h
  · have e : (wholes t xs xs.length).getD j 0 = 0 := by
      rw [List.getD_eq_getElem?_getD, List.getElem?_eq_none (by rw [wholes_len]; omega)]; rfl
    rw [e]
    exact ⟨Int.le_refl _, ht.1⟩
def STells (t : Int) (xs : List Int) (ps : List Int) (ok : Bool) : Prop :=
  (Weigh.Good xs ∧ Tot t ∧ ok = true ∧ ∃ L, ∃ M : Nat, IsOrder t xs xs.length L ∧ t - SQ t xs xs.length = (M : Int) ∧ M < xs.length ∧ ps = bump (wholes t xs xs.length) L M) ∨ (¬ (Weigh.Good xs ∧ Tot t) ∧ ok = false ∧ ps = [])
theorem STells.unique {t : Int} {xs ps ps' : List Int} {ok ok' : Bool} (h : STells t xs ps ok) (k : STells t xs ps' ok') : ps = ps' ∧ ok = ok' := by
  rcases h with ⟨h1, h2, h3, L, M, h4, h5, _, h6⟩ | h
  · rcases k with ⟨_, _, k3, L', M', k4, k5, _, k6⟩ | k
    · obtain rfl := h4.unique k4
      obtain rfl : M = M' := by omega
      exact ⟨h6.trans k6.symm, h3.trans k3.symm⟩
    · exact absurd ⟨h1, h2⟩ k.1
  · rcases k with ⟨k1, k2, _⟩ | k
    · exact absurd ⟨k1, k2⟩ h.1
    · exact ⟨h.2.2.trans k.2.2.symm, h.2.1.trans k.2.1.symm⟩
end Go.Proofs.YtnmeiiaipacplaaGreat.Parts
namespace Go.Proofs.YtnmeiiaipacplaaGreat.SOrder
open Go.ChangeShapes Go.WideShapes Go.ChangeAt Go.RowKit Ints Weigh Quota Order
theorem own_of_row {w : World} {base n : Nat} {v : Value} {vs : List Value} {xs : List Int} (h : w.ownsRow base 3 1 v n vs) (e : vs = xs.map (Value.int .i64)) (hv : ¬ v = .slice none 0 0) :
    ∃ g c, v = .slice (some ⟨g, 0, none⟩) n c ∧ Own w base g n c xs := by
  subst e
  have h' := h
  rcases h.2 with ⟨h1, _⟩ | ⟨g, c, cur, rfl, _⟩
  · exact absurd h1 hv
  · exact ⟨g, c, rfl, h'⟩
theorem own_of_row' {w : World} {base n n' : Nat} {v : Value} {vs : List Value} {xs : List Int} (h : w.ownsRow base 3 1 v n vs) (hn : n = n') (e : vs = xs.map (Value.int .i64)) (hv : ¬ v = .slice none 0 0) :
    ∃ g c, v = .slice (some ⟨g, 0, none⟩) n' c ∧ Own w base g n' c xs := by
  subst hn
  exact own_of_row h e hv
theorem Own.alloc {w : World} {base g n cap : Nat} {xs : List Int} (h : Own w base g n cap xs) (o : Obj) : Own (w.alloc o) base g n cap xs := World.ownsRow.alloc h o
theorem lit0 (w : World) (base : Nat) (hb : base ≤ w.heap.size) : Own (w.alloc (.cells #[] 3)) base w.heap.size 0 0 [] := World.ownsRow_lit w #[] 0 hb (by decide) rfl
theorem one_cell (w : World) (x : Int) : ∀ (j : Nat) (u : Value), [Value.int .i64 x][j]? = some u → (w.alloc (.cells #[Value.int .i64 x] 3)).cell? ((⟨w.heap.size, 0, none⟩ : Addr).add j) = some u := by
  intro j u hj
  match j, hj with
  | 0, hj => simp at hj; subst hj; simp [Addr.add]
theorem one_one (x : Int) : ∀ u ∈ [Value.int .i64 x], u.oneCell' = true := by
  intro u hu; simp at hu; subst hu; rfl
theorem part_cells {w : World} {base g n cap : Nat} {xs : List Int} (h : Own w base g n cap xs) (i m : Nat) (ad : Addr) (had : m = 0 ∨ ad = ⟨g, i, none⟩) (hm : i + m ≤ n) :
    ∀ (j : Nat) (u : Value), (((xs.drop i).take m).map (Value.int .i64))[j]? = some u → w.cell? (ad.add j) = some u := by
  intro j u hu
  have hj : j < m := by
    have := (List.getElem?_eq_some_iff.1 hu).1
    simp at this
    omega
  rcases had with rfl | rfl
  · omega
  have hl := h.len
  rw [Addr.add_lit]
  rw [h.at (i + j) (by omega)]
  rw [← hu, List.getElem?_map, List.getElem?_take, if_pos hj, List.getElem?_drop, List.getElem?_eq_getElem (by omega)]
  simp [List.getD, show i + j < xs.length by omega]
theorem ints_split (L : List Nat) (j k : Nat) : ints (L.take j ++ k :: L.drop j) = (ints L).take j ++ [(k : Int)] ++ (ints L).drop j := by
  simp [ints]
set_option maxRecDepth 100000 in
set_option maxHeartbeats 4000000 in
theorem sOrder_good (w : World) (t : Int) (g n cap : Nat) (xs : List Int) (hl : xs.length = n) (hg : g < w.heap.size) (h : At w g xs) (good : Weigh.Good xs) (ht : Tot t) :
    Calls Tryz.prog 122 #[.int .i64 t, .slice (some ⟨g, 0, none⟩) n cap] w fun e w' => ∃ L g' c, IsOrder t xs n L ∧ e = .returned (.slice (some ⟨g', 0, none⟩) n c) ∧ Own w' w.heap.size g' n c (ints L) ∧ Below w.heap.size w w' := by
  have n40 : n ≤ 40 := by have := good.1.2; omega
  have GT := hide (And.intro good ht)
  have H := hide h
  have HG := hide hg
  obtain ⟨i0, hi, hz0, hz1, hz2⟩ := info_parts info3
  clear good ht h hg
  go_enter Tryz.func122, Tryz.ntmps122
  go_wp2_with fail
  refine (sWeights _ g n cap xs true hl (by omega) ((unhide H).below (Below.alloc (Below.refl _ _) (Nat.le_refl _) _) (unhide HG)) (hide ⟨fun _ => (unhide GT).1, fun _ => rfl⟩)).mono ?_
  rintro e w1 ⟨rfl, hw1⟩
  go_wp2_with fail
  refine (sSome t 0 true _ (hide ⟨fun _ => (unhide GT).2, fun _ => rfl⟩)).mono ?_
  rintro e w2 ⟨rfl, hw2⟩
  subst hw2
  subst hw1
  go_wp2_with fail
  go_loopw [5, 6, 7] (fun o l i wr => ∃ (k : Nat) (L : List Nat) (gO cO gL cL : Nat), k ≤ n ∧ i = .int .i64 k ∧ o = .slice (some ⟨gO, 0, none⟩) k cO ∧ l = .slice (some ⟨gL, 0, none⟩) k cL ∧
      gO ≠ gL ∧ Own wr w.heap.size gO k cO (ints L) ∧ Own wr w.heap.size gL k cL (rests t xs k) ∧ IsOrder t xs k L ∧ Below w.heap.size w wr) (fun _ _ i _ => n - (intOf i).toNat)
  case atStart =>
    have a1 := lit0 w w.heap.size (Nat.le_refl _)
    have a2 : Own ((w.alloc (.cells #[] 3)).alloc (.cells #[] 3)) w.heap.size (w.heap.size + 1) 0 0 (rests t xs 0) := by
      have := lit0 (w.alloc (.cells #[] 3)) w.heap.size (by simp)
      rwa [World.size_alloc] at this
    refine ⟨0, [], _, _, _, _, by omega, rfl, rfl, rfl, ?_, Own.alloc a1 _, a2, ⟨List.Perm.refl _, List.Pairwise.nil⟩, ?_⟩
    · simp
    · exact ((Below.refl _ _).alloc (Nat.le_refl _) _).alloc (by simp) _
  case round =>
    obtain ⟨k, L, gO, cO, gL, cL, hk, rfl, rfl, rfl, hne, ownO, ownL, ord, hb⟩ := hrel
    by_cases lt : k < n
    · have c1 := sQuota wr t k (Q t xs k) (R t xs k) true g n cap xs hl (by omega) ((unhide H).below hb (unhide HG)) (hide (Or.inl ⟨(unhide GT).1, (unhide GT).2, ⟨by omega, by omega⟩, by simp, by simp, rfl⟩))
      go_wp2_with fail
      refine c1.mono ?_
      rintro e w1 ⟨rfl, m, rfl⟩
      have ownO1 : Own (wr.drewN m) w.heap.size gO k cO (ints L) := ownO
      have ownL1 : Own (wr.drewN m) w.heap.size gL k cL (rests t xs k) := ownL
      have hb1 : Below w.heap.size w (wr.drewN m) := below_drewN hb m
      clear ownO ownL hb c1
      generalize wr.drewN m = w1 at *
      have hs1 := hb1.size
      go_wp2_with (at_builtin; refine wpList_append_own _ rfl (.tmp 38) (.tmp 40) 43 rfl w.heap.size 3 i0 (.int .i64 0) 1 8 Tryz.underlying43 hi hz0 hz1 hz2 rfl (by decide) (.slice (some ⟨gL, 0, none⟩) k cL) k _ rfl (Own.alloc ownL1 _) ⟨w1.heap.size, 0, none⟩ 1 1 [.int .i64 (R t xs k)] rfl rfl (one_cell w1 _) (one_one _) (by unfold maxLen; omega) (by omega) (by simp; omega) ?_; intro v2 w2 own2 (gr2 : World.grownBy _ w2 (some gL)) nil2)
      obtain ⟨gL2, cL2, rfl, ownL2⟩ := own_of_row (xs := rests t xs (k + 1)) own2 (by rw [rests_succ]; simp) (by rw [nil2]; simp)
      have ownO2 := Own.kept (Own.alloc ownO1 (.cells #[Value.int .i64 (R t xs k)] 3)) gr2 (by simpa using hne)
      have hb2 : Below w.heap.size w w2 := (hb1.alloc hs1 _).grown gr2 (by simp; omega) (by simpa using ownL1.lt.1)
      have hs2 := hb2.size
      have lO := ownO2.lt
      have lL := ownL2.lt
      have lenL := ord.len
      have cO0 : k ≤ cO := by
        rcases ownO2.2 with ⟨z, _⟩ | ⟨_, c', _, z, _, _, z2, _⟩
        · simp at z
        · simp at z; omega
      clear own2 gr2 nil2 ownO1 ownL1 hb1
      go_loop [11] (fun j => ∃ p : Nat, p ≤ k ∧ j = .int .i64 p ∧ Hid (∀ i, p ≤ i → i < k → R t xs (L.getD i 0) < R t xs k)) (fun j => (intOf j).toNat)
      case atStart => exact ⟨k, by omega, rfl, hide (fun i h1 h2 => by omega)⟩
      case round =>
        obtain ⟨p, hp, rfl, HD⟩ := hrel
        cases p with
        | zero =>
          by_cases hc : cO = 0
          · obtain rfl : k = 0 := by omega
            subst hc
            go_wp2_with (at_builtin; refine wpList_append_own _ rfl (.tmp 60) (.tmp 63) 43 rfl w2.heap.size 3 i0 (.int .i64 0) 1 8 Tryz.underlying43 hi hz0 hz1 hz2 rfl (by decide) (.slice (some ⟨w2.heap.size, 0, none⟩) 0 0) 0 _ rfl (lit0 w2 _ (Nat.le_refl _)) ⟨gO, 0, none⟩ (0) (0) ((((ints L).drop 0).take (0)).map (Value.int .i64)) rfl (by simp [ints_len, lenL] <;> omega) (part_cells (Own.alloc ownO2 _) 0 (0) _ (Or.inr rfl) (by omega)) (ints_oneCell _ _) (by unfold maxLen; omega) (by omega) (by simp) ?_)
            intro v3 w3 own3 (gr3 : World.grownBy _ w3 (some w2.heap.size)) nil3
            obtain ⟨g3, c3, rfl, o3⟩ := own_of_row' (n' := 0) (xs := (ints L).take (0)) own3 (by omega) (by simp) (by first | exact nil3 | (rw [nil3]; simp))
            have hs3 := gr3.size
            have o3' := Own.alloc o3 (.cells #[Value.int .i64 ((0 : Nat) : Int)] 3)
            have ownO3 := Own.kept (Own.alloc ownO2 (.cells #[] 3)) gr3 (by simp; omega)
            have ownL3 := Own.kept (Own.alloc ownL2 (.cells #[] 3)) gr3 (by simp; omega)
            have hb3 : Below w.heap.size w w3 := (hb2.alloc hs2 _).grown gr3 (by simp; omega) (by simp; omega)
            have lg3 := o3.lt
            rw [World.size_alloc] at hs3
            clear own3 gr3 nil3
            go_wp2_with (at_builtin; refine wpList_append_own _ rfl (.tmp 65) (.tmp 67) 43 rfl w2.heap.size 3 i0 (.int .i64 0) 1 8 Tryz.underlying43 hi hz0 hz1 hz2 rfl (by decide) (.slice (some ⟨g3, 0, none⟩) (0) c3) (0) _ rfl o3' ⟨w3.heap.size, 0, none⟩ 1 1 [.int .i64 ((0 : Nat) : Int)] rfl rfl (one_cell w3 _) (one_one _) (by unfold maxLen; omega) (by omega) (by simp; omega) ?_)
            intro v4 w4 own4 (gr4 : World.grownBy _ w4 (some g3)) nil4
            obtain ⟨g4, c4, rfl, o4⟩ := own_of_row' (n' := 0 + 1) (xs := (ints L).take (0) ++ [((0 : Nat) : Int)]) own4 (by omega) (by simp) (by first | exact nil4 | (rw [nil4]; simp))
            have hs4 := gr4.size
            have ownO4 := Own.kept (Own.alloc ownO3 (.cells #[Value.int .i64 ((0 : Nat) : Int)] 3)) gr4 (by simp; omega)
            have ownL4 := Own.kept (Own.alloc ownL3 (.cells #[Value.int .i64 ((0 : Nat) : Int)] 3)) gr4 (by simp; omega)
            have hb4 : Below w.heap.size w w4 := (hb3.alloc (by omega) _).grown gr4 (by simp; omega) (by simp; omega)
            have lg4 := o4.lt
            rw [World.size_alloc] at hs4
            clear own4 gr4 nil4 o3' o3
            have ord5 := ord.insert (0) (by omega) (unhide HD) (Or.inl rfl)
            have o5 : Own w4 w2.heap.size g4 ((0) + 1) c4 (ints (L.take (0) ++ (0) :: L.drop (0))) := by
              rw [ints_split, List.drop_of_length_le (by rw [ints_len, lenL]; omega), List.append_nil]
              exact o4
            have lg5 := o5.lt
            go_wp2_with (at_builtin; refine wpList_append_own _ rfl (.tmp 69) (.tmp 72) 43 rfl w2.heap.size 3 i0 (.int .i64 0) 1 8 Tryz.underlying43 hi hz0 hz1 hz2 rfl (by decide) (.slice (some ⟨g4, 0, none⟩) ((0) + 1) c4) ((0) + 1) _ rfl o5 ⟨gO, 0, none⟩ 0 0 [] rfl rfl (by intro j u hj; simp at hj) (by intro u hu; simp at hu) (by unfold maxLen; omega) (by omega) (by omega) ?_)
            intro v5 w5 own5 (gr5 : World.grownBy _ w5 (some g4)) nil5
            obtain ⟨g5, c5, rfl, o6⟩ := own_of_row' (n' := (0) + 1) (xs := ints (L.take (0) ++ (0) :: L.drop (0))) own5 (by omega) (by simp) (by first | exact nil5 | (rw [nil5]; simp))
            have hs5 := gr5.size
            have ownL5 := Own.kept ownL4 gr5 (by simp; omega)
            have hb5 : Below w.heap.size w w5 := hb4.grown gr5 (by omega) (by simp; omega)
            have lg6 := o6.lt
            clear own5 gr5 nil5 o5 o4 ownO4 ownO3 ownL4 ownL3 ownO2 ownL2
            go_wp2
            go_roundw
            case rel => exact ⟨(0) + 1, _, g5, c5, gL2, cL2, by omega, by go_num, by go_num, by go_num, by omega, Own.mono o6 (by omega), ownL5, ord5, hb5⟩
            case measure => simp [intOf]; omega

          · have HT' := hide (show (0 : Nat) = 0 ∨ R t xs k ≤ R t xs (L.getD (0 - 1) 0) from Or.inl rfl)
            go_wp2_with (at_builtin; refine wpList_append_own _ rfl (.tmp 60) (.tmp 63) 43 rfl w2.heap.size 3 i0 (.int .i64 0) 1 8 Tryz.underlying43 hi hz0 hz1 hz2 rfl (by decide) (.slice (some ⟨w2.heap.size, 0, none⟩) 0 0) 0 _ rfl (lit0 w2 _ (Nat.le_refl _)) ⟨gO, 0, none⟩ (0) cO ((((ints L).drop 0).take (0)).map (Value.int .i64)) rfl (by simp [ints_len, lenL] <;> omega) (part_cells (Own.alloc ownO2 _) 0 (0) _ (Or.inr rfl) (by omega)) (ints_oneCell _ _) (by unfold maxLen; omega) (by omega) (by simp) ?_)
            intro v3 w3 own3 (gr3 : World.grownBy _ w3 (some w2.heap.size)) nil3
            obtain ⟨g3, c3, rfl, o3⟩ := own_of_row' (n' := 0) (xs := (ints L).take (0)) own3 (by omega) (by simp) (by first | exact nil3 | (rw [nil3]; simp))
            have hs3 := gr3.size
            have o3' := Own.alloc o3 (.cells #[Value.int .i64 (k : Int)] 3)
            have ownO3 := Own.kept (Own.alloc ownO2 (.cells #[] 3)) gr3 (by simp; omega)
            have ownL3 := Own.kept (Own.alloc ownL2 (.cells #[] 3)) gr3 (by simp; omega)
            have hb3 : Below w.heap.size w w3 := (hb2.alloc hs2 _).grown gr3 (by simp; omega) (by simp; omega)
            have lg3 := o3.lt
            rw [World.size_alloc] at hs3
            clear own3 gr3 nil3
            go_wp2_with (at_builtin; refine wpList_append_own _ rfl (.tmp 65) (.tmp 67) 43 rfl w2.heap.size 3 i0 (.int .i64 0) 1 8 Tryz.underlying43 hi hz0 hz1 hz2 rfl (by decide) (.slice (some ⟨g3, 0, none⟩) (0) c3) (0) _ rfl o3' ⟨w3.heap.size, 0, none⟩ 1 1 [.int .i64 (k : Int)] rfl rfl (one_cell w3 _) (one_one _) (by unfold maxLen; omega) (by omega) (by simp; omega) ?_)
            intro v4 w4 own4 (gr4 : World.grownBy _ w4 (some g3)) nil4
            obtain ⟨g4, c4, rfl, o4⟩ := own_of_row' (n' := 0 + 1) (xs := (ints L).take (0) ++ [(k : Int)]) own4 (by omega) (by simp) (by first | exact nil4 | (rw [nil4]; simp))
            have hs4 := gr4.size
            have ownO4 := Own.kept (Own.alloc ownO3 (.cells #[Value.int .i64 (k : Int)] 3)) gr4 (by simp; omega)
            have ownL4 := Own.kept (Own.alloc ownL3 (.cells #[Value.int .i64 (k : Int)] 3)) gr4 (by simp; omega)
            have hb4 : Below w.heap.size w w4 := (hb3.alloc (by omega) _).grown gr4 (by simp; omega) (by simp; omega)
            have lg4 := o4.lt
            rw [World.size_alloc] at hs4
            clear own4 gr4 nil4 o3' o3
            go_wp2_with (at_builtin; refine wpList_append_own _ rfl (.tmp 69) (.tmp 72) 43 rfl w2.heap.size 3 i0 (.int .i64 0) 1 8 Tryz.underlying43 hi hz0 hz1 hz2 rfl (by decide) (.slice (some ⟨g4, 0, none⟩) (0 + 1) c4) (0 + 1) _ rfl o4 ⟨gO, 0, none⟩ (k - (0)) (cO - (0)) ((((ints L).drop (0)).take (k - (0))).map (Value.int .i64)) rfl (by simp [ints_len, lenL]) (part_cells ownO4 (0) (k - (0)) _ (Or.inr rfl) (by omega)) (ints_oneCell _ _) (by unfold maxLen; omega) (by omega) (by omega) ?_)
            intro v5 w5 own5 (gr5 : World.grownBy _ w5 (some g4)) nil5
            obtain ⟨g5, c5, rfl, o5⟩ := own_of_row' (n' := k + 1) (xs := ints (L.take (0) ++ k :: L.drop (0))) own5 (by omega) (by rw [ints_split]; simp [List.take_of_length_le, ints_len, lenL]) (by first | exact nil5 | (rw [nil5]; simp))
            have hs5 := gr5.size
            have ownL5 := Own.kept ownL4 gr5 (by simp; omega)
            have hb5 : Below w.heap.size w w5 := hb4.grown gr5 (by omega) (by simp; omega)
            have lg5 := o5.lt
            have ord5 := ord.insert (0) (by omega) (unhide HD) (Or.inl rfl)
            clear own5 gr5 nil5 o4 ownO4 ownO3 ownL4 ownL3 ownO2 ownL2
            go_wp2
            go_roundw
            case rel => exact ⟨k + 1, _, g5, c5, gL2, cL2, by omega, by go_num, rfl, rfl, by omega, Own.mono o5 (by omega), ownL5, ord5, hb5⟩
            case measure => simp [intOf]; omega

        | succ q =>
          have e1 := ownO2.at q (by rw [ints_len, lenL]; omega)
          rw [ints_getD] at e1
          have ha := ord.getD_lt q (by omega)
          have e2 := ownL2.at (L.getD q 0) (by rw [rests_len]; omega)
          rw [rests_getD t xs (k + 1) _ (by omega)] at e2
          have HQ := hide (show R t xs (L.getD q 0) < R t xs k → ∀ i, q ≤ i → i < k → R t xs (L.getD i 0) < R t xs k from fun h i h1 h2 => by
            by_cases e : i = q
            · subst e; exact h
            · exact unhide HD i (by omega) h2)
          have HT := hide (show ¬ R t xs (L.getD q 0) < R t xs k → (q + 1 = 0 ∨ R t xs k ≤ R t xs (L.getD (q + 1 - 1) 0)) from fun h => Or.inr (by simpa using h))
          generalize L.getD q 0 = a at *
          by_cases s : R t xs a < R t xs k
          · go_wp2
            go_round
            case rel => exact ⟨q, by omega, by go_num, hide ((unhide HQ) s)⟩
            case measure => simp [intOf]
          · by_cases hc : cO = q + 1
            · have HT' := hide ((unhide HT) s)
              obtain rfl : k = q + 1 := by omega
              subst hc
              go_wp2_with (at_builtin; refine wpList_append_own _ rfl (.tmp 60) (.tmp 63) 43 rfl w2.heap.size 3 i0 (.int .i64 0) 1 8 Tryz.underlying43 hi hz0 hz1 hz2 rfl (by decide) (.slice (some ⟨w2.heap.size, 0, none⟩) 0 0) 0 _ rfl (lit0 w2 _ (Nat.le_refl _)) ⟨gO, 0, none⟩ (q + 1) (q + 1) ((((ints L).drop 0).take (q + 1)).map (Value.int .i64)) rfl (by simp [ints_len, lenL] <;> omega) (part_cells (Own.alloc ownO2 _) 0 (q + 1) _ (Or.inr rfl) (by omega)) (ints_oneCell _ _) (by unfold maxLen; omega) (by omega) (by simp) ?_)
              intro v3 w3 own3 (gr3 : World.grownBy _ w3 (some w2.heap.size)) nil3
              obtain ⟨g3, c3, rfl, o3⟩ := own_of_row' (n' := q + 1) (xs := (ints L).take (q + 1)) own3 (by omega) (by simp) (by first | exact nil3 | (rw [nil3]; simp))
              have hs3 := gr3.size
              have o3' := Own.alloc o3 (.cells #[Value.int .i64 ((q + 1 : Nat) : Int)] 3)
              have ownO3 := Own.kept (Own.alloc ownO2 (.cells #[] 3)) gr3 (by simp; omega)
              have ownL3 := Own.kept (Own.alloc ownL2 (.cells #[] 3)) gr3 (by simp; omega)
              have hb3 : Below w.heap.size w w3 := (hb2.alloc hs2 _).grown gr3 (by simp; omega) (by simp; omega)
              have lg3 := o3.lt
              rw [World.size_alloc] at hs3
              clear own3 gr3 nil3
              go_wp2_with (at_builtin; refine wpList_append_own _ rfl (.tmp 65) (.tmp 67) 43 rfl w2.heap.size 3 i0 (.int .i64 0) 1 8 Tryz.underlying43 hi hz0 hz1 hz2 rfl (by decide) (.slice (some ⟨g3, 0, none⟩) (q + 1) c3) (q + 1) _ rfl o3' ⟨w3.heap.size, 0, none⟩ 1 1 [.int .i64 ((q + 1 : Nat) : Int)] rfl rfl (one_cell w3 _) (one_one _) (by unfold maxLen; omega) (by omega) (by simp; omega) ?_)
              intro v4 w4 own4 (gr4 : World.grownBy _ w4 (some g3)) nil4
              obtain ⟨g4, c4, rfl, o4⟩ := own_of_row' (n' := q + 1 + 1) (xs := (ints L).take (q + 1) ++ [((q + 1 : Nat) : Int)]) own4 (by omega) (by simp) (by first | exact nil4 | (rw [nil4]; simp))
              have hs4 := gr4.size
              have ownO4 := Own.kept (Own.alloc ownO3 (.cells #[Value.int .i64 ((q + 1 : Nat) : Int)] 3)) gr4 (by simp; omega)
              have ownL4 := Own.kept (Own.alloc ownL3 (.cells #[Value.int .i64 ((q + 1 : Nat) : Int)] 3)) gr4 (by simp; omega)
              have hb4 : Below w.heap.size w w4 := (hb3.alloc (by omega) _).grown gr4 (by simp; omega) (by simp; omega)
              have lg4 := o4.lt
              rw [World.size_alloc] at hs4
              clear own4 gr4 nil4 o3' o3
              have ord5 := ord.insert (q + 1) (by omega) (unhide HD) (unhide HT')
              have o5 : Own w4 w2.heap.size g4 ((q + 1) + 1) c4 (ints (L.take (q + 1) ++ (q + 1) :: L.drop (q + 1))) := by
                rw [ints_split, List.drop_of_length_le (by rw [ints_len, lenL]; omega), List.append_nil]
                exact o4
              have lg5 := o5.lt
              go_wp2_with (at_builtin; refine wpList_append_own _ rfl (.tmp 69) (.tmp 72) 43 rfl w2.heap.size 3 i0 (.int .i64 0) 1 8 Tryz.underlying43 hi hz0 hz1 hz2 rfl (by decide) (.slice (some ⟨g4, 0, none⟩) ((q + 1) + 1) c4) ((q + 1) + 1) _ rfl o5 ⟨gO, 0, none⟩ 0 0 [] rfl rfl (by intro j u hj; simp at hj) (by intro u hu; simp at hu) (by unfold maxLen; omega) (by omega) (by omega) ?_)
              intro v5 w5 own5 (gr5 : World.grownBy _ w5 (some g4)) nil5
              obtain ⟨g5, c5, rfl, o6⟩ := own_of_row' (n' := (q + 1) + 1) (xs := ints (L.take (q + 1) ++ (q + 1) :: L.drop (q + 1))) own5 (by omega) (by simp) (by first | exact nil5 | (rw [nil5]; simp))
              have hs5 := gr5.size
              have ownL5 := Own.kept ownL4 gr5 (by simp; omega)
              have hb5 : Below w.heap.size w w5 := hb4.grown gr5 (by omega) (by simp; omega)
              have lg6 := o6.lt
              clear own5 gr5 nil5 o5 o4 ownO4 ownO3 ownL4 ownL3 ownO2 ownL2
              go_wp2
              go_roundw
              case rel => exact ⟨(q + 1) + 1, _, g5, c5, gL2, cL2, by omega, by go_num, by go_num, by go_num, by omega, Own.mono o6 (by omega), ownL5, ord5, hb5⟩
              case measure => simp [intOf]; omega

            · have HT' := hide ((unhide HT) s)
              go_wp2_with (at_builtin; refine wpList_append_own _ rfl (.tmp 60) (.tmp 63) 43 rfl w2.heap.size 3 i0 (.int .i64 0) 1 8 Tryz.underlying43 hi hz0 hz1 hz2 rfl (by decide) (.slice (some ⟨w2.heap.size, 0, none⟩) 0 0) 0 _ rfl (lit0 w2 _ (Nat.le_refl _)) ⟨gO, 0, none⟩ (q + 1) cO ((((ints L).drop 0).take (q + 1)).map (Value.int .i64)) rfl (by simp [ints_len, lenL] <;> omega) (part_cells (Own.alloc ownO2 _) 0 (q + 1) _ (Or.inr rfl) (by omega)) (ints_oneCell _ _) (by unfold maxLen; omega) (by omega) (by simp) ?_)
              intro v3 w3 own3 (gr3 : World.grownBy _ w3 (some w2.heap.size)) nil3
              obtain ⟨g3, c3, rfl, o3⟩ := own_of_row' (n' := q + 1) (xs := (ints L).take (q + 1)) own3 (by omega) (by simp) (by first | exact nil3 | (rw [nil3]; simp))
              have hs3 := gr3.size
              have o3' := Own.alloc o3 (.cells #[Value.int .i64 (k : Int)] 3)
              have ownO3 := Own.kept (Own.alloc ownO2 (.cells #[] 3)) gr3 (by simp; omega)
              have ownL3 := Own.kept (Own.alloc ownL2 (.cells #[] 3)) gr3 (by simp; omega)
              have hb3 : Below w.heap.size w w3 := (hb2.alloc hs2 _).grown gr3 (by simp; omega) (by simp; omega)
              have lg3 := o3.lt
              rw [World.size_alloc] at hs3
              clear own3 gr3 nil3
              go_wp2_with (at_builtin; refine wpList_append_own _ rfl (.tmp 65) (.tmp 67) 43 rfl w2.heap.size 3 i0 (.int .i64 0) 1 8 Tryz.underlying43 hi hz0 hz1 hz2 rfl (by decide) (.slice (some ⟨g3, 0, none⟩) (q + 1) c3) (q + 1) _ rfl o3' ⟨w3.heap.size, 0, none⟩ 1 1 [.int .i64 (k : Int)] rfl rfl (one_cell w3 _) (one_one _) (by unfold maxLen; omega) (by omega) (by simp; omega) ?_)
              intro v4 w4 own4 (gr4 : World.grownBy _ w4 (some g3)) nil4
              obtain ⟨g4, c4, rfl, o4⟩ := own_of_row' (n' := q + 1 + 1) (xs := (ints L).take (q + 1) ++ [(k : Int)]) own4 (by omega) (by simp) (by first | exact nil4 | (rw [nil4]; simp))
              have hs4 := gr4.size
              have ownO4 := Own.kept (Own.alloc ownO3 (.cells #[Value.int .i64 (k : Int)] 3)) gr4 (by simp; omega)
              have ownL4 := Own.kept (Own.alloc ownL3 (.cells #[Value.int .i64 (k : Int)] 3)) gr4 (by simp; omega)
              have hb4 : Below w.heap.size w w4 := (hb3.alloc (by omega) _).grown gr4 (by simp; omega) (by simp; omega)
              have lg4 := o4.lt
              rw [World.size_alloc] at hs4
              clear own4 gr4 nil4 o3' o3
              go_wp2_with (at_builtin; refine wpList_append_own _ rfl (.tmp 69) (.tmp 72) 43 rfl w2.heap.size 3 i0 (.int .i64 0) 1 8 Tryz.underlying43 hi hz0 hz1 hz2 rfl (by decide) (.slice (some ⟨g4, 0, none⟩) (q + 1 + 1) c4) (q + 1 + 1) _ rfl o4 ⟨gO, q + 1, none⟩ (k - (q + 1)) (cO - (q + 1)) ((((ints L).drop (q + 1)).take (k - (q + 1))).map (Value.int .i64)) rfl (by simp [ints_len, lenL]) (part_cells ownO4 (q + 1) (k - (q + 1)) _ (Or.inr rfl) (by omega)) (ints_oneCell _ _) (by unfold maxLen; omega) (by omega) (by omega) ?_)
              intro v5 w5 own5 (gr5 : World.grownBy _ w5 (some g4)) nil5
              obtain ⟨g5, c5, rfl, o5⟩ := own_of_row' (n' := k + 1) (xs := ints (L.take (q + 1) ++ k :: L.drop (q + 1))) own5 (by omega) (by rw [ints_split]; simp [List.take_of_length_le, ints_len, lenL]) (by first | exact nil5 | (rw [nil5]; simp))
              have hs5 := gr5.size
              have ownL5 := Own.kept ownL4 gr5 (by simp; omega)
              have hb5 : Below w.heap.size w w5 := hb4.grown gr5 (by omega) (by simp; omega)
              have lg5 := o5.lt
              have ord5 := ord.insert (q + 1) (by omega) (unhide HD) (unhide HT')
              clear own5 gr5 nil5 o4 ownO4 ownO3 ownL4 ownL3 ownO2 ownL2
              go_wp2
              go_roundw
              case rel => exact ⟨k + 1, _, g5, c5, gL2, cL2, by omega, by go_num, rfl, rfl, by omega, Own.mono o5 (by omega), ownL5, ord5, hb5⟩
              case measure => simp [intOf]; omega

    · obtain rfl : k = n := by omega
      have HO := hide ownO
      have HB := hide hb
      clear ownO ownL hb
      go_wp2
      go_ret
      exact ⟨L, gO, cO, ord, rfl, unhide HO, unhide HB⟩
end Go.Proofs.YtnmeiiaipacplaaGreat.SOrder
namespace Go.Proofs.YtnmeiiaipacplaaGreat.SShares
open Go.ChangeShapes Go.WideShapes Go.ChangeAt Go.RowKit Ints Weigh Quota Order Parts SOrder
set_option maxRecDepth 100000 in
set_option maxHeartbeats 4000000 in
theorem sShares_good (w : World) (t : Int) (g n cap : Nat) (xs : List Int) (hl : xs.length = n) (hg : g < w.heap.size) (h : At w g xs) (good : Weigh.Good xs) (ht : Tot t) :
    Calls Tryz.prog 71 #[.int .i64 t, .slice (some ⟨g, 0, none⟩) n cap] w fun e w' => ∃ L, ∃ M : Nat, ∃ g' c, IsOrder t xs n L ∧ t - SQ t xs n = (M : Int) ∧ M < n ∧ e = .returned (.tuple #[.slice (some ⟨g', 0, none⟩) n c, .bool true]) ∧ Own w' w.heap.size g' n c (bump (wholes t xs n) L M) ∧ Below w.heap.size w w' := by
  have n40 : n ≤ 40 := by have := good.1.2; omega
  obtain ⟨M, hM, hMn⟩ := missing_nat t xs ht good
  rw [hl] at hM hMn
  have HM := hide hM
  have BD := hide (fun (k : Nat) (hk : k ≤ n) => (show 0 ≤ SQ t xs k ∧ SQ t xs k ≤ t from by
    have a1 := SQ_mono t xs ht good 0 k (by omega) (by omega)
    have a2 := SQ_mono t xs ht good k n hk (by omega)
    have a3 : SQ t xs 0 = 0 := rfl
    omega))
  have QB := hide (fun (k : Nat) (hk : k < n) => Q_le t xs k ht good (by omega))
  have WB := hide (fun L m j => bump_bd (wholes t xs n) L t ht.1 (by rw [← hl]; exact wholes_bd t xs ht good) m j)
  have t1 := ht.2
  have t0 := ht.1
  have GT := hide (And.intro good ht)
  have H := hide h
  have HG := hide hg
  obtain ⟨i0, hi, hz0, hz1, hz2⟩ := info_parts info3
  clear good ht h hg hM
  go_enter Tryz.func71, Tryz.ntmps71
  go_wp2_with fail
  refine (sWeights _ g n cap xs true hl (by omega) ((unhide H).below (Below.alloc (Below.refl _ _) (Nat.le_refl _) _) (unhide HG)) (hide ⟨fun _ => (unhide GT).1, fun _ => rfl⟩)).mono ?_
  rintro e w1 ⟨rfl, hw1⟩
  go_wp2_with fail
  refine (sSome t 0 true _ (hide ⟨fun _ => (unhide GT).2, fun _ => rfl⟩)).mono ?_
  rintro e w2 ⟨rfl, hw2⟩
  subst hw2
  subst hw1
  go_wp2_with fail
  go_loopw [6, 7, 8] (fun o l i wr => ∃ (k : Nat) (gO cO : Nat), k ≤ n ∧ i = .int .i64 k ∧ o = .slice (some ⟨gO, 0, none⟩) k cO ∧ l = .int .i64 (t - SQ t xs k) ∧ Own wr w.heap.size gO k cO (wholes t xs k) ∧ Below w.heap.size w wr) (fun _ _ i _ => n - (intOf i).toNat)
  case atStart =>
    refine ⟨0, _, _, by omega, rfl, rfl, ?_, lit0 w w.heap.size (Nat.le_refl _), (Below.refl _ _).alloc (Nat.le_refl _) _⟩
    simp [SQ]
  case round =>
    obtain ⟨k, gO, cO, hk, rfl, rfl, rfl, ownO, hb⟩ := hrel
    by_cases lt : k < n
    · have c1 := sQuota wr t k (Q t xs k) (R t xs k) true g n cap xs hl (by omega) ((unhide H).below hb (unhide HG)) (hide (Or.inl ⟨(unhide GT).1, (unhide GT).2, ⟨by omega, by omega⟩, by simp, by simp, rfl⟩))
      obtain ⟨q0, q1⟩ := unhide QB k lt
      obtain ⟨d0, d1⟩ := unhide BD k hk
      have E := hide (show SQ t xs (k + 1) = SQ t xs k + Q t xs k from rfl)
      go_wp2_with fail
      refine c1.mono ?_
      rintro e w1 ⟨rfl, m, rfl⟩
      have ownO1 : Own (wr.drewN m) w.heap.size gO k cO (wholes t xs k) := ownO
      have hb1 : Below w.heap.size w (wr.drewN m) := below_drewN hb m
      clear ownO hb c1
      generalize wr.drewN m = w1 at *
      have hs1 := hb1.size
      have lO := ownO1.lt
      go_wp2_with (at_builtin; refine wpList_append_own _ rfl (.tmp 39) (.tmp 41) 43 rfl w.heap.size 3 i0 (.int .i64 0) 1 8 Tryz.underlying43 hi hz0 hz1 hz2 rfl (by decide) (.slice (some ⟨gO, 0, none⟩) k cO) k _ rfl (SOrder.Own.alloc ownO1 _) ⟨w1.heap.size, 0, none⟩ 1 1 [.int .i64 (Q t xs k)] rfl rfl (one_cell w1 _) (one_one _) (by unfold maxLen; omega) (by omega) (by simp; omega) ?_)
      intro v2 w2 own2 (gr2 : World.grownBy _ w2 (some gO)) nil2
      obtain ⟨g2, c2, rfl, o2⟩ := own_of_row' (n' := k + 1) (xs := wholes t xs (k + 1)) own2 (by omega) (by rw [wholes_succ]; simp) (by first | exact nil2 | (rw [nil2]; simp))
      have hb2 : Below w.heap.size w w2 := (hb1.alloc hs1 _).grown gr2 (by simp; omega) (by simp; omega)
      have O2 := hide o2
      have B2 := hide hb2
      clear own2 gr2 nil2 ownO1 hb1 o2 hb2
      generalize Q t xs k = q at *
      generalize SQ t xs k = sq at *
      go_wp2
      go_roundw
      case rel => exact ⟨k + 1, g2, c2, by omega, by go_num, rfl, by rw [unhide E]; congr 1; omega, unhide O2, unhide B2⟩
      case measure => simp [intOf]; omega
    · obtain rfl : k = n := by omega
      have hs := hb.size
      have c1 := sOrder_good wr t g k cap xs hl (Nat.lt_of_lt_of_le (unhide HG) hs) ((unhide H).below hb (unhide HG)) (unhide GT).1 (unhide GT).2
      rw [unhide HM]
      have lO := ownO.lt
      clear BD QB
      go_wp2_with fail
      refine c1.mono ?_
      rintro e w3 ⟨L, gL, cL, ord, rfl, ownL, b3⟩
      have ownO := ownO.below b3 ownO.lt.2
      have hb := next hb b3
      have lL := ownL.lt
      have hlen := ord.len
      have ORD := hide ord
      clear c1 b3 ord
      go_wp2_with fail
      go_loopw [13] (fun i wx => ∃ (j : Nat), j ≤ M ∧ i = .int .i64 j ∧ Own wx w.heap.size gO k cO (bump (wholes t xs k) L j) ∧ Own wx wr.heap.size gL k cL (ints L) ∧ Below w.heap.size w wx) (fun i _ => M - (intOf i).toNat)
      case atStart => exact ⟨0, by omega, rfl, ownO, ownL, hb⟩
      case round =>
        clear ownO ownL hb
        obtain ⟨j, hj, rfl, ownO, ownL, hb⟩ := hrel
        by_cases lt : j < M
        · have e1 := ownL.at j (by rw [ints_len, hlen]; omega)
          rw [ints_getD] at e1
          have ha := (unhide ORD).getD_lt j (by omega)
          have e2 := ownO.at (L.getD j 0) (by rw [ownO.len]; exact ha)
          have ff := ownO.free (L.getD j 0)
          obtain ⟨v0, v1⟩ := unhide WB L j (L.getD j 0)
          obtain ⟨p, q⟩ := ownO.set (L.getD j 0) ((bump (wholes t xs k) L j).getD (L.getD j 0) 0 + 1)
          have P : Hid (Own _ w.heap.size gO k cO (bump (wholes t xs k) L (j + 1))) := p
          have PL := hide (ownL.kept q (by simp; omega))
          have PB := hide (hb.setCell (p := ⟨gO, L.getD j 0, none⟩) lO.1 (.int .i64 ((bump (wholes t xs k) L j).getD (L.getD j 0) 0 + 1)))
          clear p q ownO ownL hb
          generalize (bump (wholes t xs k) L j).getD (L.getD j 0) 0 = v at *
          generalize L.getD j 0 = a at *
          have i1 : (0 : Int) ≤ (a : Int) := by omega
          have i2 : (a : Int) < (k : Int) := by omega
          have i3 : (0 : Int) ≤ (j : Int) := by omega
          have i4 : (j : Int) < (k : Int) := by omega
          go_wp2_with fail
          go_region
          go_wp2
          go_roundw
          case rel => exact ⟨j + 1, by omega, by go_num, unhide P, unhide PL, (unhide PB).drew⟩
          case measure => simp [intOf]; omega
        · obtain rfl : j = M := by omega
          have O := hide ownO
          have B := hide hb
          clear ownO ownL hb
          go_wp2
          go_ret2
          exact ⟨L, j, gO, cO, unhide ORD, unhide HM, hMn, rfl, unhide O, unhide B⟩
end Go.Proofs.YtnmeiiaipacplaaGreat.SShares
namespace Go.Proofs.YtnmeiiaipacplaaGreat.ICmp
open Go.ChangeShapes Go.WideShapes Go.ChangeAt Go.RowKit Ints Weigh Quota Order
def cmp (x y : Int) : Int := if x < y then -1 else if y < x then 1 else 0
theorem iCompare (x y : Int) (w : World) : Calls Tryz.prog 189 #[.int .i64 x, .int .i64 y] w fun e w' => e = .returned (.int .i64 (cmp x y)) ∧ w' = w := by
  by_cases h1 : x < y
  · have e : Hid (cmp x y = -1) := by unfold Hid cmp; rw [if_pos h1]
    go_enter Tryz.func189, Tryz.ntmps189
    go_wp2
    go_ret
    exact ⟨by rw [unhide e]; rfl, rfl⟩
  · by_cases h2 : y < x
    · have e : Hid (cmp x y = 1) := by unfold Hid cmp; rw [if_neg h1, if_pos h2]
      go_enter Tryz.func189, Tryz.ntmps189
      go_wp2
      go_ret
      exact ⟨by rw [unhide e]; rfl, rfl⟩
    · have e : Hid (cmp x y = 0) := by unfold Hid cmp; rw [if_neg h1, if_neg h2]
      go_enter Tryz.func189, Tryz.ntmps189
      go_wp2
      go_ret
      exact ⟨by rw [unhide e]; rfl, rfl⟩
theorem iOr (x y : Int) (g : Nat) (w : World) (h0 : w.cell? ⟨g, 0, none⟩ = some (.int .i64 x)) (h1 : w.cell? ⟨g, 1, none⟩ = some (.int .i64 y)) :
    Calls Tryz.prog 188 #[.slice (some ⟨g, 0, none⟩) 2 2] w fun e w' => e = .returned (.int .i64 (if x = 0 then y else x)) ∧ w' = w := by
  go_enter Tryz.func188, Tryz.ntmps188
  go_wp2
  go_loop [8] (fun i => ∃ (k : Nat), k ≤ 2 ∧ i = .int .i64 k ∧ (1 ≤ k → x = 0) ∧ (2 ≤ k → y = 0)) (fun i => 2 - (intOf i).toNat)
  case atStart => exact ⟨0, by omega, rfl, by omega, by omega⟩
  case round =>
    obtain ⟨k, hk, rfl, p1, p2⟩ := hrel
    rcases (show k = 0 ∨ k = 1 ∨ k = 2 by omega) with rfl | rfl | rfl
    · clear p1 p2
      by_cases z : x = 0
      · subst z
        go_wp2
        go_round
        case rel => exact ⟨1, by omega, rfl, by simp, by omega⟩
        case measure => simp [intOf]
      · have zb : (x != 0) = true := by rw [bne_iff_ne]; exact z
        go_wp2
        go_ret
        exact ⟨rfl, rfl⟩
    · obtain rfl := p1 (by omega)
      clear p1 p2
      by_cases z : y = 0
      · subst z
        go_wp2
        go_round
        case rel => exact ⟨2, by omega, rfl, by simp, by simp⟩
        case measure => simp [intOf]
      · have zb : (y != 0) = true := by rw [bne_iff_ne]; exact z
        go_wp2
        go_ret
        exact ⟨rfl, rfl⟩
    · obtain rfl := p1 (by omega)
      obtain rfl := p2 (by omega)
      clear p1 p2
      go_wp2
      go_ret
      exact ⟨rfl, rfl⟩
theorem iOr' (x y z : Int) (g : Nat) (w : World) (hz : Hid (z = if x = 0 then y else x)) (h0 : w.cell? ⟨g, 0, none⟩ = some (.int .i64 x)) (h1 : w.cell? ⟨g, 1, none⟩ = some (.int .i64 y)) :
    Calls Tryz.prog 188 #[.slice (some ⟨g, 0, none⟩) 2 2] w fun e w' => e = .returned (.int .i64 z) ∧ w' = w := by
  rw [unhide hz]
  exact iOr x y g w h0 h1
set_option maxRecDepth 100000 in
set_option maxHeartbeats 2000000 in
theorem iCloses (W : World) (a b n g bx : Nat) (ra rb : Int) (ha : a < n) (hb : b < n) (h40 : n ≤ 1048576) (hx : W.cell? ⟨bx, 0, none⟩ = some (.slice (some ⟨g, 0, none⟩) n n)) (hra : W.cell? ⟨g, a, none⟩ = some (.int .i64 ra)) (hrb : W.cell? ⟨g, b, none⟩ = some (.int .i64 rb)) :
    Calls Tryz.prog 199 #[.int .i64 a, .int .i64 b, .pointer (some ⟨bx, 0, none⟩)] W fun e w' => e = .returned (.int .i64 (if cmp rb ra = 0 then cmp a b else cmp rb ra)) ∧ ∃ q os, w' = Go.Sort.grow (W.drewN q) os := by
  have i1 : (0 : Int) ≤ (a : Int) := by omega
  have i2 : (a : Int) < (n : Int) := by omega
  have i3 : (0 : Int) ≤ (b : Int) := by omega
  have i4 : (b : Int) < (n : Int) := by omega
  obtain ⟨z, hz⟩ : ∃ z, z = if cmp rb ra = 0 then cmp a b else cmp rb ra := ⟨_, rfl⟩
  rw [← hz]
  have HZ := hide hz
  clear hz
  go_enter Tryz.func199, Tryz.ntmps199
  go_wp2_with fail
  go_region_held3 (fun w' => w'.cell? ⟨bx, 0, none⟩ = some (.slice (some ⟨g, 0, none⟩) n n) ∧ w'.cell? ⟨g, a, none⟩ = some (.int .i64 ra) ∧ w'.cell? ⟨g, b, none⟩ = some (.int .i64 rb)) (go_keep)
    (first | (go_at_call 189; refine (iCompare _ _ _).mono ?_; rintro e w' ⟨rfl, rfl⟩) | (go_at_call 188; refine (iOr' _ _ z _ _ HZ (by simp) (by simp)).mono ?_; rintro e w' ⟨rfl, rfl⟩))
  all_goals go_wp2
  all_goals (go_ret; exact ⟨rfl, 1, #[_], by rw [Go.Sort.alloc_eq_grow]; rfl⟩)
end Go.Proofs.YtnmeiiaipacplaaGreat.ICmp
namespace Go.Proofs.YtnmeiiaipacplaaGreat.PostMore
open Bals
theorem formed_mem {ls : List T3} : Formed ls ↔ ls.length ≤ 160 ∧ ∀ p ∈ ls, NoOk p.1 ∧ NoOk p.2.1 ∧ Amt p.2.2 := by
  constructor
  · rintro ⟨h1, h2⟩
    refine ⟨h1, fun p hp => ?_⟩
    obtain ⟨i, hi, rfl⟩ := mem_getD hp
    exact h2 i hi
  · rintro ⟨h1, h2⟩
    exact ⟨h1, fun i hi => h2 _ (getD_mem hi)⟩
section
variable {ps ls qs rs : List T3} {xs : List Int} {c : Int}
end
end Go.Proofs.YtnmeiiaipacplaaGreat.PostMore
namespace Go.Proofs.YtnmeiiaipacplaaGreat.Swap
open Bals Bks PostMore
theorem upd_comm (f : Int → Int → Int) (a i x b j y : Int) (h : ¬ (b = a ∧ j = i)) : upd (upd f a i x) b j y = upd (upd f b j y) a i x := by
  funext c k
  unfold upd
  by_cases h1 : c = b ∧ k = j
  · by_cases h2 : c = a ∧ k = i
    · exact absurd ⟨h1.1.symm.trans h2.1, h1.2.symm.trans h2.2⟩ h
    · rw [if_pos h1, if_neg h2, if_pos h1]
  · rw [if_neg h1]
    by_cases h2 : c = a ∧ k = i
    · rw [if_pos h2, if_pos h2]
    · rw [if_neg h2, if_neg h2, if_neg h1]
theorem posts_swap (p : T3) : ∀ (ls : List T3) (f : Int → Int → Int), (∀ q ∈ ls, ¬ (q.1 = p.1 ∧ q.2.1 = p.2.1)) → posts f (p :: ls) = posts f (ls ++ [p])
  | [], f, _ => rfl
  | q :: r, f, h => by
    have hq := h q (by simp)
    have ih := posts_swap p r (upd f q.1 q.2.1 (f q.1 q.2.1 + q.2.2)) (fun x hx => h x (by simp [hx]))
    have e1 : upd f p.1 p.2.1 (f p.1 p.2.1 + p.2.2) q.1 q.2.1 = f q.1 q.2.1 := upd_other _ _ _ _ _ _ hq
    have e2 : upd f q.1 q.2.1 (f q.1 q.2.1 + q.2.2) p.1 p.2.1 = f p.1 p.2.1 := upd_other _ _ _ _ _ _ (fun k => hq ⟨k.1.symm, k.2.symm⟩)
    show _ = posts f (q :: (r ++ [p]))
    rw [posts, posts, posts, ← ih, posts, e1, e2, upd_comm f p.1 p.2.1 _ q.1 q.2.1 _ hq]
    by_cases c1 : -1000000000000000 ≤ f p.1 p.2.1 + p.2.2 ∧ f p.1 p.2.1 + p.2.2 ≤ 1000000000000000
    · rw [if_pos c1, if_pos c1]
    · rw [if_neg c1, if_neg c1]
      split <;> rfl
theorem lacks_mem {f : Int → Int → Int} {ls : List T3} {s : List Int} : Lacks f ls s ↔ ∃ q ∈ ls, f q.1 q.2.1 < 0 ∧ q.1 ∉ s := by
  constructor
  · rintro ⟨k, hk, h⟩
    exact ⟨el3 ls k, getD_mem hk, h⟩
  · rintro ⟨q, hq, h⟩
    obtain ⟨k, hk, rfl⟩ := mem_getD hq
    exact ⟨k, hk, h⟩
theorem sumI_snoc (p : T3) (i : Int) : ∀ ls : List T3, sumI (ls ++ [p]) i = sumI (p :: ls) i
  | [] => rfl
  | q :: r => by
    have := sumI_snoc p i r
    simp only [sumI, List.cons_append] at this ⊢
    omega
theorem post_swap {ps ls : List T3} {s : List Int} {p : T3} {qs : List T3} {c : Int} (h : ∀ q ∈ ls, ¬ (q.1 = p.1 ∧ q.2.1 = p.2.1)) : IsPost ps (ls ++ [p]) s qs c ↔ IsPost ps (p :: ls) s qs c := by
  have e1 : Formed (ls ++ [p]) ↔ Formed (p :: ls) := by
    rw [formed_mem, formed_mem]
    simp only [List.length_append, List.length_cons, List.length_nil, List.mem_append, List.mem_cons, List.not_mem_nil, or_false]
    constructor
    · rintro ⟨a, b⟩
      exact ⟨by omega, fun q hq => b q (hq.elim .inr .inl)⟩
    · rintro ⟨a, b⟩
      exact ⟨by omega, fun q hq => b q (hq.elim .inr .inl)⟩
  have e2 : Even (ls ++ [p]) ↔ Even (p :: ls) := by
    unfold Even
    constructor
    · intro a i; rw [← sumI_snoc]; exact a i
    · intro a i; rw [sumI_snoc]; exact a i
  have e3 : posts (val ps) (ls ++ [p]) = posts (val ps) (p :: ls) := (posts_swap p ls _ h).symm
  have e4 : ∀ f, Lacks f (ls ++ [p]) s ↔ Lacks f (p :: ls) s := by
    intro f
    rw [lacks_mem, lacks_mem]
    simp only [List.mem_append, List.mem_cons, List.not_mem_nil, or_false]
    constructor
    · rintro ⟨q, hq, a⟩
      exact ⟨q, hq.elim .inr .inl, a⟩
    · rintro ⟨q, hq, a⟩
      exact ⟨q, hq.elim .inr .inl, a⟩
  unfold IsPost
  simp only [e1, e2, e3, e4]
theorem posted_swap {b b' : Bk} {ls : List T3} {p : T3} {c : Int} (h : ∀ q ∈ ls, ¬ (q.1 = p.1 ∧ q.2.1 = p.2.1)) (k : IsPosted b (ls ++ [p]) b' c) : IsPosted b (p :: ls) b' c := by
  obtain ⟨qs, pc, hp, h'⟩ := k
  exact ⟨qs, pc, (post_swap h).1 hp, h'⟩
end Go.Proofs.YtnmeiiaipacplaaGreat.Swap
