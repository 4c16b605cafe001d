/- Texts of one proof, one behind the other: PayTellI. -/
import Derived.Test.YtnmeiiaipacplaaGreatRows
import Derived.Test.YtnmeiiaipacplaaGreatUG1
import Derived.Test.YtnmeiiaipacplaaGreatUG2
import Derived.Test.YtnmeiiaipacplaaGreatUG3
import Derived.Test.YtnmeiiaipacplaaGreatUG4
import Derived.Test.YtnmeiiaipacplaaGreatUG5
import Derived.Test.YtnmeiiaipacplaaGreatUG6
import Derived.Test.YtnmeiiaipacplaaGreatUG7
import Derived.Test.YtnmeiiaipacplaaGreatUG8
import Derived.Test.YtnmeiiaipacplaaGreatUG9
set_option linter.unusedVariables false
set_option linter.unusedSimpArgs false
namespace Go.Proofs.YtnmeiiaipacplaaGreat.PayTellI
open Go.ChangeShapes Go.WideShapes Go.ChangeAt Go.RowKit BMem Bks ILists BHelp Ans ICopied ICmdB IHave ICmdF
open SIssue (six_alloc ow_six_alloc box_six_alloc to_wb off_box)
open IssueTellI (says_and more)
open IBalsFit (one_more all_one)
open ITrade (at_new)
open Lots (Says says_of NoOk)
open SMove (AnsM)
open Pay (IsPay)
open SPay (ToldP)
structure TW (w W : World) (x : Bx) (pp pc py tt : Int) : Prop where
  r : Rd W x
  c : Cl W w.heap.size x
  n1 : W.cell? ⟨w.heap.size + 1, 0, none⟩ = some (.int .i64 pp)
  n2 : W.cell? ⟨w.heap.size + 1 + 1, 0, none⟩ = some (.int .i64 pc)
  n3 : W.cell? ⟨w.heap.size + 1 + 1 + 1, 0, none⟩ = some (.int .i64 py)
  n4 : W.cell? ⟨w.heap.size + 1 + 1 + 1 + 1, 0, none⟩ = some (.int .i64 tt)
  v : Box W w.heap.size (w.heap.size + 1 + 1 + 1 + 1 + 1) (.slice none 0 0) (.slice none 0 0) (.slice none 0 0) (.slice none 0 0) (.slice none 0 0) (.int .i64 0)
  b : Below w.heap.size w W
theorem TW.step {w W W' : World} {x : Bx} {pp pc py tt : Int} (h : TW w W x pp pc py tt) (k : Below W.heap.size W W') : TW w W' x pp pc py tt := by
  have l := h.v.lt
  exact ⟨h.r.below k, h.c.below k (by omega), (k.cell (p := ⟨w.heap.size + 1, 0, none⟩) (by simp <;> omega)).trans h.n1, (k.cell (p := ⟨w.heap.size + 1 + 1, 0, none⟩) (by simp <;> omega)).trans h.n2, (k.cell (p := ⟨w.heap.size + 1 + 1 + 1, 0, none⟩) (by simp <;> omega)).trans h.n3, (k.cell (p := ⟨w.heap.size + 1 + 1 + 1 + 1, 0, none⟩) (by simp <;> omega)).trans h.n4, h.v.below k (by omega), h.b.trans (k.mono h.b.size)⟩
theorem TW.start {w : World} {x : Bx} {pp pc py tt : Int} (h : Rd w x) : TW w ((((((w.alloc (.cells #[.slice (some ⟨x.ga, 0, none⟩) x.b.ac.length x.ca, .slice (some ⟨x.gi, 0, none⟩) x.b.ic.length x.ci, .slice (some ⟨x.gb, 0, none⟩) x.b.bs.length x.cb, .slice (some ⟨x.gl, 0, none⟩) x.b.ls.length x.cl, .slice (some ⟨x.gt, 0, none⟩) x.b.ts.length x.ct, .int .i64 x.b.lot] 36)).alloc (.cells #[.int .i64 pp] 3)).alloc (.cells #[.int .i64 pc] 3)).alloc (.cells #[.int .i64 py] 3)).alloc (.cells #[.int .i64 tt] 3)).alloc (.cells #[.slice none 0 0, .slice none 0 0, .slice none 0 0, .slice none 0 0, .slice none 0 0, .int .i64 0] 36)) x pp pc py tt := by
  have b : Below (w.heap.size + 1) (w.alloc (.cells #[.slice (some ⟨x.ga, 0, none⟩) x.b.ac.length x.ca, .slice (some ⟨x.gi, 0, none⟩) x.b.ic.length x.ci, .slice (some ⟨x.gb, 0, none⟩) x.b.bs.length x.cb, .slice (some ⟨x.gl, 0, none⟩) x.b.ls.length x.cl, .slice (some ⟨x.gt, 0, none⟩) x.b.ts.length x.ct, .int .i64 x.b.lot] 36)) ((((((w.alloc (.cells #[.slice (some ⟨x.ga, 0, none⟩) x.b.ac.length x.ca, .slice (some ⟨x.gi, 0, none⟩) x.b.ic.length x.ci, .slice (some ⟨x.gb, 0, none⟩) x.b.bs.length x.cb, .slice (some ⟨x.gl, 0, none⟩) x.b.ls.length x.cl, .slice (some ⟨x.gt, 0, none⟩) x.b.ts.length x.ct, .int .i64 x.b.lot] 36)).alloc (.cells #[.int .i64 pp] 3)).alloc (.cells #[.int .i64 pc] 3)).alloc (.cells #[.int .i64 py] 3)).alloc (.cells #[.int .i64 tt] 3)).alloc (.cells #[.slice none 0 0, .slice none 0 0, .slice none 0 0, .slice none 0 0, .slice none 0 0, .int .i64 0] 36)) :=
    (((((Below.refl _ _).alloc (by simp) _).alloc (by simp <;> omega) _).alloc (by simp <;> omega) _).alloc (by simp <;> omega) _).alloc (by simp <;> omega) _
  refine ⟨h.below (((Below.refl w.heap.size w).alloc (Nat.le_refl _) _).trans (b.mono (by omega))), (boxed w x 36).below b (by omega), ?_, ?_, ?_, ?_, Box.made _ _ _ _ _ _ (by simp <;> omega) (by simp), ((Below.refl w.heap.size w).alloc (Nat.le_refl _) _).trans (b.mono (by omega))⟩
  · exact more (more (more (more (cell_new _ _ _ (by simp)) (by simp) _) (by simp <;> omega) _) (by simp <;> omega) _) (by simp <;> omega) _
  · exact more (more (more (cell_new _ _ _ (by simp)) (by simp) _) (by simp <;> omega) _) (by simp <;> omega) _
  · exact more (more (cell_new _ _ _ (by simp)) (by simp) _) (by simp <;> omega) _
  · exact more (cell_new _ _ _ (by simp)) (by simp) _
set_option maxRecDepth 100000 in
set_option maxHeartbeats 8000000 in
theorem iTell (w : World) (x : Bx) (pp pc py tt : Int) (h : Rd w x) :
    Calls Tryz.prog 22 #[.agg #[.slice (some ⟨x.ga, 0, none⟩) x.b.ac.length x.ca, .slice (some ⟨x.gi, 0, none⟩) x.b.ic.length x.ci, .slice (some ⟨x.gb, 0, none⟩) x.b.bs.length x.cb, .slice (some ⟨x.gl, 0, none⟩) x.b.ls.length x.cl, .slice (some ⟨x.gt, 0, none⟩) x.b.ts.length x.ct, .int .i64 x.b.lot], .int .i64 pp, .int .i64 pc, .int .i64 py, .int .i64 tt] w (AnsM (ToldP x.b pp pc py tt) (IsPay x.b pp pc py tt) w) := by
  obtain ⟨b1, h1⟩ := says_of (∀ y ∈ [pp, pc, py], NoOk y)
  obtain ⟨b2, h2⟩ := says_of (0 ≤ tt ∧ tt ≤ 1000000000000000)
  have HT := hide (show Says (b1 && (b2)) (NoOk pp ∧ NoOk pc ∧ NoOk py ∧ (0 ≤ tt ∧ tt ≤ 1000000000000000)) from by
    have a := says_and h1 (h2)
    refine ⟨fun e => ?_, fun r => a.of ⟨?_, r.2.2.2⟩⟩
    · have := a.1 e
      exact ⟨this.1 pp (by simp), this.1 pc (by simp), this.1 py (by simp), this.2⟩
    · intro y hy
      simp only [List.mem_cons, List.not_mem_nil, or_false] at hy
      rcases hy with rfl | rfl | rfl
      · exact r.1
      · exact r.2.1
      · exact r.2.2.1)
  have H1 := hide h1
  have H2 := hide h2
  have S0 := hide (TW.start (pp := pp) (pc := pc) (py := py) (tt := tt) h)
  clear h1 h2 h
  go_enter Tryz.func22, Tryz.ntmps22
  go_wp2_with fail
  have S1 := hide ((unhide S0).step (one_more _ (.cells #[.int .i64 pp, .int .i64 pc, .int .i64 py] 3)))
  refine (iNumbers _ (w.heap.size + 1 + 1 + 1 + 1 + 1 + 1) 3 3 [pp, pc, py] b1 rfl (by omega) (by simp) (at_new _ [pp, pc, py] _ (by simp) rfl) (unhide H1)).mono ?_
  rintro e w2 ⟨rfl, bb⟩
  have S2 := hide ((unhide S1).step bb)
  clear bb S1 S0
  obtain ⟨c0, c1, c2, c3, c4, c5⟩ := (unhide S2).c
  have m1 := (unhide S2).n1
  have m2 := (unhide S2).n2
  have m3 := (unhide S2).n3
  have m4 := (unhide S2).n4
  have hmf : ∀ (fn : Fn) (first cp : Array Value) (w : World), (Instr.makeFunc fn first cp).run Tryz.prog w = .ok (.func fn first cp) w := fun _ _ _ _ => rfl
  have HF := hide (show Ok x.b → (NoOk pp ∧ NoOk pc ∧ NoOk py ∧ (0 ≤ tt ∧ tt ≤ 1000000000000000)) → ∀ (u : World) (z : Bx), z.b = x.b → Var u w2.heap.size (w2.heap.size + 1) z → Ow u (w2.heap.size + 4) z → Below w2.heap.size w2 u → Calls Tryz.prog 80 (#[.pointer (some ⟨w2.heap.size + 1, 0, none⟩)] ++ #[.pointer (some ⟨w.heap.size + 1, 0, none⟩), .pointer (some ⟨w.heap.size + 1 + 1, 0, none⟩), .pointer (some ⟨w.heap.size + 1 + 1 + 1, 0, none⟩), .pointer (some ⟨w.heap.size + 1 + 1 + 1 + 1, 0, none⟩)]) u (Does (FxI.DoneP (IsPay x.b pp pc py tt) x.b) w2.heap.size (w2.heap.size + 1) u) from by
    intro ok ta u z hz V O bb
    have l := (unhide S2).v.lt
    have q := PayI.iClosure u z w2.heap.size (w2.heap.size + 1) (w.heap.size + 1) (w.heap.size + 1 + 1) (w.heap.size + 1 + 1 + 1) (w.heap.size + 1 + 1 + 1 + 1) pp pc py tt ⟨(bb.cell (p := ⟨w.heap.size + 1, 0, none⟩) (by simp <;> omega)).trans m1, (bb.cell (p := ⟨w.heap.size + 1 + 1, 0, none⟩) (by simp <;> omega)).trans m2, (bb.cell (p := ⟨w.heap.size + 1 + 1 + 1, 0, none⟩) (by simp <;> omega)).trans m3, (bb.cell (p := ⟨w.heap.size + 1 + 1 + 1 + 1, 0, none⟩) (by simp <;> omega)).trans m4⟩ (by omega) (by omega) (by omega) (by omega) (by rw [hz]; exact ⟨ok, ta⟩) V O (by omega)
    rw [hz] at q
    exact q)
  cases b1
  rotate_left
  go_wp2_with fail
  refine (IHave.iFrom 0 tt b2 _ (unhide H2)).mono ?_
  rintro e v1 ⟨rfl, hv⟩
  rw [hv]
  clear hv
  cases b2
  all_goals
    (clear H1 H2
     go_wp2_with fail
     refine (ICmd.iCmd _ x _ (NoOk pp ∧ NoOk pc ∧ NoOk py ∧ (0 ≤ tt ∧ tt ≤ 1000000000000000)) 80 _ (FxI.DoneP (IsPay x.b pp pc py tt) x.b) (unhide S2).r (unhide HT) (fun _ _ => rfl) (unhide HF)).mono ?_
     clear HF HT
     intro e w3 hA
     obtain ⟨a0, a1, a2, a3, a4, n0, n1, n2, n3, n4, k0, k1, k2, k3, k4, l, t, c, rfl, fin, bb⟩ := fin_of hA
     have S3 := hide ((unhide S2).step bb)
     have FN := hide fin
     have lw : w.heap.size + 1 + 1 + 1 + 1 + 1 < w2.heap.size := (unhide S2).v.lt.2
     have lw3 : w.heap.size + 1 + 1 + 1 + 1 + 1 < w3.heap.size := (unhide S3).v.lt.2
     have lw4 : w.heap.size + 1 + 1 + 1 + 1 + 1 ≠ w3.heap.size := by omega
     clear hA fin bb c0 c1 c2 c3 c4 c5 m1 m2 m3 m4
     have r0 := (unhide S3).v.c0
     have r1 := (unhide S3).v.c1
     have r2 := (unhide S3).v.c2
     have r3 := (unhide S3).v.c3
     have r4 := (unhide S3).v.c4
     have r5 := (unhide S3).v.c5
     have f0 := (unhide S3).v.free 0
     have f1 := (unhide S3).v.free 1
     have f2 := (unhide S3).v.free 2
     have f3 := (unhide S3).v.free 3
     have f4 := (unhide S3).v.free 4
     have f5 := (unhide S3).v.free 5
     go_wp2
     refine to_wb (fun W => Box W w.heap.size (w.heap.size + 1 + 1 + 1 + 1 + 1) (.slice a0 n0 k0) (.slice a1 n1 k1) (.slice a2 n2 k2) (.slice a3 n3 k3) (.slice a4 n4 k4) (.int .i64 l) ∧ Fin ((NoOk pp ∧ NoOk pc ∧ NoOk py ∧ (0 ≤ tt ∧ tt ≤ 1000000000000000)) ∧ Ok x.b) x.b (FxI.DoneP (IsPay x.b pp pc py tt) x.b) w2.heap.size a0 a1 a2 a3 a4 n0 n1 n2 n3 n4 k0 k1 k2 k3 k4 l t c W ∧ Below w.heap.size w W) ?_ ?_
     · exact ⟨(box_six (unhide S3).v _ _ _ _ _ _).1, (unhide FN).six (unhide S3).v _ _ _ _ _ _, six (unhide S3).b (by omega) _ _ _ _ _ _⟩
     rintro W ⟨X, FI, B⟩
     have g0 := X.c0
     have g1 := X.c1
     have g2 := X.c2
     have g3 := X.c3
     have g4 := X.c4
     have g5 := X.c5
     exact bodyPost_ret (v := .tuple #[.agg #[.slice a0 n0 k0, .slice a1 n1 k1, .slice a2 n2 k2, .slice a3 n3 k3, .slice a4 n4 k4, .int .i64 l], .int .i64 t, .int .i64 c]) (by simp [results, Tryz.results22, go_sem, g0, g1, g2, g3, g4, g5]) rfl (by
         have A := fin_ansM (w := w) (Q := IsPay x.b pp pc py tt) FI (unhide S2).b.size B (fun b' t h => h.done) (fun b' t c h hc => h.not hc)
         rcases A with ⟨a, a2, a3⟩ | ⟨a, a2⟩
         · exact .inl ⟨fun hh => a ⟨hh.2, hh.1⟩, a2, a3⟩
         · exact .inr ⟨⟨a.2, a.1⟩, a2⟩))
end Go.Proofs.YtnmeiiaipacplaaGreat.PayTellI
